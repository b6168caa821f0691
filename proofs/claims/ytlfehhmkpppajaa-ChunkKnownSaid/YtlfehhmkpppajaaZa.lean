/-
 Contracts of this seat: what loops and calls leave, for all inputs. No condition.
-/
import Derived.Test.YtlfehhmkpppajaaSycp
import Derived.Test.YtlfehhmkpppajaaSyfm
import Derived.Test.YtlfehhmkpppajaaCo
set_option linter.unusedSimpArgs false
set_option linter.unusedVariables false
namespace Go.Proofs.Ytlfehhmkpppajaa.Za
open Go.RowKit Go.Ev Go.Proofs.Ytlfehhmkpppajaa.Co


def wI (c : Int) : Int := iopI .mul .u32 (iopI .add .u32 (iopI .mul .u32 2 c) 1) 2654435761
def stepI (n c : Int) : Int := iopI .add .u32 (iopI .mul .u32 3 n) (wI c)
def sumN (n : Int) (l : List Int) : Int := l.foldl stepI n
/-- Three times, again and again. -/
def tripI : Nat → Int → Int
 | 0, n => n
 | k + 1, n => tripI k (3 * n % 4294967296)
/-- The ring behind n bytes, x[o..). -/
def ringN (x : List Int) (o : Int) : Nat → List Int
 | 0 => List.replicate 16 0
 | n + 1 => (ringN x o n).set (n % 16) ((x[(o + n).toNat]?).getD 0)
/-- The sum of the last sixteen of n bytes. -/
def winI (x : List Int) (o n : Int) : Int := sumN 0 (prt x (if n ≤ 16 then o else o + n - 16) (o + n))
/-- A ring behind all bytes of a list; the sum of its last sixteen. -/
def ringL (l : List Int) : List Int := ringN l 0 l.length
def winL (l : List Int) : Int := winI l 0 l.length
def rollI (s o c : Int) : Int := iopI .add .u32 (iopI .mul .u32 3 (iopI .sub .u32 s (iopI .mul .u32 (wI o) 14348907))) (wI c)
/-- The sum behind a push. -/
def pushI (s n : Int) (r : List Int) (c : Int) : Int := if 16 ≤ n then rollI s ((r[(n % 16).toNat]?).getD 0) c else stepI s c
def twoI (x : List Int) (o n : Int) (y : List Int) (p m : Int) : List Int := prt x o (o + n) ++ prt y p (p + m)
def markI (i : Int) : Int := 160 + i % 90
def lentI (l : List Int) : List Int := l ++ [markI l.length, markI (l.length + 1), markI (l.length + 2)]
/-- Does a chunk of n bytes end where i bytes came? -/
def endB (x : List Int) (o i n : Int) : Bool := decide (n = 1024 ∨ 64 ≤ n ∧ winI x o i < 16777216)
/-- The sizes of the chunks that end within the next r bytes, n bytes being left where i came; how many are left then. -/
def cutsN (x : List Int) (o : Int) : Nat → Int → Int → List Int × Int
 | 0, _, n => ([], n)
 | r + 1, i, n => if endB x o (i + 1) (n + 1) then ((n + 1) :: (cutsN x o r (i + 1) 0).1, (cutsN x o r (i + 1) 0).2) else cutsN x o r (i + 1) (n + 1)
abbrev txZa0 : E := (.bi .sel (.var 2) (.bi .add (.var 3) (.var 0)))
abbrev txZa1 : E := (.bi .pair (.bi .add (.var 1) (.int 1)) (.int 0))
abbrev txZa2 : E := (.bi .pair (.bi .add (.var 4) (.int 1)) (.int 0))
abbrev txZa3 : E := (.bi .pair (.var 0) (.bi .pair (.int 0) (.int 0)))
abbrev txZa4 : E := (.bi .pair (.var 0) (.bi .pair (.var 1) (.int 0)))
abbrev txZa5 : E := (.bi .pair (.var 1) (.bi .pair (.var 10) (.int 0)))
abbrev txZa6 : E := (.bi .pair (.int 0) (.bi .pair (.lits []) (.int 0)))
abbrev txZa7 : E := (.bi .sel (.var 7) (.bi (.iop .rem .i64) (.var 8) (.int 16)))
abbrev txZa8 : E := (.bi .app (.un .one (.bi .add (.var 1) (.int 1))) (.lits []))
abbrev txZa9 : E := (.bi .pair (.bi .add (.var 0) (.int 1)) (.bi .pair (.int 1) (.int 0)))
abbrev txZa10 : E := (.bi .pair (.bi .add (.var 0) (.int 1)) (.bi .pair (.int 0) (.int 0)))
abbrev txZa11 : E := (.bi .pair (.bi .add (.var 0) (.int 1)) txZa1)
abbrev txZa12 : E := (.bi .pair (.var 2) (.bi .pair (.var 3) txZa2))
abbrev txZa13 : E := (.bi .pair (.var 3) (.bi .pair (.var 4) txZa3))
abbrev txZa14 : E := (.bi .pair (.var 3) (.bi .pair (.var 4) txZa4))
abbrev txZa15 : E := (.bi .pair (.var 4) (.bi .pair (.var 0) txZa5))
abbrev txZa16 : E := (.bi .pair (.bi .add (.var 0) (.int 1)) txZa6)
abbrev txZa17 : E := (.bi .pair (.var 4) (.bi .pair (.var 0) txZa6))
abbrev txZa18 : E := (.bi .pair (.bi .app (.un .one txZa0) (.lits [])) (.int 0))
abbrev txZa19 : E := (.bi .app (.var 10) (.bi .app (.un .one txZa0) (.lits [])))
abbrev txZa20 : E := (.tr .upd (.var 7) (.bi (.iop .rem .i64) (.var 8) (.int 16)) txZa0)
abbrev txZa21 : E := (.bi .pair (.var 3) (.bi .pair (.var 4) txZa9))
abbrev txZa22 : E := (.bi (.iop .add .u32) (.bi (.iop .mul .u32) (.int 2) txZa0) (.int 1))
abbrev txZa23 : E := (.bi .pair (.var 3) (.bi .pair (.var 4) txZa10))
abbrev txZa24 : E := (.bi (.iop .add .u32) (.bi (.iop .mul .u32) (.int 2) txZa7) (.int 1))
abbrev txZa25 : E := (.bi .pair (.var 3) (.bi .pair (.var 4) txZa11))
abbrev txZa26 : E := (.un .len (.fn 20 (.bi .pair (.var 2) txZa13)))
abbrev txZa27 : E := (.un .len (.fn 20 (.bi .pair (.var 2) txZa14)))
abbrev txZa28 : E := (.bi .pair (.var 2) (.bi .pair (.var 3) txZa15))
abbrev txZa29 : E := (.bi .pair (.var 3) (.bi .pair (.var 4) txZa16))
abbrev txZa30 : E := (.bi .pair (.var 2) (.bi .pair (.var 3) txZa17))
abbrev txZa31 : E := (.bi .app (.var 12) (.fn 20 (.bi .pair (.var 2) txZa13)))
abbrev txZa32 : E := (.bi .app (.var 12) (.fn 20 (.bi .pair (.var 2) txZa14)))
abbrev txZa33 : E := (.bi (.iop .mul .u32) txZa22 (.int 2654435761))
abbrev txZa34 : E := (.un .len (.fn 20 (.bi .pair (.var 2) txZa21)))
abbrev txZa35 : E := (.un .len (.fn 20 (.bi .pair (.var 2) txZa23)))
abbrev txZa36 : E := (.bi .app (.var 12) (.fn 20 (.bi .pair (.var 2) txZa21)))
abbrev txZa37 : E := (.bi .pair (.bi .add (.var 0) (.int 1)) (.bi .pair (.int 1) txZa18))
abbrev txZa38 : E := (.bi .pair (.bi .add (.var 1) (.int 1)) (.bi .pair txZa19 (.int 0)))
abbrev txZa39 : E := (.bi (.iop .mul .u32) txZa24 (.int 2654435761))
abbrev txZa40 : E := (.un .len (.fn 20 (.bi .pair (.var 2) txZa25)))
abbrev txZa41 : E := (.bi .app (.var 12) (.fn 20 (.bi .pair (.var 2) txZa25)))
abbrev txZa42 : E := (.bi .add (.bi .add (.var 11) (.int 1)) txZa35)
abbrev txZa43 : E := (.bi (.iop .mul .u32) txZa39 (.int 14348907))
abbrev txZa44 : E := (.bi .pair (.bi .add (.var 0) (.int 1)) txZa38)
abbrev txZa45 : E := (.bi .pair (.var 3) (.bi .pair (.var 4) txZa37))
abbrev txZa46 : E := (.bi .app txZa8 (.fn 20 (.bi .pair (.var 2) txZa23)))
abbrev txZa47 : E := (.bi (.iop .add .u32) (.bi (.iop .mul .u32) (.int 3) (.var 9)) txZa33)
abbrev txZa48 : E := (.bi .app (.bi .app (.var 12) txZa8) (.fn 20 (.bi .pair (.var 2) txZa23)))
abbrev txZa49 : E := (.bi .pair (.var 3) (.bi .pair (.var 4) txZa44))
abbrev txZa50 : E := (.bi (.iop .mul .u32) (.int 3) (.bi (.iop .sub .u32) (.var 9) txZa43))
def sumL : List Int → Int
 | [] => 0
 | x :: l => x + sumL l
def okL (l : List Int) : Bool := l.all (fun y => decide (0 ≤ y)) && decide (sumL l ≤ 20000)
def lastL (n : Int) (l : List Int) : List Int := l.drop (l.length - n.toNat)
def cutsT (x : List Int) (o t i n : Int) : List Int × Int := cutsN x o (t - i).toNat i n
def allT (x : List Int) (o t : Int) : List Int := if 0 < (cutsT x o t 0 0).2 then (cutsT x o t 0 0).1 ++ [(cutsT x o t 0 0).2] else (cutsT x o t 0 0).1
/-- 1: the sum of bytes behind some with sum n. 2: from 0. 6: bytes with three marks behind them. 7: remainders. 8: three times, from i up to t. 9: the ring ahead of round i. 10: how many came. 11: their sum. 12, 13: ring and sum behind two parts. 15: the sum behind a push. -/
def F : Nat → D → D
 | 1 => fun a => .int (sumN (argD a 0).toInt (prt (argD a 1).ints (argD a 2).toInt (argD a 3).toInt))
 | 2 => fun a => .int (sumN 0 (prt (argD a 0).ints (argD a 1).toInt (argD a 2).toInt))
 | 6 => fun a => D.ofInts (lentI (prt (argD a 0).ints (argD a 1).toInt (argD a 2).toInt))
 | 7 => fun a => .int ((argD a 0).toInt % (argD a 1).toInt)
 | 8 => fun a => .int (tripI ((argD a 1).toInt - (argD a 0).toInt).toNat (argD a 2).toInt)
 | 9 => fun a => D.ofInts (ringN (argD a 0).ints (argD a 1).toInt ((argD a 2).toInt - 1).toNat)
 | 10 => fun a => .int ((argD a 0).toInt - 1).toNat
 | 11 => fun a => .int (winI (argD a 0).ints (argD a 1).toInt (((argD a 2).toInt - 1).toNat : Nat))
 | 12 => fun a => D.ofInts (ringL (twoI (argD a 0).ints (argD a 1).toInt (argD a 2).toInt (argD a 3).ints (argD a 4).toInt (argD a 5).toInt))
 | 13 => fun a => .int (winL (twoI (argD a 0).ints (argD a 1).toInt (argD a 2).toInt (argD a 3).ints (argD a 4).toInt (argD a 5).toInt))
 | 15 => fun a => .int (pushI (argD a 0).toInt (argD a 1).toInt (argD a 2).ints (argD a 3).toInt)
 | 20 => fun a => D.ofInts (cutsT (argD a 0).ints (argD a 1).toInt (argD a 2).toInt (argD a 3).toInt (argD a 4).toInt).1
 | 21 => fun a => .int (cutsT (argD a 0).ints (argD a 1).toInt (argD a 2).toInt (argD a 3).toInt (argD a 4).toInt).2
 | 22 => fun a => D.ofInts (lastL (cutsT (argD a 0).ints (argD a 1).toInt (argD a 2).toInt (argD a 3).toInt (argD a 4).toInt).2 ((argD a 5).ints ++ prt (argD a 0).ints ((argD a 1).toInt + (argD a 3).toInt) ((argD a 1).toInt + (argD a 2).toInt)))
 | 23 => fun a => D.ofInts (allT (argD a 0).ints (argD a 1).toInt (argD a 2).toInt)
 | 24 => fun a => .int (sumL ((argD a 0).ints.take (argD a 1).toInt.toNat))
 | 25 => fun a => .int (if okL (argD a 0).ints then 1 else 0)
 | _ => fun x => x

theorem F1 (n x o t : D) : F 1 (.list [n, .list [x, .list [o, .list [t, .int 0]]]]) = .int (sumN n.toInt (prt x.ints o.toInt t.toInt)) := rfl
theorem F2 (x o t : D) : F 2 (.list [x, .list [o, .list [t, .int 0]]]) = .int (sumN 0 (prt x.ints o.toInt t.toInt)) := rfl
theorem F6 (x o t : D) : F 6 (.list [x, .list [o, .list [t, .int 0]]]) = D.ofInts (lentI (prt x.ints o.toInt t.toInt)) := rfl
theorem wrap32 (x : Int) : IntKind.u32.wrap x = x % 4294967296 := by simp [IntKind.wrap, IntKind.signed, IntKind.bits]
theorem add32 (x y : Int) : iopI .add .u32 x y = (x + y) % 4294967296 := wrap32 _
theorem sub32 (x y : Int) : iopI .sub .u32 x y = (x - y) % 4294967296 := wrap32 _
theorem mul32 (x y : Int) : iopI .mul .u32 x y = (x * y) % 4294967296 := wrap32 _
theorem wI_eq (c : Int) : wI c = ((2 * c) % 4294967296 + 1) % 4294967296 * 2654435761 % 4294967296 := by
 unfold wI; rw [mul32, mul32, add32]
theorem step_eq (n c : Int) : stepI n c = (3 * n % 4294967296 + wI c) % 4294967296 := by
 unfold stepI; rw [add32, mul32]
theorem step_in (n c : Int) : 0 ≤ stepI n c ∧ stepI n c ≤ 4294967295 := add_in .u32 _ _
theorem wI_in (c : Int) : 0 ≤ wI c ∧ wI c ≤ 4294967295 := mul_in .u32 _ _
theorem sum_in : ∀ (l : List Int) (n : Int), (0 ≤ n ∧ n ≤ 4294967295) → 0 ≤ sumN n l ∧ sumN n l ≤ 4294967295
 | [], n, h => h
 | c :: l, n, _ => sum_in l (stepI n c) (step_in n c)
theorem sum_app (n : Int) (l m : List Int) : sumN n (l ++ m) = sumN (sumN n l) m := List.foldl_append
theorem trip_add : ∀ (k : Nat) (a b : Int), tripI k ((a + b) % 4294967296) % 4294967296 = (tripI k a + tripI k b) % 4294967296
 | 0, a, b => by simp only [tripI]; omega
 | k + 1, a, b => by
  have h := trip_add k (3 * a % 4294967296) (3 * b % 4294967296)
  simp only [tripI]
  rw [← h, show 3 * ((a + b) % 4294967296) % 4294967296 = (3 * a % 4294967296 + 3 * b % 4294967296) % 4294967296 by omega]
theorem trip0 : ∀ k, tripI k 0 = 0
 | 0 => rfl
 | k + 1 => by simpa [tripI] using trip0 k
theorem cancelM {u v n m : Int} (huv : u * v % 4294967296 = 1) (h : u * n % 4294967296 = u * m % 4294967296) : n % 4294967296 = m % 4294967296 := by
 have h1 : v * (u * n) % 4294967296 = v * (u * m) % 4294967296 := by rw [Int.mul_emod, h, ← Int.mul_emod]
 have e : ∀ x : Int, v * (u * x) % 4294967296 = x % 4294967296 := fun x => by
  rw [← Int.mul_assoc, Int.mul_comm v u, Int.mul_emod, huv, Int.one_mul, Int.emod_emod_of_dvd _ (Int.dvd_refl _)]
 rw [e, e] at h1
 exact h1
theorem inj3 {n m : Int} (hn : 0 ≤ n ∧ n ≤ 4294967295) (hm : 0 ≤ m ∧ m ≤ 4294967295) (h : 3 * n % 4294967296 = 3 * m % 4294967296) : n = m := by
 have := cancelM (v := 2863311531) (by omega) h
 clear h
 omega
theorem injF {c d : Int} (hn : 0 ≤ c ∧ c ≤ 255) (hm : 0 ≤ d ∧ d ≤ 255) (h : (2 * c + 1) * 2654435761 % 4294967296 = (2 * d + 1) * 2654435761 % 4294967296) : c = d := by
 rw [Int.mul_comm, Int.mul_comm (2 * d + 1)] at h
 have := cancelM (v := 244002641) (by omega) h
 clear h
 omega
theorem step_injN {n m c : Int} (hn : 0 ≤ n ∧ n ≤ 4294967295) (hm : 0 ≤ m ∧ m ≤ 4294967295) (h : stepI n c = stepI m c) : n = m := by
 rw [step_eq, step_eq] at h
 refine inj3 hn hm ?_
 have h2 := Int.emod_nonneg (3 * n) (show (4294967296 : Int) ≠ 0 by decide)
 have h3 := Int.emod_lt_of_pos (3 * n) (show (0 : Int) < 4294967296 by decide)
 have h4 := Int.emod_nonneg (3 * m) (show (4294967296 : Int) ≠ 0 by decide)
 have h5 := Int.emod_lt_of_pos (3 * m) (show (0 : Int) < 4294967296 by decide)
 generalize 3 * n % 4294967296 = a at *
 generalize 3 * m % 4294967296 = b at *
 have := wI_in c
 generalize wI c = w at *
 omega
theorem wI_eq' {c : Int} (hc : 0 ≤ c ∧ c ≤ 255) : wI c = (2 * c + 1) * 2654435761 % 4294967296 := by
 rw [wI_eq, show (2 * c) % 4294967296 = 2 * c by omega, show (2 * c + 1) % 4294967296 = 2 * c + 1 by omega]
theorem wI_inj {c d : Int} (hc : 0 ≤ c ∧ c ≤ 255) (hd : 0 ≤ d ∧ d ≤ 255) (h : wI c = wI d) : c = d := by
 rw [wI_eq' hc, wI_eq' hd] at h
 exact injF hc hd h
theorem wI_odd {c : Int} (hc : 0 ≤ c ∧ c ≤ 255) : wI c % 2 = 1 := by
 rw [wI_eq' hc]; omega
theorem step_injC {n c d : Int} (hc : 0 ≤ c ∧ c ≤ 255) (hd : 0 ≤ d ∧ d ≤ 255) (h : stepI n c = stepI n d) : c = d := by
 refine wI_inj hc hd ?_
 rw [step_eq, step_eq] at h; have := wI_in c; have := wI_in d; omega
theorem sum_inj : ∀ (l : List Int) (n m : Int), (0 ≤ n ∧ n ≤ 4294967295) → (0 ≤ m ∧ m ≤ 4294967295) → sumN n l = sumN m l → n = m
 | [], n, m, _, _, h => h
 | c :: l, n, m, hn, hm, h => step_injN hn hm (sum_inj l (stepI n c) (stepI m c) (step_in _ _) (step_in _ _) h)
theorem sum_set {l : List Int} {k : Nat} {c : Int} (hk : k < l.length) (hl : ∀ x ∈ l, 0 ≤ x ∧ x ≤ 255) (hc : 0 ≤ c ∧ c ≤ 255) (h : sumN 0 (l.set k c) = sumN 0 l) : (l[k]?).getD 0 = c := by
 have e1 : l = l.take k ++ l[k] :: l.drop (k + 1) := by rw [← List.drop_eq_getElem_cons hk, List.take_append_drop]
 have e2 : l.set k c = l.take k ++ c :: l.drop (k + 1) := by rw [List.set_eq_take_append_cons_drop, if_pos hk]
 rw [e2] at h
 conv at h => rhs; rw [e1]
 rw [sum_app, sum_app] at h
 have h2 := sum_inj (l.drop (k + 1)) (stepI (sumN 0 (l.take k)) c) (stepI (sumN 0 (l.take k)) l[k]) (step_in _ _) (step_in _ _) h
 have h3 := step_injC hc (hl _ (List.getElem_mem hk)) h2
 rw [List.getElem?_eq_getElem hk, h3]; rfl
theorem set_same {l : List Int} {k : Nat} {c : Int} (hk : k < l.length) (h : (l[k]?).getD 0 = c) : l.set k c = l := by
 rw [List.getElem?_eq_getElem hk] at h
 have h : l[k] = c := h
 rw [← h]; exact List.set_getElem_self hk
theorem trip_mod (k : Nat) (a : Int) : tripI k (a % 4294967296) % 4294967296 = tripI k a % 4294967296 := by
 have h := trip_add k a 0
 have h0 : ∀ k, tripI k 0 = 0 := fun k => by induction k with
  | zero => rfl
  | succ k ih => simpa [tripI] using ih
 rw [h0, Int.add_zero, Int.add_zero] at h
 exact h
/-- The sum behind another one. -/
theorem sum_trip : ∀ (l : List Int) (n : Int), sumN n l % 4294967296 = (tripI l.length n + sumN 0 l) % 4294967296
 | [], n => by simp [sumN, tripI]
 | c :: l, n => by
  show sumN (stepI n c) l % _ = (tripI l.length (3 * n % 4294967296) + sumN (stepI 0 c) l) % _
  have h1 := sum_trip l (stepI n c)
  have h2 := sum_trip l (stepI 0 c)
  have e : stepI n c = (3 * n % 4294967296 + stepI 0 c) % 4294967296 := by rw [step_eq, step_eq]; omega
  have h3 := trip_add l.length (3 * n % 4294967296) (stepI 0 c)
  rw [← e] at h3
  omega
theorem trip15 (a : Int) : tripI 15 a % 4294967296 = a * 14348907 % 4294967296 := by
 simp only [tripI]; omega
theorem step0 (c : Int) : stepI 0 c = wI c := by rw [step_eq]; have := wI_in c; omega
/-- To roll is to sum anew. -/
theorem roll_sum (o c : Int) (l : List Int) (h : l.length = 15) : rollI (sumN 0 (o :: l)) o c = sumN 0 (l ++ [c]) := by
 rw [sum_app]
 show _ = stepI (sumN 0 l) c
 have h1 : sumN 0 (o :: l) = sumN (stepI 0 o) l := rfl
 have h2 := sum_trip l (stepI 0 o)
 have h3 := trip15 (wI o)
 rw [h, step0] at h2
 rw [step0] at h1
 rw [h1, step_eq]
 unfold rollI
 rw [add32, mul32, sub32, mul32]
 omega
theorem F8 (i t n : D) : F 8 (.list [i, .list [t, .list [n, .int 0]]]) = .int (tripI (t.toInt - i.toInt).toNat n.toInt) := rfl
theorem F9 (x o i : D) : F 9 (.list [x, .list [o, .list [i, .int 0]]]) = D.ofInts (ringN x.ints o.toInt (i.toInt - 1).toNat) := rfl
theorem F10 (i : D) : F 10 (.list [i, .int 0]) = .int ((i.toInt - 1).toNat : Nat) := rfl
theorem F11 (x o i : D) : F 11 (.list [x, .list [o, .list [i, .int 0]]]) = .int (winI x.ints o.toInt ((i.toInt - 1).toNat : Nat)) := rfl
theorem ring_len (x : List Int) (o : Int) : ∀ n, (ringN x o n).length = 16
 | 0 => by simp [ringN]
 | n + 1 => by simp [ringN, ring_len x o n]
theorem ring_get (x : List Int) (o : Int) : ∀ n j, j < n → n ≤ j + 16 → ((ringN x o n)[j % 16]?).getD 0 = (x[(o + j).toNat]?).getD 0
 | 0, j, h, _ => by omega
 | n + 1, j, h, g => by
  simp only [ringN]
  by_cases e : j = n
  ·subst e
   rw [List.getElem?_set_self (by rw [ring_len]; omega)]; rfl
  ·rw [List.getElem?_set_ne (by omega)]
   exact ring_get x o n j (by omega) (by omega)
/-- One byte more, while there are fewer than sixteen. -/
theorem win_push {x : List Int} {o i : Int} (ho : 0 ≤ o) (h1 : 1 ≤ i) (h2 : i ≤ 16) (hx : o + i ≤ x.length) : stepI (winI x o ((i - 1).toNat : Nat)) ((x[(o + (i - 1)).toNat]?).getD 0) = sumN 0 (prt x o (o + i)) := by
 unfold winI
 rw [if_pos (by omega), show (((i - 1).toNat : Nat) : Int) = i - 1 by omega, prt_app (m := o + (i - 1)) (t := o + i) ho (by omega) (by omega) hx, sum_app, prt_step (o := o + (i - 1)) (by omega) (by omega) hx, prt_nil (o := o + (i - 1) + 1) (by omega) (by omega)]
 rfl
theorem win_roll {x : List Int} {o i : Int} (ho : 0 ≤ o) (h2 : 16 < i) (hx : o + i ≤ x.length) : rollI (winI x o ((i - 1).toNat : Nat)) (((ringN x o (i - 1).toNat)[((i - 1) % 16).toNat]?).getD 0) ((x[(o + (i - 1)).toNat]?).getD 0) = sumN 0 (prt x (o + (i - 16)) (o + i)) := by
 have hr := ring_get x o (i - 1).toNat ((i - 1).toNat - 16) (by omega) (by omega)
 rw [show ((i - 1).toNat - 16) % 16 = ((i - 1) % 16).toNat by omega] at hr
 rw [hr, show (o + (((i - 1).toNat - 16 : Nat) : Int)).toNat = (o + (i - 17)).toNat by omega]
 have e1 : winI x o ((i - 1).toNat : Nat) = sumN 0 (((x[(o + (i - 17)).toNat]?).getD 0) :: prt x (o + (i - 16)) (o + (i - 1))) := by
  unfold winI
  congr 1
  rw [show (((i - 1).toNat : Nat) : Int) = i - 1 by omega]
  split
  ·rw [prt_step (o := o) ho (by omega) (by omega), show o + (i - 17) = o by omega, show o + (i - 16) = o + 1 by omega]
  ·rw [prt_step (by omega) (by omega) (by omega), show o + (i - 1) - 16 = o + (i - 17) by omega, show o + (i - 17) + 1 = o + (i - 16) by omega]
 have e2 : prt x (o + (i - 16)) (o + i) = prt x (o + (i - 16)) (o + (i - 1)) ++ [((x[(o + (i - 1)).toNat]?).getD 0)] := by
  rw [prt_app (m := o + (i - 1)) (by omega) (by omega) (by omega) (by omega), prt_step (o := o + (i - 1)) (by omega) (by omega) (by omega), prt_nil (o := o + (i - 1) + 1) (by omega) (by omega)]
 have e3 := prt_length (x := x) (o := o + (i - 16)) (t := o + (i - 1)) (by omega) (by omega) (by omega)
 rw [e1, e2]
 exact roll_sum _ _ _ (by omega)
theorem F12 (x o n y p m : D) : F 12 (.list [x, .list [o, .list [n, .list [y, .list [p, .list [m, .int 0]]]]]]) = D.ofInts (ringL (twoI x.ints o.toInt n.toInt y.ints p.toInt m.toInt)) := rfl
theorem F13 (x o n y p m : D) : F 13 (.list [x, .list [o, .list [n, .list [y, .list [p, .list [m, .int 0]]]]]]) = .int (winL (twoI x.ints o.toInt n.toInt y.ints p.toInt m.toInt)) := rfl
theorem F15 (s n r c : D) : F 15 (.list [s, .list [n, .list [r, .list [c, .int 0]]]]) = .int (pushI s.toInt n.toInt r.ints c.toInt) := rfl
theorem ring_congr {x y : List Int} {o p : Int} : ∀ n, (∀ k : Nat, k < n → (x[(o + k).toNat]?).getD 0 = (y[(p + k).toNat]?).getD 0) → ringN x o n = ringN y p n
 | 0, _ => rfl
 | n + 1, h => by
  simp only [ringN]
  rw [ring_congr n fun k hk => h k (by omega), h n (by omega)]
theorem prt_get {x : List Int} {o t : Int} {k : Nat} (ho : 0 ≤ o) (h : o + k < t) : (prt x o t)[k]? = x[(o + k).toNat]? := by
 unfold prt
 rw [List.getElem?_drop, List.getElem?_take, if_pos (by omega)]
 congr 1; omega
theorem ringL_prt {x : List Int} {o n : Int} (ho : 0 ≤ o) (hn : 0 ≤ n) (hx : o + n ≤ x.length) : ringN x o n.toNat = ringL (prt x o (o + n)) := by
 unfold ringL
 have hl := prt_length (x := x) (o := o) (t := o + n) ho (by omega) hx
 rw [show (prt x o (o + n)).length = n.toNat by omega]
 refine ring_congr _ fun k hk => ?_
 rw [show ((0 : Int) + k).toNat = k by omega, prt_get ho (by omega)]
theorem winL_prt {x : List Int} {o n : Int} (ho : 0 ≤ o) (hn : 0 ≤ n) (hx : o + n ≤ x.length) : winI x o n = winL (prt x o (o + n)) := by
 have hl := prt_length (x := x) (o := o) (t := o + n) ho (by omega) hx
 unfold winL winI
 rw [hl]
 have e : ∀ a : Int, o ≤ a → prt x a (o + n) = prt (prt x o (o + n)) (a - o) n := by
  intro a ha
  have : prt (prt x o (o + n)) (a - o) n = (prt x o (o + n)).drop (a - o).toNat := by
   unfold prt
   rw [List.take_of_length_le (by simp; omega)]
  rw [this]
  unfold prt
  rw [List.drop_drop]
  congr 1; omega
 rw [show o + n - o = n by omega]
 simp only [Int.zero_add]
 split
 ·exact congrArg _ ((e o (by omega)).trans (by rw [show o - o = 0 by omega]))
 ·exact congrArg _ ((e (o + n - 16) (by omega)).trans (by rw [show o + n - 16 - o = n - 16 by omega]))
theorem ringL_snoc (l : List Int) (c : Int) : ringL (l ++ [c]) = (ringL l).set (l.length % 16) c := by
 unfold ringL
 rw [List.length_append, List.length_singleton]
 simp only [ringN]
 rw [ring_congr (x := l ++ [c]) (y := l) (o := 0) (p := 0) l.length fun k hk => by
  rw [List.getElem?_append_left (by omega)]]
 rw [List.getElem?_append_right (by omega)]
 simp
theorem winL_snoc (l : List Int) (c : Int) : pushI (winL l) l.length (ringL l) c = winL (l ++ [c]) := by
 have hx : (0 : Int) + ((l.length : Int) + 1) ≤ ((l ++ [c]).length : Nat) := by simp
 have hc : ((l ++ [c])[((0 : Int) + ((l.length : Int) + 1 - 1)).toNat]?).getD 0 = c := by
  rw [List.getElem?_append_right (by omega)]; simp
 have hw : winI (l ++ [c]) 0 (((l.length : Int) + 1 - 1).toNat : Nat) = winL l := by
  unfold winL winI
  rw [show ((((l.length : Int) + 1 - 1).toNat : Nat) : Int) = l.length by omega]
  have : ∀ a : Int, 0 ≤ a → prt (l ++ [c]) a (0 + l.length) = prt l a (0 + l.length) := by
   intro a _
   unfold prt
   rw [List.take_append_of_le_length (by omega)]
  split
  ·rw [this _ (by omega)]
  ·rw [this _ (by omega)]
 unfold pushI
 split
 ·have h := win_roll (x := l ++ [c]) (o := 0) (i := (l.length : Int) + 1) (by omega) (by omega) hx
  rw [hc, hw] at h
  have hr : ringN (l ++ [c]) 0 ((l.length : Int) + 1 - 1).toNat = ringL l := by
   unfold ringL
   rw [show ((l.length : Int) + 1 - 1).toNat = l.length by omega]
   exact ring_congr _ fun k hk => by rw [List.getElem?_append_left (by omega)]
  rw [hr, show (((l.length : Int) + 1 - 1) % 16) = (l.length : Int) % 16 by omega] at h
  rw [h]
  unfold winL winI
  rw [if_neg (by simp; omega)]
  congr 2
  ·first | (simp; done) | (simp; omega)
  ·first | (simp; done) | (simp; omega)
 ·have h := win_push (x := l ++ [c]) (o := 0) (i := (l.length : Int) + 1) (by omega) (by omega) (by omega) hx
  rw [hc, hw] at h
  rw [h]
  unfold winL winI
  rw [if_pos (by simp; omega)]
  congr 2
  simp
theorem two_step {x y : List Int} {o n p m : Int} (hp : 0 ≤ p) (hm : 0 ≤ m) (hy : p + (m + 1) ≤ y.length) : twoI x o n y p (m + 1) = twoI x o n y p m ++ [(y[(p + m).toNat]?).getD 0] := by
 unfold twoI
 rw [List.append_assoc, prt_app (m := p + m) (t := p + (m + 1)) hp (by omega) (by omega) hy, prt_step (o := p + m) (by omega) (by omega) hy, prt_nil (o := p + m + 1) (by omega) (by omega)]
theorem two_len {x y : List Int} {o n p m : Int} (ho : 0 ≤ o) (hn : 0 ≤ n) (hx : o + n ≤ x.length) (hp : 0 ≤ p) (hm : 0 ≤ m) (hy : p + m ≤ y.length) : ((twoI x o n y p m).length : Int) = n + m := by
 unfold twoI
 have h1 := prt_length (x := x) (o := o) (t := o + n) ho (by omega) hx
 have h2 := prt_length (x := y) (o := p) (t := p + m) hp (by omega) hy
 rw [List.length_append]; omega
theorem ringL_len (l : List Int) : (ringL l).length = 16 := ring_len _ _ _
/-- Behind sixteen bytes the sum is theirs. -/
theorem win_two {x y : List Int} {o n p m : Int} (ho : 0 ≤ o) (hn : 0 ≤ n) (hx : o + n ≤ x.length) (hp : 0 ≤ p) (hm : 16 ≤ m) (hy : p + m ≤ y.length) : winL (twoI x o n y p m) = sumN 0 (prt y (p + m - 16) (p + m)) := by
 have hl := two_len ho hn hx hp (by omega) hy
 have h1 := prt_length (x := x) (o := o) (t := o + n) ho (by omega) hx
 have h2 := prt_length (x := y) (o := p) (t := p + m) hp (by omega) hy
 unfold winL winI
 rw [hl]
 have e : prt (twoI x o n y p m) (n + m - 16) (n + m) = prt y (p + m - 16) (p + m) := by
  unfold twoI
  generalize prt x o (o + n) = A at *
  show ((A ++ prt y p (p + m)).take (n + m).toNat).drop (n + m - 16).toNat = _
  rw [List.take_of_length_le (by rw [List.length_append]; omega), List.drop_append, List.drop_eq_nil_of_le (by omega), List.nil_append]
  unfold prt
  rw [List.drop_drop]
  congr 1
  omega
 split
 ·rw [← e]; congr 2 <;> omega
 ·rw [← e]; congr 2 <;> omega
theorem F7 (x n : D) : F 7 (.list [x, .list [n, .int 0]]) = .int (x.toInt % n.toInt) := rfl
theorem F20 (x o t i n : D) : F 20 (.list [x, .list [o, .list [t, .list [i, .list [n, .int 0]]]]]) = D.ofInts (cutsT x.ints o.toInt t.toInt i.toInt n.toInt).1 := rfl
theorem F21 (x o t i n : D) : F 21 (.list [x, .list [o, .list [t, .list [i, .list [n, .int 0]]]]]) = .int (cutsT x.ints o.toInt t.toInt i.toInt n.toInt).2 := rfl
theorem F22 (x o t i n y : D) : F 22 (.list [x, .list [o, .list [t, .list [i, .list [n, .list [y, .int 0]]]]]]) = D.ofInts (lastL (cutsT x.ints o.toInt t.toInt i.toInt n.toInt).2 (y.ints ++ prt x.ints (o.toInt + i.toInt) (o.toInt + t.toInt))) := rfl
theorem F24 (s w : D) : F 24 (.list [s, .list [w, .int 0]]) = .int (sumL (s.ints.take w.toInt.toNat)) := rfl
theorem F25 (s : D) : F 25 (.list [s, .int 0]) = .int (if okL s.ints then 1 else 0) := rfl
theorem F23 (x o t : D) : F 23 (.list [x, .list [o, .list [t, .int 0]]]) = D.ofInts (allT x.ints o.toInt t.toInt) := rfl
theorem cuts_end {x : List Int} {o t i n : Int} (h : t ≤ i) : cutsT x o t i n = ([], n) := by
 unfold cutsT
 rw [show (t - i).toNat = 0 by omega]
 rfl
theorem cuts_step {x : List Int} {o t i n : Int} (h : i < t) : cutsT x o t i n = if endB x o (i + 1) (n + 1) then ((n + 1) :: (cutsT x o t (i + 1) 0).1, (cutsT x o t (i + 1) 0).2) else cutsT x o t (i + 1) (n + 1) := by
 unfold cutsT
 rw [show (t - i).toNat = (t - (i + 1)).toNat + 1 by omega]
 rfl
theorem cuts_yes {x : List Int} {o t i n : Int} (h : i < t) (e : n + 1 = 1024 ∨ 64 ≤ n + 1 ∧ winI x o (i + 1) < 16777216) : cutsT x o t i n = ((n + 1) :: (cutsT x o t (i + 1) 0).1, (cutsT x o t (i + 1) 0).2) := by
 rw [cuts_step h, if_pos (by simp only [endB, decide_eq_true_eq]; exact e)]
theorem cuts_no {x : List Int} {o t i n : Int} (h : i < t) (e : ¬ (n + 1 = 1024 ∨ 64 ≤ n + 1 ∧ winI x o (i + 1) < 16777216)) : cutsT x o t i n = cutsT x o t (i + 1) (n + 1) := by
 rw [cuts_step h, if_neg (by simp only [endB, decide_eq_true_eq]; exact e)]
theorem cutsN_in (x : List Int) (o : Int) : ∀ (r : Nat) (i n : Int), 0 ≤ n → 0 ≤ (cutsN x o r i n).2 ∧ (cutsN x o r i n).2 ≤ n + r
 | 0, i, n, h => by simp only [cutsN]; omega
 | r + 1, i, n, h => by
  simp only [cutsN]
  split
  ·have := cutsN_in x o r (i + 1) 0 (by omega)
   simp only; omega
  ·have := cutsN_in x o r (i + 1) (n + 1) (by omega)
   omega
theorem cuts_in {x : List Int} {o t i n : Int} (h : 0 ≤ n) (g : i ≤ t) : 0 ≤ (cutsT x o t i n).2 ∧ (cutsT x o t i n).2 ≤ n + (t - i) := by
 have := cutsN_in x o (t - i).toNat i n h
 unfold cutsT
 omega
theorem getT (d : D) (k : Nat) : (d.toList[k]?.getD (D.int 0)).toInt = d.ints[k]?.getD 0 := by
 rw [show d.ints = d.toList.map D.toInt from rfl, List.getElem?_map]
 cases d.toList[k]? <;> rfl
theorem ofInts0 : (D.ofInts []).toList = [] := rfl
theorem last_step {l m : List Int} {n : Int} (h : l = m) : lastL n l = lastL n m := by rw [h]
theorem last_cut {a b : List Int} {n : Int} (h : n ≤ b.length) : lastL n (a ++ b) = lastL n b := by
 unfold lastL
 rw [List.length_append, List.drop_append, List.drop_of_length_le (by omega), List.nil_append]
 congr 1
 omega
theorem last_cut3 {y P : List Int} {c m : Int} (h : m ≤ P.length) : lastL m P = lastL m (y ++ c :: P) := by
 rw [show y ++ c :: P = (y ++ [c]) ++ P by simp, last_cut h]
theorem last_all {l : List Int} {n : Int} (h : n = l.length) : lastL n l = l := by
 unfold lastL
 rw [h, show l.length - ((l.length : Int)).toNat = 0 by omega, List.drop_zero]
theorem push_all {x r : List Int} {o i s : Int} (ho : 0 ≤ o) (hi : 0 ≤ i) (hx : o + (i + 1) ≤ x.length) (hr : r = ringN x o i.toNat) (hs : s = winI x o i) :
  r.length = 16 ∧ pushI s i r (x[(o + i).toNat]?.getD 0) = winI x o (i + 1) ∧ ringN x o (i + 1).toNat = r.set (i % 16).toNat (x[(o + i).toNat]?.getD 0) := by
 have h1 := ringL_prt (x := x) (o := o) (n := i) (by omega) (by omega) (by omega)
 have h2 := winL_prt (x := x) (o := o) (n := i) (by omega) (by omega) (by omega)
 have h3 := ringL_prt (x := x) (o := o) (n := i + 1) (by omega) (by omega) (by omega)
 have h4 := winL_prt (x := x) (o := o) (n := i + 1) (by omega) (by omega) (by omega)
 have hl := prt_length (x := x) (o := o) (t := o + i) (by omega) (by omega) (by omega)
 have hp : prt x o (o + (i + 1)) = prt x o (o + i) ++ [(x[(o + i).toNat]?).getD 0] := by
  rw [prt_app (m := o + i) (by omega) (by omega) (by omega) (by omega), prt_step (o := o + i) (by omega) (by omega) (by omega), prt_nil (o := o + i + 1) (by omega) (by omega)]
 have hw := winL_snoc (prt x o (o + i)) ((x[(o + i).toNat]?).getD 0)
 have hg := ringL_snoc (prt x o (o + i)) ((x[(o + i).toNat]?).getD 0)
 rw [← hp, ← h1, ← h2, ← h4, hl, show o + i - o = i by omega] at hw
 rw [← hp, ← h1, ← h3, show (prt x o (o + i)).length % 16 = (i % 16).toNat by omega] at hg
 subst hr hs
 exact ⟨ring_len _ _ _, hw, hg⟩

noncomputable def eA00 : LSpec := { n := 41, next := 9, pat := [(0, .yieldf 5), (2, .ptr 13 0), (6, .sslice 17 (.var 3) (.var 4) (.var 5) false), (7, .sint .i64 (.var 4)), (8, .sint .i64 (.var 0))], rows := [(13, .cells 33 0 false false [.ptr 1 0]), (1, .cells 62 0 false false [.ptr 1 0, .bool true, .sint .u8 (.bi .sel (.var 7) (.int 0)), .sint .u8 (.bi .sel (.var 7) (.int 1)), .sint .u8 (.bi .sel (.var 7) (.int 2)), .sint .u8 (.bi .sel (.var 7) (.int 3)), .sint .u8 (.bi .sel (.var 7) (.int 4)), .sint .u8 (.bi .sel (.var 7) (.int 5)), .sint .u8 (.bi .sel (.var 7) (.int 6)), .sint .u8 (.bi .sel (.var 7) (.int 7)), .sint .u8 (.bi .sel (.var 7) (.int 8)), .sint .u8 (.bi .sel (.var 7) (.int 9)), .sint .u8 (.bi .sel (.var 7) (.int 10)), .sint .u8 (.bi .sel (.var 7) (.int 11)), .sint .u8 (.bi .sel (.var 7) (.int 12)), .sint .u8 (.bi .sel (.var 7) (.int 13)), .sint .u8 (.bi .sel (.var 7) (.int 14)), .sint .u8 (.bi .sel (.var 7) (.int 15)), .sint .i64 (.var 8), .sint .u32 (.var 9), .nilslice, .bool false]), (5, .loop [(2, .ptr 15 0), (3, .ptr 1 0)] 21 (rangeAt Try.prog 32 [4, 1, 0, 1, 1])), (15, .cells 31 0 false false [.yieldf 7]), (7, .loop [(3, .ptr 9 0)] 14 (rangeAt Try.prog 19 [4, 1, 0, 1, 1])), (9, .cells 32 0 false false [.nilslice]), (17, .eseq ⟨.u8, .var 6, .var 2⟩)], pre := [(.le (.int 0) (.var 0), true), (.le (.var 0) (.var 4), true), (.le (.int 0) (.var 3), true), (.le (.bi .add (.var 3) (.var 4)) (.var 6), true), (.le (.var 4) (.var 5), true), (.le (.var 4) (.int 20000), true), (.same (.var 7) (.fn 9 (.bi .pair (.var 2) (.bi .pair (.var 3) (.bi .pair (.bi .add (.var 0) (.int 1)) (.int 0))))), true), (.eq (.var 8) (.var 0), true), (.eq (.var 9) (.fn 11 (.bi .pair (.var 2) (.bi .pair (.var 3) (.bi .pair (.bi .add (.var 0) (.int 1)) (.int 0))))), true), (.le (.int 1) (.fn 21 (.bi .pair (.var 2) (.bi .pair (.var 3) (.bi .pair (.var 4) (.bi .pair (.var 0) (.bi .pair (.int 0) (.int 0))))))), true), (.le (.int 1) (.un .len (.fn 20 (.bi .pair (.var 2) (.bi .pair (.var 3) (.bi .pair (.var 4) (.bi .pair (.var 0) (.bi .pair (.int 0) (.int 0)))))))), false)], x := 0, fin := [], frows := [(13, .cells 33 0 false false [.ptr 1 0]), (1, .cells 62 0 false false [.ptr 1 0, .bool true, .sint .u8 (.bi .sel (.fn 9 (.bi .pair (.var 2) (.bi .pair (.var 3) (.bi .pair (.bi .add (.var 4) (.int 1)) (.int 0))))) (.int 0)), .sint .u8 (.bi .sel (.fn 9 (.bi .pair (.var 2) (.bi .pair (.var 3) (.bi .pair (.bi .add (.var 4) (.int 1)) (.int 0))))) (.int 1)), .sint .u8 (.bi .sel (.fn 9 (.bi .pair (.var 2) (.bi .pair (.var 3) (.bi .pair (.bi .add (.var 4) (.int 1)) (.int 0))))) (.int 2)), .sint .u8 (.bi .sel (.fn 9 (.bi .pair (.var 2) (.bi .pair (.var 3) (.bi .pair (.bi .add (.var 4) (.int 1)) (.int 0))))) (.int 3)), .sint .u8 (.bi .sel (.fn 9 (.bi .pair (.var 2) (.bi .pair (.var 3) (.bi .pair (.bi .add (.var 4) (.int 1)) (.int 0))))) (.int 4)), .sint .u8 (.bi .sel (.fn 9 (.bi .pair (.var 2) (.bi .pair (.var 3) (.bi .pair (.bi .add (.var 4) (.int 1)) (.int 0))))) (.int 5)), .sint .u8 (.bi .sel (.fn 9 (.bi .pair (.var 2) (.bi .pair (.var 3) (.bi .pair (.bi .add (.var 4) (.int 1)) (.int 0))))) (.int 6)), .sint .u8 (.bi .sel (.fn 9 (.bi .pair (.var 2) (.bi .pair (.var 3) (.bi .pair (.bi .add (.var 4) (.int 1)) (.int 0))))) (.int 7)), .sint .u8 (.bi .sel (.fn 9 (.bi .pair (.var 2) (.bi .pair (.var 3) (.bi .pair (.bi .add (.var 4) (.int 1)) (.int 0))))) (.int 8)), .sint .u8 (.bi .sel (.fn 9 (.bi .pair (.var 2) (.bi .pair (.var 3) (.bi .pair (.bi .add (.var 4) (.int 1)) (.int 0))))) (.int 9)), .sint .u8 (.bi .sel (.fn 9 (.bi .pair (.var 2) (.bi .pair (.var 3) (.bi .pair (.bi .add (.var 4) (.int 1)) (.int 0))))) (.int 10)), .sint .u8 (.bi .sel (.fn 9 (.bi .pair (.var 2) (.bi .pair (.var 3) (.bi .pair (.bi .add (.var 4) (.int 1)) (.int 0))))) (.int 11)), .sint .u8 (.bi .sel (.fn 9 (.bi .pair (.var 2) (.bi .pair (.var 3) (.bi .pair (.bi .add (.var 4) (.int 1)) (.int 0))))) (.int 12)), .sint .u8 (.bi .sel (.fn 9 (.bi .pair (.var 2) (.bi .pair (.var 3) (.bi .pair (.bi .add (.var 4) (.int 1)) (.int 0))))) (.int 13)), .sint .u8 (.bi .sel (.fn 9 (.bi .pair (.var 2) (.bi .pair (.var 3) (.bi .pair (.bi .add (.var 4) (.int 1)) (.int 0))))) (.int 14)), .sint .u8 (.bi .sel (.fn 9 (.bi .pair (.var 2) (.bi .pair (.var 3) (.bi .pair (.bi .add (.var 4) (.int 1)) (.int 0))))) (.int 15)), .sint .i64 (.var 4), .sint .u32 (.fn 11 (.bi .pair (.var 2) (.bi .pair (.var 3) (.bi .pair (.bi .add (.var 4) (.int 1)) (.int 0))))), .sslice 3 (.int 0) (.fn 21 (.bi .pair (.var 2) (.bi .pair (.var 3) (.bi .pair (.var 4) (.bi .pair (.var 0) (.bi .pair (.int 0) (.int 0))))))) (.fn 21 (.bi .pair (.var 2) (.bi .pair (.var 3) (.bi .pair (.var 4) (.bi .pair (.var 0) (.bi .pair (.int 0) (.int 0))))))) true, .bool false]), (5, .loop [(2, .ptr 15 0), (3, .ptr 1 0)] 21 (rangeAt Try.prog 32 [4, 1, 0, 1, 1])), (15, .cells 31 0 false false [.yieldf 7]), (7, .loop [(3, .ptr 9 0)] 14 (rangeAt Try.prog 19 [4, 1, 0, 1, 1])), (9, .cells 32 0 false false [.nilslice]), (3, .seq ⟨5, .u8, .fn 21 (.bi .pair (.var 2) (.bi .pair (.var 3) (.bi .pair (.var 4) (.bi .pair (.var 0) (.bi .pair (.int 0) (.int 0)))))), .fn 22 (.bi .pair (.var 2) (.bi .pair (.var 3) (.bi .pair (.var 4) (.bi .pair (.var 0) (.bi .pair (.int 0) (.bi .pair (.lits []) (.int 0))))))), true, false⟩)], same := [1, 5, 7, 9, 13, 15], chg := [0, 2, 5, 6, 7, 8, 9, 10, 11, 12, 13, 14, 15, 16, 17, 18, 19, 20, 21, 22, 23, 24, 25, 26, 27, 28, 29, 30, 31, 32, 33, 34, 35, 36, 37, 38, 39, 40] }
noncomputable def eA10 : LSpec := { n := 41, next := 9, pat := [(0, .yieldf 5), (2, .ptr 13 0), (6, .sslice 17 (.var 3) (.var 4) (.var 5) false), (7, .sint .i64 (.var 4)), (8, .sint .i64 (.var 0))], rows := [(13, .cells 33 0 false false [.ptr 1 0]), (1, .cells 62 0 false false [.ptr 1 0, .bool true, .sint .u8 (.bi .sel (.var 7) (.int 0)), .sint .u8 (.bi .sel (.var 7) (.int 1)), .sint .u8 (.bi .sel (.var 7) (.int 2)), .sint .u8 (.bi .sel (.var 7) (.int 3)), .sint .u8 (.bi .sel (.var 7) (.int 4)), .sint .u8 (.bi .sel (.var 7) (.int 5)), .sint .u8 (.bi .sel (.var 7) (.int 6)), .sint .u8 (.bi .sel (.var 7) (.int 7)), .sint .u8 (.bi .sel (.var 7) (.int 8)), .sint .u8 (.bi .sel (.var 7) (.int 9)), .sint .u8 (.bi .sel (.var 7) (.int 10)), .sint .u8 (.bi .sel (.var 7) (.int 11)), .sint .u8 (.bi .sel (.var 7) (.int 12)), .sint .u8 (.bi .sel (.var 7) (.int 13)), .sint .u8 (.bi .sel (.var 7) (.int 14)), .sint .u8 (.bi .sel (.var 7) (.int 15)), .sint .i64 (.var 8), .sint .u32 (.var 9), .sslice 3 (.int 0) (.var 1) (.var 1) true, .bool false]), (5, .loop [(2, .ptr 15 0), (3, .ptr 1 0)] 21 (rangeAt Try.prog 32 [4, 1, 0, 1, 1])), (15, .cells 31 0 false false [.yieldf 7]), (7, .loop [(3, .ptr 9 0)] 14 (rangeAt Try.prog 19 [4, 1, 0, 1, 1])), (9, .cells 32 0 false false [.nilslice]), (17, .eseq ⟨.u8, .var 6, .var 2⟩), (3, .seq ⟨5, .u8, .var 1, .var 10, true, false⟩)], pre := [(.le (.int 0) (.var 0), true), (.le (.var 0) (.var 4), true), (.le (.int 0) (.var 3), true), (.le (.bi .add (.var 3) (.var 4)) (.var 6), true), (.le (.var 4) (.var 5), true), (.le (.var 4) (.int 20000), true), (.same (.var 7) (.fn 9 (.bi .pair (.var 2) (.bi .pair (.var 3) (.bi .pair (.bi .add (.var 0) (.int 1)) (.int 0))))), true), (.eq (.var 8) (.var 0), true), (.eq (.var 9) (.fn 11 (.bi .pair (.var 2) (.bi .pair (.var 3) (.bi .pair (.bi .add (.var 0) (.int 1)) (.int 0))))), true), (.le (.int 1) (.var 1), true), (.le (.var 1) (.int 1023), true), (.le (.var 1) (.var 0), true), (.le (.int 1) (.fn 21 (.bi .pair (.var 2) (.bi .pair (.var 3) (.bi .pair (.var 4) (.bi .pair (.var 0) (.bi .pair (.var 1) (.int 0))))))), true), (.le (.int 1) (.un .len (.fn 20 (.bi .pair (.var 2) (.bi .pair (.var 3) (.bi .pair (.var 4) (.bi .pair (.var 0) (.bi .pair (.var 1) (.int 0)))))))), false)], x := 0, fin := [], frows := [(13, .cells 33 0 false false [.ptr 1 0]), (1, .cells 62 0 false false [.ptr 1 0, .bool true, .sint .u8 (.bi .sel (.fn 9 (.bi .pair (.var 2) (.bi .pair (.var 3) (.bi .pair (.bi .add (.var 4) (.int 1)) (.int 0))))) (.int 0)), .sint .u8 (.bi .sel (.fn 9 (.bi .pair (.var 2) (.bi .pair (.var 3) (.bi .pair (.bi .add (.var 4) (.int 1)) (.int 0))))) (.int 1)), .sint .u8 (.bi .sel (.fn 9 (.bi .pair (.var 2) (.bi .pair (.var 3) (.bi .pair (.bi .add (.var 4) (.int 1)) (.int 0))))) (.int 2)), .sint .u8 (.bi .sel (.fn 9 (.bi .pair (.var 2) (.bi .pair (.var 3) (.bi .pair (.bi .add (.var 4) (.int 1)) (.int 0))))) (.int 3)), .sint .u8 (.bi .sel (.fn 9 (.bi .pair (.var 2) (.bi .pair (.var 3) (.bi .pair (.bi .add (.var 4) (.int 1)) (.int 0))))) (.int 4)), .sint .u8 (.bi .sel (.fn 9 (.bi .pair (.var 2) (.bi .pair (.var 3) (.bi .pair (.bi .add (.var 4) (.int 1)) (.int 0))))) (.int 5)), .sint .u8 (.bi .sel (.fn 9 (.bi .pair (.var 2) (.bi .pair (.var 3) (.bi .pair (.bi .add (.var 4) (.int 1)) (.int 0))))) (.int 6)), .sint .u8 (.bi .sel (.fn 9 (.bi .pair (.var 2) (.bi .pair (.var 3) (.bi .pair (.bi .add (.var 4) (.int 1)) (.int 0))))) (.int 7)), .sint .u8 (.bi .sel (.fn 9 (.bi .pair (.var 2) (.bi .pair (.var 3) (.bi .pair (.bi .add (.var 4) (.int 1)) (.int 0))))) (.int 8)), .sint .u8 (.bi .sel (.fn 9 (.bi .pair (.var 2) (.bi .pair (.var 3) (.bi .pair (.bi .add (.var 4) (.int 1)) (.int 0))))) (.int 9)), .sint .u8 (.bi .sel (.fn 9 (.bi .pair (.var 2) (.bi .pair (.var 3) (.bi .pair (.bi .add (.var 4) (.int 1)) (.int 0))))) (.int 10)), .sint .u8 (.bi .sel (.fn 9 (.bi .pair (.var 2) (.bi .pair (.var 3) (.bi .pair (.bi .add (.var 4) (.int 1)) (.int 0))))) (.int 11)), .sint .u8 (.bi .sel (.fn 9 (.bi .pair (.var 2) (.bi .pair (.var 3) (.bi .pair (.bi .add (.var 4) (.int 1)) (.int 0))))) (.int 12)), .sint .u8 (.bi .sel (.fn 9 (.bi .pair (.var 2) (.bi .pair (.var 3) (.bi .pair (.bi .add (.var 4) (.int 1)) (.int 0))))) (.int 13)), .sint .u8 (.bi .sel (.fn 9 (.bi .pair (.var 2) (.bi .pair (.var 3) (.bi .pair (.bi .add (.var 4) (.int 1)) (.int 0))))) (.int 14)), .sint .u8 (.bi .sel (.fn 9 (.bi .pair (.var 2) (.bi .pair (.var 3) (.bi .pair (.bi .add (.var 4) (.int 1)) (.int 0))))) (.int 15)), .sint .i64 (.var 4), .sint .u32 (.fn 11 (.bi .pair (.var 2) (.bi .pair (.var 3) (.bi .pair (.bi .add (.var 4) (.int 1)) (.int 0))))), .sslice 3 (.int 0) (.fn 21 (.bi .pair (.var 2) (.bi .pair (.var 3) (.bi .pair (.var 4) (.bi .pair (.var 0) (.bi .pair (.var 1) (.int 0))))))) (.fn 21 (.bi .pair (.var 2) (.bi .pair (.var 3) (.bi .pair (.var 4) (.bi .pair (.var 0) (.bi .pair (.var 1) (.int 0))))))) true, .bool false]), (5, .loop [(2, .ptr 15 0), (3, .ptr 1 0)] 21 (rangeAt Try.prog 32 [4, 1, 0, 1, 1])), (15, .cells 31 0 false false [.yieldf 7]), (7, .loop [(3, .ptr 9 0)] 14 (rangeAt Try.prog 19 [4, 1, 0, 1, 1])), (9, .cells 32 0 false false [.nilslice]), (3, .seq ⟨5, .u8, .fn 21 (.bi .pair (.var 2) (.bi .pair (.var 3) (.bi .pair (.var 4) (.bi .pair (.var 0) (.bi .pair (.var 1) (.int 0)))))), .fn 22 (.bi .pair (.var 2) (.bi .pair (.var 3) (.bi .pair (.var 4) (.bi .pair (.var 0) (.bi .pair (.var 1) (.bi .pair (.var 10) (.int 0))))))), true, false⟩)], same := [1, 5, 7, 9, 13, 15], chg := [0, 2, 5, 6, 7, 8, 9, 10, 11, 12, 13, 14, 15, 16, 17, 18, 19, 20, 21, 22, 23, 24, 25, 26, 27, 28, 29, 30, 31, 32, 33, 34, 35, 36, 37, 38, 39, 40] }
noncomputable def eA : Nat → LSpec
 | 0 => eA00
 | _ => eA10
abbrev asZa0 : Q × Bool := ((.le (.var 4) (.var 0)), false)
abbrev asZa1 : Q × Bool := ((.le (.int 0) (.var 0)), true)
abbrev asZa2 : Q × Bool := ((.le (.int 0) (.bi .add (.var 3) (.var 0))), true)
abbrev asZa3 : Q × Bool := ((.le (.var 6) (.bi .add (.var 3) (.var 0))), false)
abbrev asZa4 : Q × Bool := ((.le (.int 0) (.bi (.iop .rem .i64) (.var 8) (.int 16))), true)
abbrev asZa5 : Q × Bool := ((.le (.int 16) (.bi (.iop .rem .i64) (.var 8) (.int 16))), false)
abbrev asZa6 : Q × Bool := ((.le (.int 16) (.var 8)), false)
abbrev asZa7 : Q × Bool := ((.le (.int 16) (.un .len (.var 7))), true)
abbrev asZa8 : Q × Bool := ((.fit .i64 (.bi .add (.var 8) (.int 1))), true)
abbrev asZa9 : Q × Bool := ((.fit .i64 (.bi .add (.var 0) (.int 1))), true)
def eA00_t0 : List (Q × Bool) := [asZa0, asZa1, asZa2, asZa3, asZa4, asZa5, asZa6, asZa7, asZa8, asZa9]
def eA00_d0 : List Duty := [(true, (.fn 21 (.bi .pair (.var 2) txZa21)), (.fn 21 (.bi .pair (.var 2) txZa13))), (true, (.fn 21 (.bi .pair (.var 2) txZa21)), (.fn 21 (.bi .pair (.var 2) txZa13))), (true, (.fn 21 (.bi .pair (.var 2) txZa21)), (.fn 21 (.bi .pair (.var 2) txZa13))), (false, (.fn 22 (.bi .pair (.var 2) txZa45)), (.fn 22 txZa30))]
def eA00_h0 : List (Nat × E) := [(10, (.bi .app (.un .one txZa0) (.lits []))), (6, (.var 6)), (2, (.var 2)), (1, (.int 1)), (9, txZa47), (8, (.bi .add (.var 8) (.int 1))), (7, txZa20), (0, (.bi .add (.var 0) (.int 1))), (3, (.var 3)), (4, (.var 4)), (5, (.var 5))]
theorem eA00_h0_0 : lookE eA00_h0 0 = (.bi .add (.var 0) (.int 1)) := rfl
theorem eA00_h0_1 : lookE eA00_h0 1 = (.int 1) := rfl
theorem eA00_h0_2 : lookE eA00_h0 2 = (.var 2) := rfl
theorem eA00_h0_3 : lookE eA00_h0 3 = (.var 3) := rfl
theorem eA00_h0_4 : lookE eA00_h0 4 = (.var 4) := rfl
theorem eA00_h0_5 : lookE eA00_h0 5 = (.var 5) := rfl
theorem eA00_h0_6 : lookE eA00_h0 6 = (.var 6) := rfl
theorem eA00_h0_7 : lookE eA00_h0 7 = txZa20 := rfl
theorem eA00_h0_8 : lookE eA00_h0 8 = (.bi .add (.var 8) (.int 1)) := rfl
theorem eA00_h0_9 : lookE eA00_h0 9 = txZa47 := rfl
theorem eA00_h0_10 : lookE eA00_h0 10 = (.bi .app (.un .one txZa0) (.lits [])) := rfl
theorem eA00_y0 : nextJ (eA 0) (eA 1) eA00_h0 [(9, 9), (7, 7), (15, 15), (3, 21), (1, 1), (17, 17), (13, 13), (5, 5)] (roundC Try.prog [] [] [] 3000 40 34 [4, 1] (tellA eA00_t0) (eA 0)) = some eA00_d0 := by kernel_rfl
abbrev asZa10 : Q × Bool := ((.le (.int 16) (.var 8)), true)
def eA00_t1 : List (Q × Bool) := [asZa0, asZa1, asZa2, asZa3, asZa4, asZa5, asZa10, asZa7, asZa8, asZa9]
def eA00_d1 : List Duty := [(true, (.fn 21 (.bi .pair (.var 2) txZa21)), (.fn 21 (.bi .pair (.var 2) txZa13))), (true, (.fn 21 (.bi .pair (.var 2) txZa21)), (.fn 21 (.bi .pair (.var 2) txZa13))), (true, (.fn 21 (.bi .pair (.var 2) txZa21)), (.fn 21 (.bi .pair (.var 2) txZa13))), (false, (.fn 22 (.bi .pair (.var 2) txZa45)), (.fn 22 txZa30))]
def eA00_h1 : List (Nat × E) := [(10, (.bi .app (.un .one txZa0) (.lits []))), (6, (.var 6)), (2, (.var 2)), (1, (.int 1)), (9, (.bi (.iop .add .u32) txZa50 txZa33)), (8, (.bi .add (.var 8) (.int 1))), (7, txZa20), (0, (.bi .add (.var 0) (.int 1))), (3, (.var 3)), (4, (.var 4)), (5, (.var 5))]
theorem eA00_h1_0 : lookE eA00_h1 0 = (.bi .add (.var 0) (.int 1)) := rfl
theorem eA00_h1_1 : lookE eA00_h1 1 = (.int 1) := rfl
theorem eA00_h1_2 : lookE eA00_h1 2 = (.var 2) := rfl
theorem eA00_h1_3 : lookE eA00_h1 3 = (.var 3) := rfl
theorem eA00_h1_4 : lookE eA00_h1 4 = (.var 4) := rfl
theorem eA00_h1_5 : lookE eA00_h1 5 = (.var 5) := rfl
theorem eA00_h1_6 : lookE eA00_h1 6 = (.var 6) := rfl
theorem eA00_h1_7 : lookE eA00_h1 7 = txZa20 := rfl
theorem eA00_h1_8 : lookE eA00_h1 8 = (.bi .add (.var 8) (.int 1)) := rfl
theorem eA00_h1_9 : lookE eA00_h1 9 = (.bi (.iop .add .u32) txZa50 txZa33) := rfl
theorem eA00_h1_10 : lookE eA00_h1 10 = (.bi .app (.un .one txZa0) (.lits [])) := rfl
theorem eA00_y1 : nextJ (eA 0) (eA 1) eA00_h1 [(9, 9), (7, 7), (15, 15), (3, 21), (1, 1), (17, 17), (13, 13), (5, 5)] (roundC Try.prog [] [] [] 3000 40 34 [4, 1] (tellA eA00_t1) (eA 0)) = some eA00_d1 := by kernel_rfl
abbrev asZa11 : Q × Bool := ((.le (.int 1) (.var 1)), true)
abbrev asZa12 : Q × Bool := ((.le (.bi .mul (.bi .add (.var 1) (.int 1)) (.int 2)) (.int 281474976710656)), true)
abbrev asZa13 : Q × Bool := ((.fit .i64 (.bi .add (.var 1) (.int 1))), true)
abbrev asZa14 : Q × Bool := ((.le (.int 1) (.bi .add (.var 1) (.int 1))), true)
abbrev asZa15 : Q × Bool := ((.eq (.bi .add (.var 1) (.int 1)) (.int 1024)), false)
abbrev asZa16 : Q × Bool := ((.le (.int 64) (.bi .add (.var 1) (.int 1))), false)
def eA10_t0 : List (Q × Bool) := [asZa0, asZa1, asZa2, asZa3, asZa11, asZa12, asZa13, asZa4, asZa5, asZa6, asZa7, asZa8, asZa14, asZa15, asZa16, asZa9]
def eA10_d0 : List Duty := [(true, (.fn 21 (.bi .pair (.var 2) txZa25)), (.fn 21 (.bi .pair (.var 2) txZa14))), (true, (.fn 21 (.bi .pair (.var 2) txZa25)), (.fn 21 (.bi .pair (.var 2) txZa14))), (true, (.fn 21 (.bi .pair (.var 2) txZa25)), (.fn 21 (.bi .pair (.var 2) txZa14))), (false, (.fn 22 (.bi .pair (.var 2) txZa49)), (.fn 22 txZa28))]
def eA10_h0 : List (Nat × E) := [(10, txZa19), (6, (.var 6)), (2, (.var 2)), (1, (.bi .add (.var 1) (.int 1))), (9, txZa47), (8, (.bi .add (.var 8) (.int 1))), (7, txZa20), (0, (.bi .add (.var 0) (.int 1))), (3, (.var 3)), (4, (.var 4)), (5, (.var 5))]
theorem eA10_h0_0 : lookE eA10_h0 0 = (.bi .add (.var 0) (.int 1)) := rfl
theorem eA10_h0_1 : lookE eA10_h0 1 = (.bi .add (.var 1) (.int 1)) := rfl
theorem eA10_h0_2 : lookE eA10_h0 2 = (.var 2) := rfl
theorem eA10_h0_3 : lookE eA10_h0 3 = (.var 3) := rfl
theorem eA10_h0_4 : lookE eA10_h0 4 = (.var 4) := rfl
theorem eA10_h0_5 : lookE eA10_h0 5 = (.var 5) := rfl
theorem eA10_h0_6 : lookE eA10_h0 6 = (.var 6) := rfl
theorem eA10_h0_7 : lookE eA10_h0 7 = txZa20 := rfl
theorem eA10_h0_8 : lookE eA10_h0 8 = (.bi .add (.var 8) (.int 1)) := rfl
theorem eA10_h0_9 : lookE eA10_h0 9 = txZa47 := rfl
theorem eA10_h0_10 : lookE eA10_h0 10 = txZa19 := rfl
theorem eA10_y0 : nextJ (eA 1) (eA 1) eA10_h0 [(9, 9), (7, 7), (15, 15), (3, 21), (1, 1), (17, 17), (13, 13), (5, 5)] (roundC Try.prog [] [] [] 3000 40 34 [4, 1] (tellA eA10_t0) (eA 1)) = some eA10_d0 := by kernel_rfl
def eA10_t1 : List (Q × Bool) := [asZa0, asZa1, asZa2, asZa3, asZa11, asZa12, asZa13, asZa4, asZa5, asZa10, asZa7, asZa8, asZa14, asZa15, asZa16, asZa9]
def eA10_d1 : List Duty := [(true, (.fn 21 (.bi .pair (.var 2) txZa25)), (.fn 21 (.bi .pair (.var 2) txZa14))), (true, (.fn 21 (.bi .pair (.var 2) txZa25)), (.fn 21 (.bi .pair (.var 2) txZa14))), (true, (.fn 21 (.bi .pair (.var 2) txZa25)), (.fn 21 (.bi .pair (.var 2) txZa14))), (false, (.fn 22 (.bi .pair (.var 2) txZa49)), (.fn 22 txZa28))]
def eA10_h1 : List (Nat × E) := [(10, txZa19), (6, (.var 6)), (2, (.var 2)), (1, (.bi .add (.var 1) (.int 1))), (9, (.bi (.iop .add .u32) txZa50 txZa33)), (8, (.bi .add (.var 8) (.int 1))), (7, txZa20), (0, (.bi .add (.var 0) (.int 1))), (3, (.var 3)), (4, (.var 4)), (5, (.var 5))]
theorem eA10_h1_0 : lookE eA10_h1 0 = (.bi .add (.var 0) (.int 1)) := rfl
theorem eA10_h1_1 : lookE eA10_h1 1 = (.bi .add (.var 1) (.int 1)) := rfl
theorem eA10_h1_2 : lookE eA10_h1 2 = (.var 2) := rfl
theorem eA10_h1_3 : lookE eA10_h1 3 = (.var 3) := rfl
theorem eA10_h1_4 : lookE eA10_h1 4 = (.var 4) := rfl
theorem eA10_h1_5 : lookE eA10_h1 5 = (.var 5) := rfl
theorem eA10_h1_6 : lookE eA10_h1 6 = (.var 6) := rfl
theorem eA10_h1_7 : lookE eA10_h1 7 = txZa20 := rfl
theorem eA10_h1_8 : lookE eA10_h1 8 = (.bi .add (.var 8) (.int 1)) := rfl
theorem eA10_h1_9 : lookE eA10_h1 9 = (.bi (.iop .add .u32) txZa50 txZa33) := rfl
theorem eA10_h1_10 : lookE eA10_h1 10 = txZa19 := rfl
theorem eA10_y1 : nextJ (eA 1) (eA 1) eA10_h1 [(9, 9), (7, 7), (15, 15), (3, 21), (1, 1), (17, 17), (13, 13), (5, 5)] (roundC Try.prog [] [] [] 3000 40 34 [4, 1] (tellA eA10_t1) (eA 1)) = some eA10_d1 := by kernel_rfl
abbrev asZa17 : Q × Bool := ((.le (.int 64) (.bi .add (.var 1) (.int 1))), true)
abbrev asZa18 : Q × Bool := ((.le (.int 16777216) (.bi (.iop .add .u32) txZa50 txZa33)), true)
def eA10_t2 : List (Q × Bool) := [asZa0, asZa1, asZa2, asZa3, asZa11, asZa12, asZa13, asZa4, asZa5, asZa10, asZa7, asZa8, asZa14, asZa15, asZa17, asZa18, asZa9]
def eA10_d2 : List Duty := [(true, (.fn 21 (.bi .pair (.var 2) txZa25)), (.fn 21 (.bi .pair (.var 2) txZa14))), (true, (.fn 21 (.bi .pair (.var 2) txZa25)), (.fn 21 (.bi .pair (.var 2) txZa14))), (true, (.fn 21 (.bi .pair (.var 2) txZa25)), (.fn 21 (.bi .pair (.var 2) txZa14))), (false, (.fn 22 (.bi .pair (.var 2) txZa49)), (.fn 22 txZa28))]
def eA10_h2 : List (Nat × E) := [(10, txZa19), (6, (.var 6)), (2, (.var 2)), (1, (.bi .add (.var 1) (.int 1))), (9, (.bi (.iop .add .u32) txZa50 txZa33)), (8, (.bi .add (.var 8) (.int 1))), (7, txZa20), (0, (.bi .add (.var 0) (.int 1))), (3, (.var 3)), (4, (.var 4)), (5, (.var 5))]
theorem eA10_h2_0 : lookE eA10_h2 0 = (.bi .add (.var 0) (.int 1)) := rfl
theorem eA10_h2_1 : lookE eA10_h2 1 = (.bi .add (.var 1) (.int 1)) := rfl
theorem eA10_h2_2 : lookE eA10_h2 2 = (.var 2) := rfl
theorem eA10_h2_3 : lookE eA10_h2 3 = (.var 3) := rfl
theorem eA10_h2_4 : lookE eA10_h2 4 = (.var 4) := rfl
theorem eA10_h2_5 : lookE eA10_h2 5 = (.var 5) := rfl
theorem eA10_h2_6 : lookE eA10_h2 6 = (.var 6) := rfl
theorem eA10_h2_7 : lookE eA10_h2 7 = txZa20 := rfl
theorem eA10_h2_8 : lookE eA10_h2 8 = (.bi .add (.var 8) (.int 1)) := rfl
theorem eA10_h2_9 : lookE eA10_h2 9 = (.bi (.iop .add .u32) txZa50 txZa33) := rfl
theorem eA10_h2_10 : lookE eA10_h2 10 = txZa19 := rfl
theorem eA10_y2 : nextJ (eA 1) (eA 1) eA10_h2 [(9, 9), (7, 7), (15, 15), (3, 21), (1, 1), (17, 17), (13, 13), (5, 5)] (roundC Try.prog [] [] [] 3000 40 34 [4, 1] (tellA eA10_t2) (eA 1)) = some eA10_d2 := by kernel_rfl
abbrev asZa19 : Q × Bool := ((.le (.var 4) (.var 0)), true)
def eA10_t3 : List (Q × Bool) := [asZa19]
def eA10_d3 : List Duty := [(true, (.bi .sel (.var 7) (.int 0)), (.bi .sel (.fn 9 txZa12) (.int 0))), (true, (.bi .sel (.var 7) (.int 1)), (.bi .sel (.fn 9 txZa12) (.int 1))), (true, (.bi .sel (.var 7) (.int 2)), (.bi .sel (.fn 9 txZa12) (.int 2))), (true, (.bi .sel (.var 7) (.int 3)), (.bi .sel (.fn 9 txZa12) (.int 3))), (true, (.bi .sel (.var 7) (.int 4)), (.bi .sel (.fn 9 txZa12) (.int 4))), (true, (.bi .sel (.var 7) (.int 5)), (.bi .sel (.fn 9 txZa12) (.int 5))), (true, (.bi .sel (.var 7) (.int 6)), (.bi .sel (.fn 9 txZa12) (.int 6))), (true, (.bi .sel (.var 7) (.int 7)), (.bi .sel (.fn 9 txZa12) (.int 7))), (true, (.bi .sel (.var 7) (.int 8)), (.bi .sel (.fn 9 txZa12) (.int 8))), (true, (.bi .sel (.var 7) (.int 9)), (.bi .sel (.fn 9 txZa12) (.int 9))), (true, (.bi .sel (.var 7) (.int 10)), (.bi .sel (.fn 9 txZa12) (.int 10))), (true, (.bi .sel (.var 7) (.int 11)), (.bi .sel (.fn 9 txZa12) (.int 11))), (true, (.bi .sel (.var 7) (.int 12)), (.bi .sel (.fn 9 txZa12) (.int 12))), (true, (.bi .sel (.var 7) (.int 13)), (.bi .sel (.fn 9 txZa12) (.int 13))), (true, (.bi .sel (.var 7) (.int 14)), (.bi .sel (.fn 9 txZa12) (.int 14))), (true, (.bi .sel (.var 7) (.int 15)), (.bi .sel (.fn 9 txZa12) (.int 15))), (true, (.var 8), (.var 4)), (true, (.var 9), (.fn 11 txZa12)), (true, (.var 1), (.fn 21 (.bi .pair (.var 2) txZa14))), (true, (.var 1), (.fn 21 (.bi .pair (.var 2) txZa14))), (true, (.var 1), (.fn 21 (.bi .pair (.var 2) txZa14))), (false, (.var 10), (.fn 22 txZa28))]
theorem eA10_y3 : endD (eA 1) [(3, 3), (1, 1), (5, 5), (7, 7), (9, 9), (13, 13), (15, 15)] 1000 (roundC Try.prog [] [] [] 3000 40 34 [4, 1] (tellA eA10_t3) (eA 1)) = some eA10_d3 := by kernel_rfl
set_option maxHeartbeats 16000000 in
theorem eA_holds : ∀ i, i < 2 → LHolds Try.prog (loopAt Try.prog 34 [4, 1]) (eA i) F := by
 refine loop_famC sound (tableNil _ _) (specsNil _ _) (oversNil _ _) (fuel := 3000) (depth := 40) (by kernel_rfl) (fun i d => match i with | 0 => ((d 4).toInt - (d 0).toInt).toNat | _ => ((d 4).toInt - (d 0).toInt).toNat) ?_
 intro i hi d hp hR hA
 match i, hi with
 | 0, _ =>
   have hp := allTold'_iff.2 hp
   simp only [eA, eA00, allTold', dutiesTold, factsA, factsC, factsP, factsR, AV.facts, RW.facts, inK, and_true, Q.holds', E.i, E.s, E.n, D.nat, E.den, BO.den, UO.den, TO.den, D.toInt_int, D.toList_list, D.ints_ofInts, i64min, i64max, u8min, u8max, u16min, u16max, u32min, u32max, u64min, u64max, i32min, i32max, Om.sub, selI, ints_app, ints_cut, ints_upd, ints_rep, ints_splice, ints_seg, len_ints] at hp hR hA
   simp only [F9, F11, F20, F21, D.toInt_int, D.ints_ofInts, UO.den] at hp
   obtain ⟨p1, p2, p3, p4, p5, p6, p7, p8, p9, pf, pz⟩ := hp
   by_cases h : (d 4).toInt ≤ (d 0).toInt
   ·exfalso
    have ce := cuts_end (x := (d 2).ints) (o := (d 3).toInt) (n := 0) h
    simp only [ce, List.length_nil] at pf pz
    all_goals omega
   ·have es : ((d 0).toInt + 1 - 1).toNat = (d 0).toInt.toNat := by omega
    have et : ((((d 0).toInt + 1 - 1).toNat : Nat) : Int) = (d 0).toInt := by omega
    rw [es] at p7
    rw [et] at p9
    have er : iopI .rem .i64 (d 8).toInt 16 = (d 0).toInt % 16 := by rw [p8, rem_emod _ (by omega)]
    obtain ⟨el, hw, hr⟩ := push_all (x := (d 2).ints) (o := (d 3).toInt) (i := (d 0).toInt) (by omega) (by omega) (by omega) p7 p9
    have hy : prt (d 2).ints ((d 3).toInt + (d 0).toInt) ((d 3).toInt + (d 4).toInt) = (d 2).ints[((d 3).toInt + (d 0).toInt).toNat]?.getD 0 :: prt (d 2).ints ((d 3).toInt + ((d 0).toInt + 1)) ((d 3).toInt + (d 4).toInt) := by
     rw [prt_step (o := (d 3).toInt + (d 0).toInt) (by omega) (by omega) (by omega), Int.add_assoc]
    have hz := prt_length (x := (d 2).ints) (o := (d 3).toInt + ((d 0).toInt + 1)) (t := (d 3).toInt + (d 4).toInt) (by omega) (by omega) (by omega)
    have e6 : ((d 0).toInt + 1 + 1 - 1).toNat = ((d 0).toInt + 1).toNat := by omega
    have e7 : ((((d 0).toInt + 1 + 1 - 1).toNat : Nat) : Int) = (d 0).toInt + 1 := by omega
    have e8 : (((d 0).toInt + 1).toNat : Int) = (d 0).toInt + 1 := by omega
    by_cases f : 16 ≤ (d 0).toInt
    ·unfold pushI at hw
     rw [if_pos f] at hw
     simp only [rollI, wI] at hw
     have cn := cuts_no (x := (d 2).ints) (o := (d 3).toInt) (t := (d 4).toInt) (i := (d 0).toInt) (n := 0) (by omega) (by omega)
     rw [show (0 : Int) + 1 = 1 from rfl] at cn
     rw [cn] at pf pz
     have ci := cuts_in (x := (d 2).ints) (o := (d 3).toInt) (t := (d 4).toInt) (i := (d 0).toInt + 1) (n := 0) (by omega) (by omega)
     refine ⟨tellA eA00_t1, tellA_ok (allTold'_iff.1 ?_), .inr ⟨1, eA00_h1, _, _, by decide, eA00_y1, dutiesTold_ok ?_, allTold'_iff.1 ?_, ?_⟩⟩
     ·simp only [eA00_t1, er, hw, allTold', dutiesTold, factsA, factsC, factsP, factsR, AV.facts, RW.facts, inK, and_true, Q.holds', E.i, E.s, E.n, D.nat, E.den, BO.den, UO.den, TO.den, D.toInt_int, D.toList_list, D.ints_ofInts, i64min, i64max, u8min, u8max, u16min, u16max, u32min, u32max, u64min, u64max, i32min, i32max, Om.sub, selI, ints_app, ints_cut, ints_upd, ints_rep, ints_splice, ints_seg, len_ints]
      omega
     ·simp only [eA00_d1, F20, F21, F22, cn, hw, allTold', dutiesTold, factsA, factsC, factsP, factsR, AV.facts, RW.facts, inK, and_true, Q.holds', E.i, E.s, E.n, D.nat, E.den, BO.den, UO.den, TO.den, D.toInt_int, D.toList_list, D.ints_ofInts, i64min, i64max, u8min, u8max, u16min, u16max, u32min, u32max, u64min, u64max, i32min, i32max, Om.sub, selI, ints_app, ints_cut, ints_upd, ints_rep, ints_splice, ints_seg, len_ints]
      (try simp only [hy, ints_list, List.map_cons, List.map_append, List.map_nil, map_ints, getT, ofInts0, D.toList_list, D.toInt_int, D.ints_ofInts, List.cons_append, List.append_assoc, List.nil_append, List.length_cons]); first | done | (and_intros <;> first | exact True.intro | rfl | omega | exact last_cut3 (by omega) | assumption)
     ·simp only [eA, eA00, eA10, eA00_h1_0, eA00_h1_1, eA00_h1_2, eA00_h1_3, eA00_h1_4, eA00_h1_5, eA00_h1_6, eA00_h1_7, eA00_h1_8, eA00_h1_9, eA00_h1_10, F9, F11, F20, F21, er, hw, e6, e8, cn, allTold', dutiesTold, factsA, factsC, factsP, factsR, AV.facts, RW.facts, inK, and_true, Q.holds', E.i, E.s, E.n, D.nat, E.den, BO.den, UO.den, TO.den, D.toInt_int, D.toList_list, D.ints_ofInts, i64min, i64max, u8min, u8max, u16min, u16max, u32min, u32max, u64min, u64max, i32min, i32max, Om.sub, selI, ints_app, ints_cut, ints_upd, ints_rep, ints_splice, ints_seg, len_ints]
      first | done | (and_intros <;> first | exact True.intro | rfl | omega | exact hr.symm | assumption)
     ·simp only [eA00_h1_0, eA00_h1_1, eA00_h1_2, eA00_h1_3, eA00_h1_4, eA00_h1_5, eA00_h1_6, eA00_h1_7, eA00_h1_8, eA00_h1_9, eA00_h1_10, allTold', dutiesTold, factsA, factsC, factsP, factsR, AV.facts, RW.facts, inK, and_true, Q.holds', E.i, E.s, E.n, D.nat, E.den, BO.den, UO.den, TO.den, D.toInt_int, D.toList_list, D.ints_ofInts, i64min, i64max, u8min, u8max, u16min, u16max, u32min, u32max, u64min, u64max, i32min, i32max, Om.sub, selI, ints_app, ints_cut, ints_upd, ints_rep, ints_splice, ints_seg, len_ints]
      omega
    ·unfold pushI at hw
     rw [if_neg f] at hw
     simp only [stepI, wI] at hw
     have cn := cuts_no (x := (d 2).ints) (o := (d 3).toInt) (t := (d 4).toInt) (i := (d 0).toInt) (n := 0) (by omega) (by omega)
     rw [show (0 : Int) + 1 = 1 from rfl] at cn
     rw [cn] at pf pz
     have ci := cuts_in (x := (d 2).ints) (o := (d 3).toInt) (t := (d 4).toInt) (i := (d 0).toInt + 1) (n := 0) (by omega) (by omega)
     refine ⟨tellA eA00_t0, tellA_ok (allTold'_iff.1 ?_), .inr ⟨1, eA00_h0, _, _, by decide, eA00_y0, dutiesTold_ok ?_, allTold'_iff.1 ?_, ?_⟩⟩
     ·simp only [eA00_t0, er, hw, allTold', dutiesTold, factsA, factsC, factsP, factsR, AV.facts, RW.facts, inK, and_true, Q.holds', E.i, E.s, E.n, D.nat, E.den, BO.den, UO.den, TO.den, D.toInt_int, D.toList_list, D.ints_ofInts, i64min, i64max, u8min, u8max, u16min, u16max, u32min, u32max, u64min, u64max, i32min, i32max, Om.sub, selI, ints_app, ints_cut, ints_upd, ints_rep, ints_splice, ints_seg, len_ints]
      omega
     ·simp only [eA00_d0, F20, F21, F22, cn, hw, allTold', dutiesTold, factsA, factsC, factsP, factsR, AV.facts, RW.facts, inK, and_true, Q.holds', E.i, E.s, E.n, D.nat, E.den, BO.den, UO.den, TO.den, D.toInt_int, D.toList_list, D.ints_ofInts, i64min, i64max, u8min, u8max, u16min, u16max, u32min, u32max, u64min, u64max, i32min, i32max, Om.sub, selI, ints_app, ints_cut, ints_upd, ints_rep, ints_splice, ints_seg, len_ints]
      (try simp only [hy, ints_list, List.map_cons, List.map_append, List.map_nil, map_ints, getT, ofInts0, D.toList_list, D.toInt_int, D.ints_ofInts, List.cons_append, List.append_assoc, List.nil_append, List.length_cons]); first | done | (and_intros <;> first | exact True.intro | rfl | omega | exact last_cut3 (by omega) | assumption)
     ·simp only [eA, eA00, eA10, eA00_h0_0, eA00_h0_1, eA00_h0_2, eA00_h0_3, eA00_h0_4, eA00_h0_5, eA00_h0_6, eA00_h0_7, eA00_h0_8, eA00_h0_9, eA00_h0_10, F9, F11, F20, F21, er, hw, e6, e8, cn, allTold', dutiesTold, factsA, factsC, factsP, factsR, AV.facts, RW.facts, inK, and_true, Q.holds', E.i, E.s, E.n, D.nat, E.den, BO.den, UO.den, TO.den, D.toInt_int, D.toList_list, D.ints_ofInts, i64min, i64max, u8min, u8max, u16min, u16max, u32min, u32max, u64min, u64max, i32min, i32max, Om.sub, selI, ints_app, ints_cut, ints_upd, ints_rep, ints_splice, ints_seg, len_ints]
      first | done | (and_intros <;> first | exact True.intro | rfl | omega | exact hr.symm | assumption)
     ·simp only [eA00_h0_0, eA00_h0_1, eA00_h0_2, eA00_h0_3, eA00_h0_4, eA00_h0_5, eA00_h0_6, eA00_h0_7, eA00_h0_8, eA00_h0_9, eA00_h0_10, allTold', dutiesTold, factsA, factsC, factsP, factsR, AV.facts, RW.facts, inK, and_true, Q.holds', E.i, E.s, E.n, D.nat, E.den, BO.den, UO.den, TO.den, D.toInt_int, D.toList_list, D.ints_ofInts, i64min, i64max, u8min, u8max, u16min, u16max, u32min, u32max, u64min, u64max, i32min, i32max, Om.sub, selI, ints_app, ints_cut, ints_upd, ints_rep, ints_splice, ints_seg, len_ints]
      omega
 | 1, _ =>
   have hp := allTold'_iff.2 hp
   simp only [eA, eA10, allTold', dutiesTold, factsA, factsC, factsP, factsR, AV.facts, RW.facts, inK, and_true, Q.holds', E.i, E.s, E.n, D.nat, E.den, BO.den, UO.den, TO.den, D.toInt_int, D.toList_list, D.ints_ofInts, i64min, i64max, u8min, u8max, u16min, u16max, u32min, u32max, u64min, u64max, i32min, i32max, Om.sub, selI, ints_app, ints_cut, ints_upd, ints_rep, ints_splice, ints_seg, len_ints] at hp hR hA
   simp only [F9, F11, F20, F21, D.toInt_int, D.ints_ofInts, UO.den] at hp
   obtain ⟨p1, p2, p3, p4, p5, p6, p7, p8, p9, p10, p11, p12, pf, pz⟩ := hp
   by_cases h : (d 4).toInt ≤ (d 0).toInt
   ·have ce := cuts_end (x := (d 2).ints) (o := (d 3).toInt) (n := (d 1).toInt) h
    have i4 : (d 0).toInt = (d 4).toInt := by omega
    rw [← i4] at ce
    refine ⟨tellA eA10_t3, tellA_ok (allTold'_iff.1 ?_), .inl ⟨_, _, _, eA10_y3, dutiesTold_ok ?_⟩⟩
    ·simp only [eA10_t3, allTold', dutiesTold, factsA, factsC, factsP, factsR, AV.facts, RW.facts, inK, and_true, Q.holds', E.i, E.s, E.n, D.nat, E.den, BO.den, UO.den, TO.den, D.toInt_int, D.toList_list, D.ints_ofInts, i64min, i64max, u8min, u8max, u16min, u16max, u32min, u32max, u64min, u64max, i32min, i32max, Om.sub, selI, ints_app, ints_cut, ints_upd, ints_rep, ints_splice, ints_seg, len_ints]
     omega
    ·simp only [eA10_d3, F9, F11, F20, F21, F22, allTold', dutiesTold, factsA, factsC, factsP, factsR, AV.facts, RW.facts, inK, and_true, Q.holds', E.i, E.s, E.n, D.nat, E.den, BO.den, UO.den, TO.den, D.toInt_int, D.toList_list, D.ints_ofInts, i64min, i64max, u8min, u8max, u16min, u16max, u32min, u32max, u64min, u64max, i32min, i32max, Om.sub, selI, ints_app, ints_cut, ints_upd, ints_rep, ints_splice, ints_seg, len_ints]
     (try simp only [← i4, ce, p7, Int.natCast_zero, Int.add_zero, prt_nil (x := (d 2).ints) (o := (d 3).toInt + (d 0).toInt) (t := (d 3).toInt + (d 0).toInt) (by omega) (by omega), List.append_nil, List.length_nil, D.ints_ofInts]); first | done | (and_intros <;> first | exact True.intro | rfl | omega | exact (last_all (by omega)).symm | assumption)
   ·have es : ((d 0).toInt + 1 - 1).toNat = (d 0).toInt.toNat := by omega
    have et : ((((d 0).toInt + 1 - 1).toNat : Nat) : Int) = (d 0).toInt := by omega
    rw [es] at p7
    rw [et] at p9
    have er : iopI .rem .i64 (d 8).toInt 16 = (d 0).toInt % 16 := by rw [p8, rem_emod _ (by omega)]
    obtain ⟨el, hw, hr⟩ := push_all (x := (d 2).ints) (o := (d 3).toInt) (i := (d 0).toInt) (by omega) (by omega) (by omega) p7 p9
    have hy : prt (d 2).ints ((d 3).toInt + (d 0).toInt) ((d 3).toInt + (d 4).toInt) = (d 2).ints[((d 3).toInt + (d 0).toInt).toNat]?.getD 0 :: prt (d 2).ints ((d 3).toInt + ((d 0).toInt + 1)) ((d 3).toInt + (d 4).toInt) := by
     rw [prt_step (o := (d 3).toInt + (d 0).toInt) (by omega) (by omega) (by omega), Int.add_assoc]
    have hz := prt_length (x := (d 2).ints) (o := (d 3).toInt + ((d 0).toInt + 1)) (t := (d 3).toInt + (d 4).toInt) (by omega) (by omega) (by omega)
    have e6 : ((d 0).toInt + 1 + 1 - 1).toNat = ((d 0).toInt + 1).toNat := by omega
    have e7 : ((((d 0).toInt + 1 + 1 - 1).toNat : Nat) : Int) = (d 0).toInt + 1 := by omega
    have e8 : (((d 0).toInt + 1).toNat : Int) = (d 0).toInt + 1 := by omega
    by_cases q : (d 1).toInt + 1 < 64
    ·by_cases f : 16 ≤ (d 0).toInt
     ·unfold pushI at hw
      rw [if_pos f] at hw
      simp only [rollI, wI] at hw
      have cn := cuts_no (x := (d 2).ints) (o := (d 3).toInt) (t := (d 4).toInt) (i := (d 0).toInt) (n := (d 1).toInt) (by omega) (by omega)
      rw [cn] at pf pz
      have ci := cuts_in (x := (d 2).ints) (o := (d 3).toInt) (t := (d 4).toInt) (i := (d 0).toInt + 1) (n := 0) (by omega) (by omega)
      refine ⟨tellA eA10_t1, tellA_ok (allTold'_iff.1 ?_), .inr ⟨1, eA10_h1, _, _, by decide, eA10_y1, dutiesTold_ok ?_, allTold'_iff.1 ?_, ?_⟩⟩
      ·simp only [eA10_t1, er, hw, allTold', dutiesTold, factsA, factsC, factsP, factsR, AV.facts, RW.facts, inK, and_true, Q.holds', E.i, E.s, E.n, D.nat, E.den, BO.den, UO.den, TO.den, D.toInt_int, D.toList_list, D.ints_ofInts, i64min, i64max, u8min, u8max, u16min, u16max, u32min, u32max, u64min, u64max, i32min, i32max, Om.sub, selI, ints_app, ints_cut, ints_upd, ints_rep, ints_splice, ints_seg, len_ints]
       omega
      ·simp only [eA10_d1, F20, F21, F22, cn, hw, allTold', dutiesTold, factsA, factsC, factsP, factsR, AV.facts, RW.facts, inK, and_true, Q.holds', E.i, E.s, E.n, D.nat, E.den, BO.den, UO.den, TO.den, D.toInt_int, D.toList_list, D.ints_ofInts, i64min, i64max, u8min, u8max, u16min, u16max, u32min, u32max, u64min, u64max, i32min, i32max, Om.sub, selI, ints_app, ints_cut, ints_upd, ints_rep, ints_splice, ints_seg, len_ints]
       (try simp only [hy, ints_list, List.map_cons, List.map_append, List.map_nil, map_ints, getT, ofInts0, D.toList_list, D.toInt_int, D.ints_ofInts, List.cons_append, List.append_assoc, List.nil_append, List.length_cons]); first | done | (and_intros <;> first | exact True.intro | rfl | omega | exact last_cut3 (by omega) | assumption)
      ·simp only [eA, eA00, eA10, eA10_h1_0, eA10_h1_1, eA10_h1_2, eA10_h1_3, eA10_h1_4, eA10_h1_5, eA10_h1_6, eA10_h1_7, eA10_h1_8, eA10_h1_9, eA10_h1_10, F9, F11, F20, F21, er, hw, e6, e8, cn, allTold', dutiesTold, factsA, factsC, factsP, factsR, AV.facts, RW.facts, inK, and_true, Q.holds', E.i, E.s, E.n, D.nat, E.den, BO.den, UO.den, TO.den, D.toInt_int, D.toList_list, D.ints_ofInts, i64min, i64max, u8min, u8max, u16min, u16max, u32min, u32max, u64min, u64max, i32min, i32max, Om.sub, selI, ints_app, ints_cut, ints_upd, ints_rep, ints_splice, ints_seg, len_ints]
       first | done | (and_intros <;> first | exact True.intro | rfl | omega | exact hr.symm | assumption)
      ·simp only [eA10_h1_0, eA10_h1_1, eA10_h1_2, eA10_h1_3, eA10_h1_4, eA10_h1_5, eA10_h1_6, eA10_h1_7, eA10_h1_8, eA10_h1_9, eA10_h1_10, allTold', dutiesTold, factsA, factsC, factsP, factsR, AV.facts, RW.facts, inK, and_true, Q.holds', E.i, E.s, E.n, D.nat, E.den, BO.den, UO.den, TO.den, D.toInt_int, D.toList_list, D.ints_ofInts, i64min, i64max, u8min, u8max, u16min, u16max, u32min, u32max, u64min, u64max, i32min, i32max, Om.sub, selI, ints_app, ints_cut, ints_upd, ints_rep, ints_splice, ints_seg, len_ints]
       omega
     ·unfold pushI at hw
      rw [if_neg f] at hw
      simp only [stepI, wI] at hw
      have cn := cuts_no (x := (d 2).ints) (o := (d 3).toInt) (t := (d 4).toInt) (i := (d 0).toInt) (n := (d 1).toInt) (by omega) (by omega)
      rw [cn] at pf pz
      have ci := cuts_in (x := (d 2).ints) (o := (d 3).toInt) (t := (d 4).toInt) (i := (d 0).toInt + 1) (n := 0) (by omega) (by omega)
      refine ⟨tellA eA10_t0, tellA_ok (allTold'_iff.1 ?_), .inr ⟨1, eA10_h0, _, _, by decide, eA10_y0, dutiesTold_ok ?_, allTold'_iff.1 ?_, ?_⟩⟩
      ·simp only [eA10_t0, er, hw, allTold', dutiesTold, factsA, factsC, factsP, factsR, AV.facts, RW.facts, inK, and_true, Q.holds', E.i, E.s, E.n, D.nat, E.den, BO.den, UO.den, TO.den, D.toInt_int, D.toList_list, D.ints_ofInts, i64min, i64max, u8min, u8max, u16min, u16max, u32min, u32max, u64min, u64max, i32min, i32max, Om.sub, selI, ints_app, ints_cut, ints_upd, ints_rep, ints_splice, ints_seg, len_ints]
       omega
      ·simp only [eA10_d0, F20, F21, F22, cn, hw, allTold', dutiesTold, factsA, factsC, factsP, factsR, AV.facts, RW.facts, inK, and_true, Q.holds', E.i, E.s, E.n, D.nat, E.den, BO.den, UO.den, TO.den, D.toInt_int, D.toList_list, D.ints_ofInts, i64min, i64max, u8min, u8max, u16min, u16max, u32min, u32max, u64min, u64max, i32min, i32max, Om.sub, selI, ints_app, ints_cut, ints_upd, ints_rep, ints_splice, ints_seg, len_ints]
       (try simp only [hy, ints_list, List.map_cons, List.map_append, List.map_nil, map_ints, getT, ofInts0, D.toList_list, D.toInt_int, D.ints_ofInts, List.cons_append, List.append_assoc, List.nil_append, List.length_cons]); first | done | (and_intros <;> first | exact True.intro | rfl | omega | exact last_cut3 (by omega) | assumption)
      ·simp only [eA, eA00, eA10, eA10_h0_0, eA10_h0_1, eA10_h0_2, eA10_h0_3, eA10_h0_4, eA10_h0_5, eA10_h0_6, eA10_h0_7, eA10_h0_8, eA10_h0_9, eA10_h0_10, F9, F11, F20, F21, er, hw, e6, e8, cn, allTold', dutiesTold, factsA, factsC, factsP, factsR, AV.facts, RW.facts, inK, and_true, Q.holds', E.i, E.s, E.n, D.nat, E.den, BO.den, UO.den, TO.den, D.toInt_int, D.toList_list, D.ints_ofInts, i64min, i64max, u8min, u8max, u16min, u16max, u32min, u32max, u64min, u64max, i32min, i32max, Om.sub, selI, ints_app, ints_cut, ints_upd, ints_rep, ints_splice, ints_seg, len_ints]
       first | done | (and_intros <;> first | exact True.intro | rfl | omega | exact hr.symm | assumption)
      ·simp only [eA10_h0_0, eA10_h0_1, eA10_h0_2, eA10_h0_3, eA10_h0_4, eA10_h0_5, eA10_h0_6, eA10_h0_7, eA10_h0_8, eA10_h0_9, eA10_h0_10, allTold', dutiesTold, factsA, factsC, factsP, factsR, AV.facts, RW.facts, inK, and_true, Q.holds', E.i, E.s, E.n, D.nat, E.den, BO.den, UO.den, TO.den, D.toInt_int, D.toList_list, D.ints_ofInts, i64min, i64max, u8min, u8max, u16min, u16max, u32min, u32max, u64min, u64max, i32min, i32max, Om.sub, selI, ints_app, ints_cut, ints_upd, ints_rep, ints_splice, ints_seg, len_ints]
       omega
    ·have f : 16 ≤ (d 0).toInt := by omega
     unfold pushI at hw
     rw [if_pos f] at hw
     simp only [rollI, wI] at hw
     by_cases g : (d 1).toInt + 1 = 1024
     ·exfalso
      have cn := cuts_yes (x := (d 2).ints) (o := (d 3).toInt) (t := (d 4).toInt) (i := (d 0).toInt) (n := (d 1).toInt) (by omega) (by omega)
      simp only [cn, List.length_cons] at pz
      omega
     ·by_cases w : winI (d 2).ints (d 3).toInt ((d 0).toInt + 1) < 16777216
      ·exfalso
       have cn := cuts_yes (x := (d 2).ints) (o := (d 3).toInt) (t := (d 4).toInt) (i := (d 0).toInt) (n := (d 1).toInt) (by omega) (by omega)
       simp only [cn, List.length_cons] at pz
       omega
      ·have cn := cuts_no (x := (d 2).ints) (o := (d 3).toInt) (t := (d 4).toInt) (i := (d 0).toInt) (n := (d 1).toInt) (by omega) (by omega)
       rw [cn] at pf pz
       have ci := cuts_in (x := (d 2).ints) (o := (d 3).toInt) (t := (d 4).toInt) (i := (d 0).toInt + 1) (n := 0) (by omega) (by omega)
       refine ⟨tellA eA10_t2, tellA_ok (allTold'_iff.1 ?_), .inr ⟨1, eA10_h2, _, _, by decide, eA10_y2, dutiesTold_ok ?_, allTold'_iff.1 ?_, ?_⟩⟩
       ·simp only [eA10_t2, er, hw, allTold', dutiesTold, factsA, factsC, factsP, factsR, AV.facts, RW.facts, inK, and_true, Q.holds', E.i, E.s, E.n, D.nat, E.den, BO.den, UO.den, TO.den, D.toInt_int, D.toList_list, D.ints_ofInts, i64min, i64max, u8min, u8max, u16min, u16max, u32min, u32max, u64min, u64max, i32min, i32max, Om.sub, selI, ints_app, ints_cut, ints_upd, ints_rep, ints_splice, ints_seg, len_ints]
        omega
       ·simp only [eA10_d2, F20, F21, F22, cn, hw, allTold', dutiesTold, factsA, factsC, factsP, factsR, AV.facts, RW.facts, inK, and_true, Q.holds', E.i, E.s, E.n, D.nat, E.den, BO.den, UO.den, TO.den, D.toInt_int, D.toList_list, D.ints_ofInts, i64min, i64max, u8min, u8max, u16min, u16max, u32min, u32max, u64min, u64max, i32min, i32max, Om.sub, selI, ints_app, ints_cut, ints_upd, ints_rep, ints_splice, ints_seg, len_ints]
        (try simp only [hy, ints_list, List.map_cons, List.map_append, List.map_nil, map_ints, getT, ofInts0, D.toList_list, D.toInt_int, D.ints_ofInts, List.cons_append, List.append_assoc, List.nil_append, List.length_cons]); first | done | (and_intros <;> first | exact True.intro | rfl | omega | exact last_cut3 (by omega) | assumption)
       ·simp only [eA, eA00, eA10, eA10_h2_0, eA10_h2_1, eA10_h2_2, eA10_h2_3, eA10_h2_4, eA10_h2_5, eA10_h2_6, eA10_h2_7, eA10_h2_8, eA10_h2_9, eA10_h2_10, F9, F11, F20, F21, er, hw, e6, e8, cn, allTold', dutiesTold, factsA, factsC, factsP, factsR, AV.facts, RW.facts, inK, and_true, Q.holds', E.i, E.s, E.n, D.nat, E.den, BO.den, UO.den, TO.den, D.toInt_int, D.toList_list, D.ints_ofInts, i64min, i64max, u8min, u8max, u16min, u16max, u32min, u32max, u64min, u64max, i32min, i32max, Om.sub, selI, ints_app, ints_cut, ints_upd, ints_rep, ints_splice, ints_seg, len_ints]
        first | done | (and_intros <;> first | exact True.intro | rfl | omega | exact hr.symm | assumption)
       ·simp only [eA10_h2_0, eA10_h2_1, eA10_h2_2, eA10_h2_3, eA10_h2_4, eA10_h2_5, eA10_h2_6, eA10_h2_7, eA10_h2_8, eA10_h2_9, eA10_h2_10, allTold', dutiesTold, factsA, factsC, factsP, factsR, AV.facts, RW.facts, inK, and_true, Q.holds', E.i, E.s, E.n, D.nat, E.den, BO.den, UO.den, TO.den, D.toInt_int, D.toList_list, D.ints_ofInts, i64min, i64max, u8min, u8max, u16min, u16max, u32min, u32max, u64min, u64max, i32min, i32max, Om.sub, selI, ints_app, ints_cut, ints_upd, ints_rep, ints_splice, ints_seg, len_ints]
        omega
theorem eA00_holds : LHolds Try.prog (loopAt Try.prog 34 [4, 1]) eA00 F := eA_holds 0 (by decide)
theorem eA10_holds : LHolds Try.prog (loopAt Try.prog 34 [4, 1]) eA10 F := eA_holds 1 (by decide)

noncomputable def eB00 : LSpec := { n := 41, next := 9, pat := [(0, .yieldf 5), (2, .ptr 13 0), (6, .sslice 17 (.var 3) (.var 4) (.var 5) false), (7, .sint .i64 (.var 4)), (8, .sint .i64 (.var 0))], rows := [(13, .cells 33 0 false false [.ptr 1 0]), (1, .cells 62 0 false false [.ptr 1 0, .bool true, .sint .u8 (.bi .sel (.var 7) (.int 0)), .sint .u8 (.bi .sel (.var 7) (.int 1)), .sint .u8 (.bi .sel (.var 7) (.int 2)), .sint .u8 (.bi .sel (.var 7) (.int 3)), .sint .u8 (.bi .sel (.var 7) (.int 4)), .sint .u8 (.bi .sel (.var 7) (.int 5)), .sint .u8 (.bi .sel (.var 7) (.int 6)), .sint .u8 (.bi .sel (.var 7) (.int 7)), .sint .u8 (.bi .sel (.var 7) (.int 8)), .sint .u8 (.bi .sel (.var 7) (.int 9)), .sint .u8 (.bi .sel (.var 7) (.int 10)), .sint .u8 (.bi .sel (.var 7) (.int 11)), .sint .u8 (.bi .sel (.var 7) (.int 12)), .sint .u8 (.bi .sel (.var 7) (.int 13)), .sint .u8 (.bi .sel (.var 7) (.int 14)), .sint .u8 (.bi .sel (.var 7) (.int 15)), .sint .i64 (.var 8), .sint .u32 (.var 9), .nilslice, .bool false]), (5, .loop [(2, .ptr 15 0), (3, .ptr 1 0)] 21 (rangeAt Try.prog 32 [4, 1, 0, 1, 1])), (15, .cells 31 0 false false [.yieldf 7]), (7, .loop [(3, .ptr 9 0)] 14 (rangeAt Try.prog 19 [4, 1, 0, 1, 1])), (9, .cells 32 0 false false [.nilslice]), (17, .eseq ⟨.u8, .var 6, .var 2⟩)], pre := [(.le (.int 0) (.var 0), true), (.le (.var 0) (.var 4), true), (.le (.int 0) (.var 3), true), (.le (.bi .add (.var 3) (.var 4)) (.var 6), true), (.le (.var 4) (.var 5), true), (.le (.var 4) (.int 20000), true), (.same (.var 7) (.fn 9 (.bi .pair (.var 2) (.bi .pair (.var 3) (.bi .pair (.bi .add (.var 0) (.int 1)) (.int 0))))), true), (.eq (.var 8) (.var 0), true), (.eq (.var 9) (.fn 11 (.bi .pair (.var 2) (.bi .pair (.var 3) (.bi .pair (.bi .add (.var 0) (.int 1)) (.int 0))))), true), (.le (.int 1) (.fn 21 (.bi .pair (.var 2) (.bi .pair (.var 3) (.bi .pair (.var 4) (.bi .pair (.var 0) (.bi .pair (.int 0) (.int 0))))))), false), (.le (.int 1) (.un .len (.fn 20 (.bi .pair (.var 2) (.bi .pair (.var 3) (.bi .pair (.var 4) (.bi .pair (.var 0) (.bi .pair (.int 0) (.int 0)))))))), true)], x := 0, fin := [], frows := [(13, .cells 33 0 false false [.ptr 1 0]), (1, .cells 62 0 false false [.ptr 1 0, .bool true, .sint .u8 (.bi .sel (.fn 9 (.bi .pair (.var 2) (.bi .pair (.var 3) (.bi .pair (.bi .add (.var 4) (.int 1)) (.int 0))))) (.int 0)), .sint .u8 (.bi .sel (.fn 9 (.bi .pair (.var 2) (.bi .pair (.var 3) (.bi .pair (.bi .add (.var 4) (.int 1)) (.int 0))))) (.int 1)), .sint .u8 (.bi .sel (.fn 9 (.bi .pair (.var 2) (.bi .pair (.var 3) (.bi .pair (.bi .add (.var 4) (.int 1)) (.int 0))))) (.int 2)), .sint .u8 (.bi .sel (.fn 9 (.bi .pair (.var 2) (.bi .pair (.var 3) (.bi .pair (.bi .add (.var 4) (.int 1)) (.int 0))))) (.int 3)), .sint .u8 (.bi .sel (.fn 9 (.bi .pair (.var 2) (.bi .pair (.var 3) (.bi .pair (.bi .add (.var 4) (.int 1)) (.int 0))))) (.int 4)), .sint .u8 (.bi .sel (.fn 9 (.bi .pair (.var 2) (.bi .pair (.var 3) (.bi .pair (.bi .add (.var 4) (.int 1)) (.int 0))))) (.int 5)), .sint .u8 (.bi .sel (.fn 9 (.bi .pair (.var 2) (.bi .pair (.var 3) (.bi .pair (.bi .add (.var 4) (.int 1)) (.int 0))))) (.int 6)), .sint .u8 (.bi .sel (.fn 9 (.bi .pair (.var 2) (.bi .pair (.var 3) (.bi .pair (.bi .add (.var 4) (.int 1)) (.int 0))))) (.int 7)), .sint .u8 (.bi .sel (.fn 9 (.bi .pair (.var 2) (.bi .pair (.var 3) (.bi .pair (.bi .add (.var 4) (.int 1)) (.int 0))))) (.int 8)), .sint .u8 (.bi .sel (.fn 9 (.bi .pair (.var 2) (.bi .pair (.var 3) (.bi .pair (.bi .add (.var 4) (.int 1)) (.int 0))))) (.int 9)), .sint .u8 (.bi .sel (.fn 9 (.bi .pair (.var 2) (.bi .pair (.var 3) (.bi .pair (.bi .add (.var 4) (.int 1)) (.int 0))))) (.int 10)), .sint .u8 (.bi .sel (.fn 9 (.bi .pair (.var 2) (.bi .pair (.var 3) (.bi .pair (.bi .add (.var 4) (.int 1)) (.int 0))))) (.int 11)), .sint .u8 (.bi .sel (.fn 9 (.bi .pair (.var 2) (.bi .pair (.var 3) (.bi .pair (.bi .add (.var 4) (.int 1)) (.int 0))))) (.int 12)), .sint .u8 (.bi .sel (.fn 9 (.bi .pair (.var 2) (.bi .pair (.var 3) (.bi .pair (.bi .add (.var 4) (.int 1)) (.int 0))))) (.int 13)), .sint .u8 (.bi .sel (.fn 9 (.bi .pair (.var 2) (.bi .pair (.var 3) (.bi .pair (.bi .add (.var 4) (.int 1)) (.int 0))))) (.int 14)), .sint .u8 (.bi .sel (.fn 9 (.bi .pair (.var 2) (.bi .pair (.var 3) (.bi .pair (.bi .add (.var 4) (.int 1)) (.int 0))))) (.int 15)), .sint .i64 (.var 4), .sint .u32 (.fn 11 (.bi .pair (.var 2) (.bi .pair (.var 3) (.bi .pair (.bi .add (.var 4) (.int 1)) (.int 0))))), .nilslice, .bool false]), (5, .loop [(2, .ptr 15 0), (3, .ptr 1 0)] 21 (rangeAt Try.prog 32 [4, 1, 0, 1, 1])), (15, .cells 31 0 false false [.yieldf 7]), (7, .loop [(3, .ptr 9 0)] 14 (rangeAt Try.prog 19 [4, 1, 0, 1, 1])), (9, .cells 32 0 false false [.sslice 11 (.int 0) (.un .len (.fn 20 (.bi .pair (.var 2) (.bi .pair (.var 3) (.bi .pair (.var 4) (.bi .pair (.var 0) (.bi .pair (.int 0) (.int 0)))))))) (.un .len (.fn 20 (.bi .pair (.var 2) (.bi .pair (.var 3) (.bi .pair (.var 4) (.bi .pair (.var 0) (.bi .pair (.int 0) (.int 0)))))))) true]), (11, .seq ⟨3, .i64, .un .len (.fn 20 (.bi .pair (.var 2) (.bi .pair (.var 3) (.bi .pair (.var 4) (.bi .pair (.var 0) (.bi .pair (.int 0) (.int 0))))))), .fn 20 (.bi .pair (.var 2) (.bi .pair (.var 3) (.bi .pair (.var 4) (.bi .pair (.var 0) (.bi .pair (.int 0) (.int 0)))))), true, false⟩)], same := [1, 5, 7, 9, 13, 15], chg := [0, 2, 5, 6, 7, 8, 9, 10, 11, 12, 13, 14, 15, 16, 17, 18, 19, 20, 21, 22, 23, 24, 25, 26, 27, 28, 29, 30, 31, 32, 33, 34, 35, 36, 37, 38, 39, 40] }
noncomputable def eB01 : LSpec := { n := 41, next := 9, pat := [(0, .yieldf 5), (2, .ptr 13 0), (6, .sslice 17 (.var 3) (.var 4) (.var 5) false), (7, .sint .i64 (.var 4)), (8, .sint .i64 (.var 0))], rows := [(13, .cells 33 0 false false [.ptr 1 0]), (1, .cells 62 0 false false [.ptr 1 0, .bool true, .sint .u8 (.bi .sel (.var 7) (.int 0)), .sint .u8 (.bi .sel (.var 7) (.int 1)), .sint .u8 (.bi .sel (.var 7) (.int 2)), .sint .u8 (.bi .sel (.var 7) (.int 3)), .sint .u8 (.bi .sel (.var 7) (.int 4)), .sint .u8 (.bi .sel (.var 7) (.int 5)), .sint .u8 (.bi .sel (.var 7) (.int 6)), .sint .u8 (.bi .sel (.var 7) (.int 7)), .sint .u8 (.bi .sel (.var 7) (.int 8)), .sint .u8 (.bi .sel (.var 7) (.int 9)), .sint .u8 (.bi .sel (.var 7) (.int 10)), .sint .u8 (.bi .sel (.var 7) (.int 11)), .sint .u8 (.bi .sel (.var 7) (.int 12)), .sint .u8 (.bi .sel (.var 7) (.int 13)), .sint .u8 (.bi .sel (.var 7) (.int 14)), .sint .u8 (.bi .sel (.var 7) (.int 15)), .sint .i64 (.var 8), .sint .u32 (.var 9), .nilslice, .bool false]), (5, .loop [(2, .ptr 15 0), (3, .ptr 1 0)] 21 (rangeAt Try.prog 32 [4, 1, 0, 1, 1])), (15, .cells 31 0 false false [.yieldf 7]), (7, .loop [(3, .ptr 9 0)] 14 (rangeAt Try.prog 19 [4, 1, 0, 1, 1])), (9, .cells 32 0 false false [.sslice 11 (.int 0) (.var 11) (.var 11) true]), (17, .eseq ⟨.u8, .var 6, .var 2⟩), (11, .seq ⟨3, .i64, .var 11, .var 12, true, false⟩)], pre := [(.le (.int 0) (.var 0), true), (.le (.var 0) (.var 4), true), (.le (.int 0) (.var 3), true), (.le (.bi .add (.var 3) (.var 4)) (.var 6), true), (.le (.var 4) (.var 5), true), (.le (.var 4) (.int 20000), true), (.same (.var 7) (.fn 9 (.bi .pair (.var 2) (.bi .pair (.var 3) (.bi .pair (.bi .add (.var 0) (.int 1)) (.int 0))))), true), (.eq (.var 8) (.var 0), true), (.eq (.var 9) (.fn 11 (.bi .pair (.var 2) (.bi .pair (.var 3) (.bi .pair (.bi .add (.var 0) (.int 1)) (.int 0))))), true), (.le (.int 1) (.var 11), true), (.le (.var 11) (.var 0), true), (.le (.int 1) (.fn 21 (.bi .pair (.var 2) (.bi .pair (.var 3) (.bi .pair (.var 4) (.bi .pair (.var 0) (.bi .pair (.int 0) (.int 0))))))), false)], x := 0, fin := [], frows := [(13, .cells 33 0 false false [.ptr 1 0]), (1, .cells 62 0 false false [.ptr 1 0, .bool true, .sint .u8 (.bi .sel (.fn 9 (.bi .pair (.var 2) (.bi .pair (.var 3) (.bi .pair (.bi .add (.var 4) (.int 1)) (.int 0))))) (.int 0)), .sint .u8 (.bi .sel (.fn 9 (.bi .pair (.var 2) (.bi .pair (.var 3) (.bi .pair (.bi .add (.var 4) (.int 1)) (.int 0))))) (.int 1)), .sint .u8 (.bi .sel (.fn 9 (.bi .pair (.var 2) (.bi .pair (.var 3) (.bi .pair (.bi .add (.var 4) (.int 1)) (.int 0))))) (.int 2)), .sint .u8 (.bi .sel (.fn 9 (.bi .pair (.var 2) (.bi .pair (.var 3) (.bi .pair (.bi .add (.var 4) (.int 1)) (.int 0))))) (.int 3)), .sint .u8 (.bi .sel (.fn 9 (.bi .pair (.var 2) (.bi .pair (.var 3) (.bi .pair (.bi .add (.var 4) (.int 1)) (.int 0))))) (.int 4)), .sint .u8 (.bi .sel (.fn 9 (.bi .pair (.var 2) (.bi .pair (.var 3) (.bi .pair (.bi .add (.var 4) (.int 1)) (.int 0))))) (.int 5)), .sint .u8 (.bi .sel (.fn 9 (.bi .pair (.var 2) (.bi .pair (.var 3) (.bi .pair (.bi .add (.var 4) (.int 1)) (.int 0))))) (.int 6)), .sint .u8 (.bi .sel (.fn 9 (.bi .pair (.var 2) (.bi .pair (.var 3) (.bi .pair (.bi .add (.var 4) (.int 1)) (.int 0))))) (.int 7)), .sint .u8 (.bi .sel (.fn 9 (.bi .pair (.var 2) (.bi .pair (.var 3) (.bi .pair (.bi .add (.var 4) (.int 1)) (.int 0))))) (.int 8)), .sint .u8 (.bi .sel (.fn 9 (.bi .pair (.var 2) (.bi .pair (.var 3) (.bi .pair (.bi .add (.var 4) (.int 1)) (.int 0))))) (.int 9)), .sint .u8 (.bi .sel (.fn 9 (.bi .pair (.var 2) (.bi .pair (.var 3) (.bi .pair (.bi .add (.var 4) (.int 1)) (.int 0))))) (.int 10)), .sint .u8 (.bi .sel (.fn 9 (.bi .pair (.var 2) (.bi .pair (.var 3) (.bi .pair (.bi .add (.var 4) (.int 1)) (.int 0))))) (.int 11)), .sint .u8 (.bi .sel (.fn 9 (.bi .pair (.var 2) (.bi .pair (.var 3) (.bi .pair (.bi .add (.var 4) (.int 1)) (.int 0))))) (.int 12)), .sint .u8 (.bi .sel (.fn 9 (.bi .pair (.var 2) (.bi .pair (.var 3) (.bi .pair (.bi .add (.var 4) (.int 1)) (.int 0))))) (.int 13)), .sint .u8 (.bi .sel (.fn 9 (.bi .pair (.var 2) (.bi .pair (.var 3) (.bi .pair (.bi .add (.var 4) (.int 1)) (.int 0))))) (.int 14)), .sint .u8 (.bi .sel (.fn 9 (.bi .pair (.var 2) (.bi .pair (.var 3) (.bi .pair (.bi .add (.var 4) (.int 1)) (.int 0))))) (.int 15)), .sint .i64 (.var 4), .sint .u32 (.fn 11 (.bi .pair (.var 2) (.bi .pair (.var 3) (.bi .pair (.bi .add (.var 4) (.int 1)) (.int 0))))), .nilslice, .bool false]), (5, .loop [(2, .ptr 15 0), (3, .ptr 1 0)] 21 (rangeAt Try.prog 32 [4, 1, 0, 1, 1])), (15, .cells 31 0 false false [.yieldf 7]), (7, .loop [(3, .ptr 9 0)] 14 (rangeAt Try.prog 19 [4, 1, 0, 1, 1])), (9, .cells 32 0 false false [.sslice 11 (.int 0) (.bi .add (.var 11) (.un .len (.fn 20 (.bi .pair (.var 2) (.bi .pair (.var 3) (.bi .pair (.var 4) (.bi .pair (.var 0) (.bi .pair (.int 0) (.int 0))))))))) (.bi .add (.var 11) (.un .len (.fn 20 (.bi .pair (.var 2) (.bi .pair (.var 3) (.bi .pair (.var 4) (.bi .pair (.var 0) (.bi .pair (.int 0) (.int 0))))))))) true]), (11, .seq ⟨3, .i64, .bi .add (.var 11) (.un .len (.fn 20 (.bi .pair (.var 2) (.bi .pair (.var 3) (.bi .pair (.var 4) (.bi .pair (.var 0) (.bi .pair (.int 0) (.int 0)))))))), .bi .app (.var 12) (.fn 20 (.bi .pair (.var 2) (.bi .pair (.var 3) (.bi .pair (.var 4) (.bi .pair (.var 0) (.bi .pair (.int 0) (.int 0))))))), true, false⟩)], same := [1, 5, 7, 9, 13, 15], chg := [0, 2, 5, 6, 7, 8, 9, 10, 11, 12, 13, 14, 15, 16, 17, 18, 19, 20, 21, 22, 23, 24, 25, 26, 27, 28, 29, 30, 31, 32, 33, 34, 35, 36, 37, 38, 39, 40] }
noncomputable def eB10 : LSpec := { n := 41, next := 9, pat := [(0, .yieldf 5), (2, .ptr 13 0), (6, .sslice 17 (.var 3) (.var 4) (.var 5) false), (7, .sint .i64 (.var 4)), (8, .sint .i64 (.var 0))], rows := [(13, .cells 33 0 false false [.ptr 1 0]), (1, .cells 62 0 false false [.ptr 1 0, .bool true, .sint .u8 (.bi .sel (.var 7) (.int 0)), .sint .u8 (.bi .sel (.var 7) (.int 1)), .sint .u8 (.bi .sel (.var 7) (.int 2)), .sint .u8 (.bi .sel (.var 7) (.int 3)), .sint .u8 (.bi .sel (.var 7) (.int 4)), .sint .u8 (.bi .sel (.var 7) (.int 5)), .sint .u8 (.bi .sel (.var 7) (.int 6)), .sint .u8 (.bi .sel (.var 7) (.int 7)), .sint .u8 (.bi .sel (.var 7) (.int 8)), .sint .u8 (.bi .sel (.var 7) (.int 9)), .sint .u8 (.bi .sel (.var 7) (.int 10)), .sint .u8 (.bi .sel (.var 7) (.int 11)), .sint .u8 (.bi .sel (.var 7) (.int 12)), .sint .u8 (.bi .sel (.var 7) (.int 13)), .sint .u8 (.bi .sel (.var 7) (.int 14)), .sint .u8 (.bi .sel (.var 7) (.int 15)), .sint .i64 (.var 8), .sint .u32 (.var 9), .sslice 3 (.int 0) (.var 1) (.var 1) true, .bool false]), (5, .loop [(2, .ptr 15 0), (3, .ptr 1 0)] 21 (rangeAt Try.prog 32 [4, 1, 0, 1, 1])), (15, .cells 31 0 false false [.yieldf 7]), (7, .loop [(3, .ptr 9 0)] 14 (rangeAt Try.prog 19 [4, 1, 0, 1, 1])), (9, .cells 32 0 false false [.nilslice]), (17, .eseq ⟨.u8, .var 6, .var 2⟩), (3, .seq ⟨5, .u8, .var 1, .var 10, true, false⟩)], pre := [(.le (.int 0) (.var 0), true), (.le (.var 0) (.var 4), true), (.le (.int 0) (.var 3), true), (.le (.bi .add (.var 3) (.var 4)) (.var 6), true), (.le (.var 4) (.var 5), true), (.le (.var 4) (.int 20000), true), (.same (.var 7) (.fn 9 (.bi .pair (.var 2) (.bi .pair (.var 3) (.bi .pair (.bi .add (.var 0) (.int 1)) (.int 0))))), true), (.eq (.var 8) (.var 0), true), (.eq (.var 9) (.fn 11 (.bi .pair (.var 2) (.bi .pair (.var 3) (.bi .pair (.bi .add (.var 0) (.int 1)) (.int 0))))), true), (.le (.int 1) (.var 1), true), (.le (.var 1) (.int 1023), true), (.le (.var 1) (.var 0), true), (.le (.int 1) (.fn 21 (.bi .pair (.var 2) (.bi .pair (.var 3) (.bi .pair (.var 4) (.bi .pair (.var 0) (.bi .pair (.var 1) (.int 0))))))), false), (.le (.int 1) (.un .len (.fn 20 (.bi .pair (.var 2) (.bi .pair (.var 3) (.bi .pair (.var 4) (.bi .pair (.var 0) (.bi .pair (.var 1) (.int 0)))))))), true)], x := 0, fin := [], frows := [(13, .cells 33 0 false false [.ptr 1 0]), (1, .cells 62 0 false false [.ptr 1 0, .bool true, .sint .u8 (.bi .sel (.fn 9 (.bi .pair (.var 2) (.bi .pair (.var 3) (.bi .pair (.bi .add (.var 4) (.int 1)) (.int 0))))) (.int 0)), .sint .u8 (.bi .sel (.fn 9 (.bi .pair (.var 2) (.bi .pair (.var 3) (.bi .pair (.bi .add (.var 4) (.int 1)) (.int 0))))) (.int 1)), .sint .u8 (.bi .sel (.fn 9 (.bi .pair (.var 2) (.bi .pair (.var 3) (.bi .pair (.bi .add (.var 4) (.int 1)) (.int 0))))) (.int 2)), .sint .u8 (.bi .sel (.fn 9 (.bi .pair (.var 2) (.bi .pair (.var 3) (.bi .pair (.bi .add (.var 4) (.int 1)) (.int 0))))) (.int 3)), .sint .u8 (.bi .sel (.fn 9 (.bi .pair (.var 2) (.bi .pair (.var 3) (.bi .pair (.bi .add (.var 4) (.int 1)) (.int 0))))) (.int 4)), .sint .u8 (.bi .sel (.fn 9 (.bi .pair (.var 2) (.bi .pair (.var 3) (.bi .pair (.bi .add (.var 4) (.int 1)) (.int 0))))) (.int 5)), .sint .u8 (.bi .sel (.fn 9 (.bi .pair (.var 2) (.bi .pair (.var 3) (.bi .pair (.bi .add (.var 4) (.int 1)) (.int 0))))) (.int 6)), .sint .u8 (.bi .sel (.fn 9 (.bi .pair (.var 2) (.bi .pair (.var 3) (.bi .pair (.bi .add (.var 4) (.int 1)) (.int 0))))) (.int 7)), .sint .u8 (.bi .sel (.fn 9 (.bi .pair (.var 2) (.bi .pair (.var 3) (.bi .pair (.bi .add (.var 4) (.int 1)) (.int 0))))) (.int 8)), .sint .u8 (.bi .sel (.fn 9 (.bi .pair (.var 2) (.bi .pair (.var 3) (.bi .pair (.bi .add (.var 4) (.int 1)) (.int 0))))) (.int 9)), .sint .u8 (.bi .sel (.fn 9 (.bi .pair (.var 2) (.bi .pair (.var 3) (.bi .pair (.bi .add (.var 4) (.int 1)) (.int 0))))) (.int 10)), .sint .u8 (.bi .sel (.fn 9 (.bi .pair (.var 2) (.bi .pair (.var 3) (.bi .pair (.bi .add (.var 4) (.int 1)) (.int 0))))) (.int 11)), .sint .u8 (.bi .sel (.fn 9 (.bi .pair (.var 2) (.bi .pair (.var 3) (.bi .pair (.bi .add (.var 4) (.int 1)) (.int 0))))) (.int 12)), .sint .u8 (.bi .sel (.fn 9 (.bi .pair (.var 2) (.bi .pair (.var 3) (.bi .pair (.bi .add (.var 4) (.int 1)) (.int 0))))) (.int 13)), .sint .u8 (.bi .sel (.fn 9 (.bi .pair (.var 2) (.bi .pair (.var 3) (.bi .pair (.bi .add (.var 4) (.int 1)) (.int 0))))) (.int 14)), .sint .u8 (.bi .sel (.fn 9 (.bi .pair (.var 2) (.bi .pair (.var 3) (.bi .pair (.bi .add (.var 4) (.int 1)) (.int 0))))) (.int 15)), .sint .i64 (.var 4), .sint .u32 (.fn 11 (.bi .pair (.var 2) (.bi .pair (.var 3) (.bi .pair (.bi .add (.var 4) (.int 1)) (.int 0))))), .nilslice, .bool false]), (5, .loop [(2, .ptr 15 0), (3, .ptr 1 0)] 21 (rangeAt Try.prog 32 [4, 1, 0, 1, 1])), (15, .cells 31 0 false false [.yieldf 7]), (7, .loop [(3, .ptr 9 0)] 14 (rangeAt Try.prog 19 [4, 1, 0, 1, 1])), (9, .cells 32 0 false false [.sslice 11 (.int 0) (.un .len (.fn 20 (.bi .pair (.var 2) (.bi .pair (.var 3) (.bi .pair (.var 4) (.bi .pair (.var 0) (.bi .pair (.var 1) (.int 0)))))))) (.un .len (.fn 20 (.bi .pair (.var 2) (.bi .pair (.var 3) (.bi .pair (.var 4) (.bi .pair (.var 0) (.bi .pair (.var 1) (.int 0)))))))) true]), (11, .seq ⟨3, .i64, .un .len (.fn 20 (.bi .pair (.var 2) (.bi .pair (.var 3) (.bi .pair (.var 4) (.bi .pair (.var 0) (.bi .pair (.var 1) (.int 0))))))), .fn 20 (.bi .pair (.var 2) (.bi .pair (.var 3) (.bi .pair (.var 4) (.bi .pair (.var 0) (.bi .pair (.var 1) (.int 0)))))), true, false⟩)], same := [1, 5, 7, 9, 13, 15], chg := [0, 2, 5, 6, 7, 8, 9, 10, 11, 12, 13, 14, 15, 16, 17, 18, 19, 20, 21, 22, 23, 24, 25, 26, 27, 28, 29, 30, 31, 32, 33, 34, 35, 36, 37, 38, 39, 40] }
noncomputable def eB11 : LSpec := { n := 41, next := 9, pat := [(0, .yieldf 5), (2, .ptr 13 0), (6, .sslice 17 (.var 3) (.var 4) (.var 5) false), (7, .sint .i64 (.var 4)), (8, .sint .i64 (.var 0))], rows := [(13, .cells 33 0 false false [.ptr 1 0]), (1, .cells 62 0 false false [.ptr 1 0, .bool true, .sint .u8 (.bi .sel (.var 7) (.int 0)), .sint .u8 (.bi .sel (.var 7) (.int 1)), .sint .u8 (.bi .sel (.var 7) (.int 2)), .sint .u8 (.bi .sel (.var 7) (.int 3)), .sint .u8 (.bi .sel (.var 7) (.int 4)), .sint .u8 (.bi .sel (.var 7) (.int 5)), .sint .u8 (.bi .sel (.var 7) (.int 6)), .sint .u8 (.bi .sel (.var 7) (.int 7)), .sint .u8 (.bi .sel (.var 7) (.int 8)), .sint .u8 (.bi .sel (.var 7) (.int 9)), .sint .u8 (.bi .sel (.var 7) (.int 10)), .sint .u8 (.bi .sel (.var 7) (.int 11)), .sint .u8 (.bi .sel (.var 7) (.int 12)), .sint .u8 (.bi .sel (.var 7) (.int 13)), .sint .u8 (.bi .sel (.var 7) (.int 14)), .sint .u8 (.bi .sel (.var 7) (.int 15)), .sint .i64 (.var 8), .sint .u32 (.var 9), .sslice 3 (.int 0) (.var 1) (.var 1) true, .bool false]), (5, .loop [(2, .ptr 15 0), (3, .ptr 1 0)] 21 (rangeAt Try.prog 32 [4, 1, 0, 1, 1])), (15, .cells 31 0 false false [.yieldf 7]), (7, .loop [(3, .ptr 9 0)] 14 (rangeAt Try.prog 19 [4, 1, 0, 1, 1])), (9, .cells 32 0 false false [.sslice 11 (.int 0) (.var 11) (.var 11) true]), (17, .eseq ⟨.u8, .var 6, .var 2⟩), (3, .seq ⟨5, .u8, .var 1, .var 10, true, false⟩), (11, .seq ⟨3, .i64, .var 11, .var 12, true, false⟩)], pre := [(.le (.int 0) (.var 0), true), (.le (.var 0) (.var 4), true), (.le (.int 0) (.var 3), true), (.le (.bi .add (.var 3) (.var 4)) (.var 6), true), (.le (.var 4) (.var 5), true), (.le (.var 4) (.int 20000), true), (.same (.var 7) (.fn 9 (.bi .pair (.var 2) (.bi .pair (.var 3) (.bi .pair (.bi .add (.var 0) (.int 1)) (.int 0))))), true), (.eq (.var 8) (.var 0), true), (.eq (.var 9) (.fn 11 (.bi .pair (.var 2) (.bi .pair (.var 3) (.bi .pair (.bi .add (.var 0) (.int 1)) (.int 0))))), true), (.le (.int 1) (.var 1), true), (.le (.var 1) (.int 1023), true), (.le (.var 1) (.var 0), true), (.le (.int 1) (.var 11), true), (.le (.var 11) (.var 0), true), (.le (.int 1) (.fn 21 (.bi .pair (.var 2) (.bi .pair (.var 3) (.bi .pair (.var 4) (.bi .pair (.var 0) (.bi .pair (.var 1) (.int 0))))))), false)], x := 0, fin := [], frows := [(13, .cells 33 0 false false [.ptr 1 0]), (1, .cells 62 0 false false [.ptr 1 0, .bool true, .sint .u8 (.bi .sel (.fn 9 (.bi .pair (.var 2) (.bi .pair (.var 3) (.bi .pair (.bi .add (.var 4) (.int 1)) (.int 0))))) (.int 0)), .sint .u8 (.bi .sel (.fn 9 (.bi .pair (.var 2) (.bi .pair (.var 3) (.bi .pair (.bi .add (.var 4) (.int 1)) (.int 0))))) (.int 1)), .sint .u8 (.bi .sel (.fn 9 (.bi .pair (.var 2) (.bi .pair (.var 3) (.bi .pair (.bi .add (.var 4) (.int 1)) (.int 0))))) (.int 2)), .sint .u8 (.bi .sel (.fn 9 (.bi .pair (.var 2) (.bi .pair (.var 3) (.bi .pair (.bi .add (.var 4) (.int 1)) (.int 0))))) (.int 3)), .sint .u8 (.bi .sel (.fn 9 (.bi .pair (.var 2) (.bi .pair (.var 3) (.bi .pair (.bi .add (.var 4) (.int 1)) (.int 0))))) (.int 4)), .sint .u8 (.bi .sel (.fn 9 (.bi .pair (.var 2) (.bi .pair (.var 3) (.bi .pair (.bi .add (.var 4) (.int 1)) (.int 0))))) (.int 5)), .sint .u8 (.bi .sel (.fn 9 (.bi .pair (.var 2) (.bi .pair (.var 3) (.bi .pair (.bi .add (.var 4) (.int 1)) (.int 0))))) (.int 6)), .sint .u8 (.bi .sel (.fn 9 (.bi .pair (.var 2) (.bi .pair (.var 3) (.bi .pair (.bi .add (.var 4) (.int 1)) (.int 0))))) (.int 7)), .sint .u8 (.bi .sel (.fn 9 (.bi .pair (.var 2) (.bi .pair (.var 3) (.bi .pair (.bi .add (.var 4) (.int 1)) (.int 0))))) (.int 8)), .sint .u8 (.bi .sel (.fn 9 (.bi .pair (.var 2) (.bi .pair (.var 3) (.bi .pair (.bi .add (.var 4) (.int 1)) (.int 0))))) (.int 9)), .sint .u8 (.bi .sel (.fn 9 (.bi .pair (.var 2) (.bi .pair (.var 3) (.bi .pair (.bi .add (.var 4) (.int 1)) (.int 0))))) (.int 10)), .sint .u8 (.bi .sel (.fn 9 (.bi .pair (.var 2) (.bi .pair (.var 3) (.bi .pair (.bi .add (.var 4) (.int 1)) (.int 0))))) (.int 11)), .sint .u8 (.bi .sel (.fn 9 (.bi .pair (.var 2) (.bi .pair (.var 3) (.bi .pair (.bi .add (.var 4) (.int 1)) (.int 0))))) (.int 12)), .sint .u8 (.bi .sel (.fn 9 (.bi .pair (.var 2) (.bi .pair (.var 3) (.bi .pair (.bi .add (.var 4) (.int 1)) (.int 0))))) (.int 13)), .sint .u8 (.bi .sel (.fn 9 (.bi .pair (.var 2) (.bi .pair (.var 3) (.bi .pair (.bi .add (.var 4) (.int 1)) (.int 0))))) (.int 14)), .sint .u8 (.bi .sel (.fn 9 (.bi .pair (.var 2) (.bi .pair (.var 3) (.bi .pair (.bi .add (.var 4) (.int 1)) (.int 0))))) (.int 15)), .sint .i64 (.var 4), .sint .u32 (.fn 11 (.bi .pair (.var 2) (.bi .pair (.var 3) (.bi .pair (.bi .add (.var 4) (.int 1)) (.int 0))))), .nilslice, .bool false]), (5, .loop [(2, .ptr 15 0), (3, .ptr 1 0)] 21 (rangeAt Try.prog 32 [4, 1, 0, 1, 1])), (15, .cells 31 0 false false [.yieldf 7]), (7, .loop [(3, .ptr 9 0)] 14 (rangeAt Try.prog 19 [4, 1, 0, 1, 1])), (9, .cells 32 0 false false [.sslice 11 (.int 0) (.bi .add (.var 11) (.un .len (.fn 20 (.bi .pair (.var 2) (.bi .pair (.var 3) (.bi .pair (.var 4) (.bi .pair (.var 0) (.bi .pair (.var 1) (.int 0))))))))) (.bi .add (.var 11) (.un .len (.fn 20 (.bi .pair (.var 2) (.bi .pair (.var 3) (.bi .pair (.var 4) (.bi .pair (.var 0) (.bi .pair (.var 1) (.int 0))))))))) true]), (11, .seq ⟨3, .i64, .bi .add (.var 11) (.un .len (.fn 20 (.bi .pair (.var 2) (.bi .pair (.var 3) (.bi .pair (.var 4) (.bi .pair (.var 0) (.bi .pair (.var 1) (.int 0)))))))), .bi .app (.var 12) (.fn 20 (.bi .pair (.var 2) (.bi .pair (.var 3) (.bi .pair (.var 4) (.bi .pair (.var 0) (.bi .pair (.var 1) (.int 0))))))), true, false⟩)], same := [1, 5, 7, 9, 13, 15], chg := [0, 2, 5, 6, 7, 8, 9, 10, 11, 12, 13, 14, 15, 16, 17, 18, 19, 20, 21, 22, 23, 24, 25, 26, 27, 28, 29, 30, 31, 32, 33, 34, 35, 36, 37, 38, 39, 40] }
noncomputable def eB : Nat → LSpec
 | 0 => eB00
 | 1 => eB01
 | 2 => eB10
 | _ => eB11
def eB00_t0 : List (Q × Bool) := [asZa0, asZa1, asZa2, asZa3, asZa4, asZa5, asZa6, asZa7, asZa8, asZa9]
def eB00_d0 : List Duty := [(true, txZa34, txZa26), (true, txZa34, txZa26), (true, txZa34, txZa26), (false, (.fn 20 (.bi .pair (.var 2) txZa21)), (.fn 20 (.bi .pair (.var 2) txZa13)))]
def eB00_h0 : List (Nat × E) := [(10, (.bi .app (.un .one txZa0) (.lits []))), (6, (.var 6)), (2, (.var 2)), (1, (.int 1)), (9, txZa47), (8, (.bi .add (.var 8) (.int 1))), (7, txZa20), (0, (.bi .add (.var 0) (.int 1))), (3, (.var 3)), (4, (.var 4)), (5, (.var 5))]
theorem eB00_h0_0 : lookE eB00_h0 0 = (.bi .add (.var 0) (.int 1)) := rfl
theorem eB00_h0_1 : lookE eB00_h0 1 = (.int 1) := rfl
theorem eB00_h0_2 : lookE eB00_h0 2 = (.var 2) := rfl
theorem eB00_h0_3 : lookE eB00_h0 3 = (.var 3) := rfl
theorem eB00_h0_4 : lookE eB00_h0 4 = (.var 4) := rfl
theorem eB00_h0_5 : lookE eB00_h0 5 = (.var 5) := rfl
theorem eB00_h0_6 : lookE eB00_h0 6 = (.var 6) := rfl
theorem eB00_h0_7 : lookE eB00_h0 7 = txZa20 := rfl
theorem eB00_h0_8 : lookE eB00_h0 8 = (.bi .add (.var 8) (.int 1)) := rfl
theorem eB00_h0_9 : lookE eB00_h0 9 = txZa47 := rfl
theorem eB00_h0_10 : lookE eB00_h0 10 = (.bi .app (.un .one txZa0) (.lits [])) := rfl
theorem eB00_y0 : nextJ (eB 0) (eB 2) eB00_h0 [(9, 9), (7, 7), (15, 15), (3, 21), (1, 1), (17, 17), (13, 13), (5, 5)] (roundC Try.prog [] [] [] 3000 40 34 [4, 1] (tellA eB00_t0) (eB 0)) = some eB00_d0 := by kernel_rfl
def eB00_t1 : List (Q × Bool) := [asZa0, asZa1, asZa2, asZa3, asZa4, asZa5, asZa10, asZa7, asZa8, asZa9]
def eB00_d1 : List Duty := [(true, txZa34, txZa26), (true, txZa34, txZa26), (true, txZa34, txZa26), (false, (.fn 20 (.bi .pair (.var 2) txZa21)), (.fn 20 (.bi .pair (.var 2) txZa13)))]
def eB00_h1 : List (Nat × E) := [(10, (.bi .app (.un .one txZa0) (.lits []))), (6, (.var 6)), (2, (.var 2)), (1, (.int 1)), (9, (.bi (.iop .add .u32) txZa50 txZa33)), (8, (.bi .add (.var 8) (.int 1))), (7, txZa20), (0, (.bi .add (.var 0) (.int 1))), (3, (.var 3)), (4, (.var 4)), (5, (.var 5))]
theorem eB00_h1_0 : lookE eB00_h1 0 = (.bi .add (.var 0) (.int 1)) := rfl
theorem eB00_h1_1 : lookE eB00_h1 1 = (.int 1) := rfl
theorem eB00_h1_2 : lookE eB00_h1 2 = (.var 2) := rfl
theorem eB00_h1_3 : lookE eB00_h1 3 = (.var 3) := rfl
theorem eB00_h1_4 : lookE eB00_h1 4 = (.var 4) := rfl
theorem eB00_h1_5 : lookE eB00_h1 5 = (.var 5) := rfl
theorem eB00_h1_6 : lookE eB00_h1 6 = (.var 6) := rfl
theorem eB00_h1_7 : lookE eB00_h1 7 = txZa20 := rfl
theorem eB00_h1_8 : lookE eB00_h1 8 = (.bi .add (.var 8) (.int 1)) := rfl
theorem eB00_h1_9 : lookE eB00_h1 9 = (.bi (.iop .add .u32) txZa50 txZa33) := rfl
theorem eB00_h1_10 : lookE eB00_h1 10 = (.bi .app (.un .one txZa0) (.lits [])) := rfl
theorem eB00_y1 : nextJ (eB 0) (eB 2) eB00_h1 [(9, 9), (7, 7), (15, 15), (3, 21), (1, 1), (17, 17), (13, 13), (5, 5)] (roundC Try.prog [] [] [] 3000 40 34 [4, 1] (tellA eB00_t1) (eB 0)) = some eB00_d1 := by kernel_rfl
def eB01_t0 : List (Q × Bool) := [asZa0, asZa1, asZa2, asZa3, asZa4, asZa5, asZa6, asZa7, asZa8, asZa9]
def eB01_d0 : List Duty := [(true, (.bi .add (.var 11) txZa34), (.bi .add (.var 11) txZa26)), (true, (.bi .add (.var 11) txZa34), (.bi .add (.var 11) txZa26)), (true, (.bi .add (.var 11) txZa34), (.bi .add (.var 11) txZa26)), (false, txZa36, txZa31)]
def eB01_h0 : List (Nat × E) := [(12, (.var 12)), (10, (.bi .app (.un .one txZa0) (.lits []))), (6, (.var 6)), (2, (.var 2)), (11, (.var 11)), (1, (.int 1)), (9, txZa47), (8, (.bi .add (.var 8) (.int 1))), (7, txZa20), (0, (.bi .add (.var 0) (.int 1))), (3, (.var 3)), (4, (.var 4)), (5, (.var 5))]
theorem eB01_h0_0 : lookE eB01_h0 0 = (.bi .add (.var 0) (.int 1)) := rfl
theorem eB01_h0_1 : lookE eB01_h0 1 = (.int 1) := rfl
theorem eB01_h0_2 : lookE eB01_h0 2 = (.var 2) := rfl
theorem eB01_h0_3 : lookE eB01_h0 3 = (.var 3) := rfl
theorem eB01_h0_4 : lookE eB01_h0 4 = (.var 4) := rfl
theorem eB01_h0_5 : lookE eB01_h0 5 = (.var 5) := rfl
theorem eB01_h0_6 : lookE eB01_h0 6 = (.var 6) := rfl
theorem eB01_h0_7 : lookE eB01_h0 7 = txZa20 := rfl
theorem eB01_h0_8 : lookE eB01_h0 8 = (.bi .add (.var 8) (.int 1)) := rfl
theorem eB01_h0_9 : lookE eB01_h0 9 = txZa47 := rfl
theorem eB01_h0_10 : lookE eB01_h0 10 = (.bi .app (.un .one txZa0) (.lits [])) := rfl
theorem eB01_h0_11 : lookE eB01_h0 11 = (.var 11) := rfl
theorem eB01_h0_12 : lookE eB01_h0 12 = (.var 12) := rfl
theorem eB01_y0 : nextJ (eB 1) (eB 3) eB01_h0 [(11, 11), (9, 9), (7, 7), (15, 15), (3, 21), (1, 1), (17, 17), (13, 13), (5, 5)] (roundC Try.prog [] [] [] 3000 40 34 [4, 1] (tellA eB01_t0) (eB 1)) = some eB01_d0 := by kernel_rfl
def eB01_t1 : List (Q × Bool) := [asZa0, asZa1, asZa2, asZa3, asZa4, asZa5, asZa10, asZa7, asZa8, asZa9]
def eB01_d1 : List Duty := [(true, (.bi .add (.var 11) txZa34), (.bi .add (.var 11) txZa26)), (true, (.bi .add (.var 11) txZa34), (.bi .add (.var 11) txZa26)), (true, (.bi .add (.var 11) txZa34), (.bi .add (.var 11) txZa26)), (false, txZa36, txZa31)]
def eB01_h1 : List (Nat × E) := [(12, (.var 12)), (10, (.bi .app (.un .one txZa0) (.lits []))), (6, (.var 6)), (2, (.var 2)), (11, (.var 11)), (1, (.int 1)), (9, (.bi (.iop .add .u32) txZa50 txZa33)), (8, (.bi .add (.var 8) (.int 1))), (7, txZa20), (0, (.bi .add (.var 0) (.int 1))), (3, (.var 3)), (4, (.var 4)), (5, (.var 5))]
theorem eB01_h1_0 : lookE eB01_h1 0 = (.bi .add (.var 0) (.int 1)) := rfl
theorem eB01_h1_1 : lookE eB01_h1 1 = (.int 1) := rfl
theorem eB01_h1_2 : lookE eB01_h1 2 = (.var 2) := rfl
theorem eB01_h1_3 : lookE eB01_h1 3 = (.var 3) := rfl
theorem eB01_h1_4 : lookE eB01_h1 4 = (.var 4) := rfl
theorem eB01_h1_5 : lookE eB01_h1 5 = (.var 5) := rfl
theorem eB01_h1_6 : lookE eB01_h1 6 = (.var 6) := rfl
theorem eB01_h1_7 : lookE eB01_h1 7 = txZa20 := rfl
theorem eB01_h1_8 : lookE eB01_h1 8 = (.bi .add (.var 8) (.int 1)) := rfl
theorem eB01_h1_9 : lookE eB01_h1 9 = (.bi (.iop .add .u32) txZa50 txZa33) := rfl
theorem eB01_h1_10 : lookE eB01_h1 10 = (.bi .app (.un .one txZa0) (.lits [])) := rfl
theorem eB01_h1_11 : lookE eB01_h1 11 = (.var 11) := rfl
theorem eB01_h1_12 : lookE eB01_h1 12 = (.var 12) := rfl
theorem eB01_y1 : nextJ (eB 1) (eB 3) eB01_h1 [(11, 11), (9, 9), (7, 7), (15, 15), (3, 21), (1, 1), (17, 17), (13, 13), (5, 5)] (roundC Try.prog [] [] [] 3000 40 34 [4, 1] (tellA eB01_t1) (eB 1)) = some eB01_d1 := by kernel_rfl
def eB01_t2 : List (Q × Bool) := [asZa19]
def eB01_d2 : List Duty := [(true, (.bi .sel (.var 7) (.int 0)), (.bi .sel (.fn 9 txZa12) (.int 0))), (true, (.bi .sel (.var 7) (.int 1)), (.bi .sel (.fn 9 txZa12) (.int 1))), (true, (.bi .sel (.var 7) (.int 2)), (.bi .sel (.fn 9 txZa12) (.int 2))), (true, (.bi .sel (.var 7) (.int 3)), (.bi .sel (.fn 9 txZa12) (.int 3))), (true, (.bi .sel (.var 7) (.int 4)), (.bi .sel (.fn 9 txZa12) (.int 4))), (true, (.bi .sel (.var 7) (.int 5)), (.bi .sel (.fn 9 txZa12) (.int 5))), (true, (.bi .sel (.var 7) (.int 6)), (.bi .sel (.fn 9 txZa12) (.int 6))), (true, (.bi .sel (.var 7) (.int 7)), (.bi .sel (.fn 9 txZa12) (.int 7))), (true, (.bi .sel (.var 7) (.int 8)), (.bi .sel (.fn 9 txZa12) (.int 8))), (true, (.bi .sel (.var 7) (.int 9)), (.bi .sel (.fn 9 txZa12) (.int 9))), (true, (.bi .sel (.var 7) (.int 10)), (.bi .sel (.fn 9 txZa12) (.int 10))), (true, (.bi .sel (.var 7) (.int 11)), (.bi .sel (.fn 9 txZa12) (.int 11))), (true, (.bi .sel (.var 7) (.int 12)), (.bi .sel (.fn 9 txZa12) (.int 12))), (true, (.bi .sel (.var 7) (.int 13)), (.bi .sel (.fn 9 txZa12) (.int 13))), (true, (.bi .sel (.var 7) (.int 14)), (.bi .sel (.fn 9 txZa12) (.int 14))), (true, (.bi .sel (.var 7) (.int 15)), (.bi .sel (.fn 9 txZa12) (.int 15))), (true, (.var 8), (.var 4)), (true, (.var 9), (.fn 11 txZa12)), (true, (.var 11), (.bi .add (.var 11) txZa26)), (true, (.var 11), (.bi .add (.var 11) txZa26)), (true, (.var 11), (.bi .add (.var 11) txZa26)), (false, (.var 12), txZa31)]
theorem eB01_y2 : endD (eB 1) [(11, 11), (1, 1), (5, 5), (7, 7), (9, 9), (13, 13), (15, 15)] 1000 (roundC Try.prog [] [] [] 3000 40 34 [4, 1] (tellA eB01_t2) (eB 1)) = some eB01_d2 := by kernel_rfl
def eB10_t0 : List (Q × Bool) := [asZa0, asZa1, asZa2, asZa3, asZa11, asZa12, asZa13, asZa4, asZa5, asZa6, asZa7, asZa8, asZa14, asZa15, asZa16, asZa9]
def eB10_d0 : List Duty := [(true, txZa40, txZa27), (true, txZa40, txZa27), (true, txZa40, txZa27), (false, (.fn 20 (.bi .pair (.var 2) txZa25)), (.fn 20 (.bi .pair (.var 2) txZa14)))]
def eB10_h0 : List (Nat × E) := [(10, txZa19), (6, (.var 6)), (2, (.var 2)), (1, (.bi .add (.var 1) (.int 1))), (9, txZa47), (8, (.bi .add (.var 8) (.int 1))), (7, txZa20), (0, (.bi .add (.var 0) (.int 1))), (3, (.var 3)), (4, (.var 4)), (5, (.var 5))]
theorem eB10_h0_0 : lookE eB10_h0 0 = (.bi .add (.var 0) (.int 1)) := rfl
theorem eB10_h0_1 : lookE eB10_h0 1 = (.bi .add (.var 1) (.int 1)) := rfl
theorem eB10_h0_2 : lookE eB10_h0 2 = (.var 2) := rfl
theorem eB10_h0_3 : lookE eB10_h0 3 = (.var 3) := rfl
theorem eB10_h0_4 : lookE eB10_h0 4 = (.var 4) := rfl
theorem eB10_h0_5 : lookE eB10_h0 5 = (.var 5) := rfl
theorem eB10_h0_6 : lookE eB10_h0 6 = (.var 6) := rfl
theorem eB10_h0_7 : lookE eB10_h0 7 = txZa20 := rfl
theorem eB10_h0_8 : lookE eB10_h0 8 = (.bi .add (.var 8) (.int 1)) := rfl
theorem eB10_h0_9 : lookE eB10_h0 9 = txZa47 := rfl
theorem eB10_h0_10 : lookE eB10_h0 10 = txZa19 := rfl
theorem eB10_y0 : nextJ (eB 2) (eB 2) eB10_h0 [(9, 9), (7, 7), (15, 15), (3, 21), (1, 1), (17, 17), (13, 13), (5, 5)] (roundC Try.prog [] [] [] 3000 40 34 [4, 1] (tellA eB10_t0) (eB 2)) = some eB10_d0 := by kernel_rfl
def eB10_t1 : List (Q × Bool) := [asZa0, asZa1, asZa2, asZa3, asZa11, asZa12, asZa13, asZa4, asZa5, asZa10, asZa7, asZa8, asZa14, asZa15, asZa16, asZa9]
def eB10_d1 : List Duty := [(true, txZa40, txZa27), (true, txZa40, txZa27), (true, txZa40, txZa27), (false, (.fn 20 (.bi .pair (.var 2) txZa25)), (.fn 20 (.bi .pair (.var 2) txZa14)))]
def eB10_h1 : List (Nat × E) := [(10, txZa19), (6, (.var 6)), (2, (.var 2)), (1, (.bi .add (.var 1) (.int 1))), (9, (.bi (.iop .add .u32) txZa50 txZa33)), (8, (.bi .add (.var 8) (.int 1))), (7, txZa20), (0, (.bi .add (.var 0) (.int 1))), (3, (.var 3)), (4, (.var 4)), (5, (.var 5))]
theorem eB10_h1_0 : lookE eB10_h1 0 = (.bi .add (.var 0) (.int 1)) := rfl
theorem eB10_h1_1 : lookE eB10_h1 1 = (.bi .add (.var 1) (.int 1)) := rfl
theorem eB10_h1_2 : lookE eB10_h1 2 = (.var 2) := rfl
theorem eB10_h1_3 : lookE eB10_h1 3 = (.var 3) := rfl
theorem eB10_h1_4 : lookE eB10_h1 4 = (.var 4) := rfl
theorem eB10_h1_5 : lookE eB10_h1 5 = (.var 5) := rfl
theorem eB10_h1_6 : lookE eB10_h1 6 = (.var 6) := rfl
theorem eB10_h1_7 : lookE eB10_h1 7 = txZa20 := rfl
theorem eB10_h1_8 : lookE eB10_h1 8 = (.bi .add (.var 8) (.int 1)) := rfl
theorem eB10_h1_9 : lookE eB10_h1 9 = (.bi (.iop .add .u32) txZa50 txZa33) := rfl
theorem eB10_h1_10 : lookE eB10_h1 10 = txZa19 := rfl
theorem eB10_y1 : nextJ (eB 2) (eB 2) eB10_h1 [(9, 9), (7, 7), (15, 15), (3, 21), (1, 1), (17, 17), (13, 13), (5, 5)] (roundC Try.prog [] [] [] 3000 40 34 [4, 1] (tellA eB10_t1) (eB 2)) = some eB10_d1 := by kernel_rfl
def eB10_t2 : List (Q × Bool) := [asZa0, asZa1, asZa2, asZa3, asZa11, asZa12, asZa13, asZa4, asZa5, asZa10, asZa7, asZa8, asZa14, asZa15, asZa17, asZa18, asZa9]
def eB10_d2 : List Duty := [(true, txZa40, txZa27), (true, txZa40, txZa27), (true, txZa40, txZa27), (false, (.fn 20 (.bi .pair (.var 2) txZa25)), (.fn 20 (.bi .pair (.var 2) txZa14)))]
def eB10_h2 : List (Nat × E) := [(10, txZa19), (6, (.var 6)), (2, (.var 2)), (1, (.bi .add (.var 1) (.int 1))), (9, (.bi (.iop .add .u32) txZa50 txZa33)), (8, (.bi .add (.var 8) (.int 1))), (7, txZa20), (0, (.bi .add (.var 0) (.int 1))), (3, (.var 3)), (4, (.var 4)), (5, (.var 5))]
theorem eB10_h2_0 : lookE eB10_h2 0 = (.bi .add (.var 0) (.int 1)) := rfl
theorem eB10_h2_1 : lookE eB10_h2 1 = (.bi .add (.var 1) (.int 1)) := rfl
theorem eB10_h2_2 : lookE eB10_h2 2 = (.var 2) := rfl
theorem eB10_h2_3 : lookE eB10_h2 3 = (.var 3) := rfl
theorem eB10_h2_4 : lookE eB10_h2 4 = (.var 4) := rfl
theorem eB10_h2_5 : lookE eB10_h2 5 = (.var 5) := rfl
theorem eB10_h2_6 : lookE eB10_h2 6 = (.var 6) := rfl
theorem eB10_h2_7 : lookE eB10_h2 7 = txZa20 := rfl
theorem eB10_h2_8 : lookE eB10_h2 8 = (.bi .add (.var 8) (.int 1)) := rfl
theorem eB10_h2_9 : lookE eB10_h2 9 = (.bi (.iop .add .u32) txZa50 txZa33) := rfl
theorem eB10_h2_10 : lookE eB10_h2 10 = txZa19 := rfl
theorem eB10_y2 : nextJ (eB 2) (eB 2) eB10_h2 [(9, 9), (7, 7), (15, 15), (3, 21), (1, 1), (17, 17), (13, 13), (5, 5)] (roundC Try.prog [] [] [] 3000 40 34 [4, 1] (tellA eB10_t2) (eB 2)) = some eB10_d2 := by kernel_rfl
abbrev asZa20 : Q × Bool := ((.le (.int 16777216) (.bi (.iop .add .u32) txZa50 txZa33)), false)
def eB10_t3 : List (Q × Bool) := [asZa0, asZa1, asZa2, asZa3, asZa11, asZa12, asZa13, asZa4, asZa5, asZa10, asZa7, asZa8, asZa14, asZa15, asZa17, asZa20, asZa9]
def eB10_d3 : List Duty := [(true, (.bi .add (.int 1) txZa35), txZa27), (true, (.bi .add (.int 1) txZa35), txZa27), (true, (.bi .add (.int 1) txZa35), txZa27), (false, txZa46, (.fn 20 (.bi .pair (.var 2) txZa14)))]
def eB10_h3 : List (Nat × E) := [(12, txZa8), (6, (.var 6)), (2, (.var 2)), (11, (.int 1)), (9, (.bi (.iop .add .u32) txZa50 txZa33)), (8, (.bi .add (.var 8) (.int 1))), (7, txZa20), (0, (.bi .add (.var 0) (.int 1))), (3, (.var 3)), (4, (.var 4)), (5, (.var 5))]
theorem eB10_h3_0 : lookE eB10_h3 0 = (.bi .add (.var 0) (.int 1)) := rfl
theorem eB10_h3_2 : lookE eB10_h3 2 = (.var 2) := rfl
theorem eB10_h3_3 : lookE eB10_h3 3 = (.var 3) := rfl
theorem eB10_h3_4 : lookE eB10_h3 4 = (.var 4) := rfl
theorem eB10_h3_5 : lookE eB10_h3 5 = (.var 5) := rfl
theorem eB10_h3_6 : lookE eB10_h3 6 = (.var 6) := rfl
theorem eB10_h3_7 : lookE eB10_h3 7 = txZa20 := rfl
theorem eB10_h3_8 : lookE eB10_h3 8 = (.bi .add (.var 8) (.int 1)) := rfl
theorem eB10_h3_9 : lookE eB10_h3 9 = (.bi (.iop .add .u32) txZa50 txZa33) := rfl
theorem eB10_h3_11 : lookE eB10_h3 11 = (.int 1) := rfl
theorem eB10_h3_12 : lookE eB10_h3 12 = txZa8 := rfl
theorem eB10_y3 : nextJ (eB 2) (eB 1) eB10_h3 [(11, 25), (9, 9), (7, 7), (15, 15), (1, 1), (17, 17), (13, 13), (5, 5)] (roundC Try.prog [] [] [] 3000 40 34 [4, 1] (tellA eB10_t3) (eB 2)) = some eB10_d3 := by kernel_rfl
abbrev asZa21 : Q × Bool := ((.eq (.bi .add (.var 1) (.int 1)) (.int 1024)), true)
def eB10_t4 : List (Q × Bool) := [asZa0, asZa1, asZa2, asZa3, asZa11, asZa12, asZa13, asZa4, asZa5, asZa10, asZa7, asZa8, asZa14, asZa21, asZa9]
def eB10_d4 : List Duty := [(true, (.bi .add (.int 1) txZa35), txZa27), (true, (.bi .add (.int 1) txZa35), txZa27), (true, (.bi .add (.int 1) txZa35), txZa27), (false, txZa46, (.fn 20 (.bi .pair (.var 2) txZa14)))]
def eB10_h4 : List (Nat × E) := [(12, txZa8), (6, (.var 6)), (2, (.var 2)), (11, (.int 1)), (9, (.bi (.iop .add .u32) txZa50 txZa33)), (8, (.bi .add (.var 8) (.int 1))), (7, txZa20), (0, (.bi .add (.var 0) (.int 1))), (3, (.var 3)), (4, (.var 4)), (5, (.var 5))]
theorem eB10_h4_0 : lookE eB10_h4 0 = (.bi .add (.var 0) (.int 1)) := rfl
theorem eB10_h4_2 : lookE eB10_h4 2 = (.var 2) := rfl
theorem eB10_h4_3 : lookE eB10_h4 3 = (.var 3) := rfl
theorem eB10_h4_4 : lookE eB10_h4 4 = (.var 4) := rfl
theorem eB10_h4_5 : lookE eB10_h4 5 = (.var 5) := rfl
theorem eB10_h4_6 : lookE eB10_h4 6 = (.var 6) := rfl
theorem eB10_h4_7 : lookE eB10_h4 7 = txZa20 := rfl
theorem eB10_h4_8 : lookE eB10_h4 8 = (.bi .add (.var 8) (.int 1)) := rfl
theorem eB10_h4_9 : lookE eB10_h4 9 = (.bi (.iop .add .u32) txZa50 txZa33) := rfl
theorem eB10_h4_11 : lookE eB10_h4 11 = (.int 1) := rfl
theorem eB10_h4_12 : lookE eB10_h4 12 = txZa8 := rfl
theorem eB10_y4 : nextJ (eB 2) (eB 1) eB10_h4 [(11, 25), (9, 9), (7, 7), (15, 15), (1, 1), (17, 17), (13, 13), (5, 5)] (roundC Try.prog [] [] [] 3000 40 34 [4, 1] (tellA eB10_t4) (eB 2)) = some eB10_d4 := by kernel_rfl
def eB11_t0 : List (Q × Bool) := [asZa0, asZa1, asZa2, asZa3, asZa11, asZa12, asZa13, asZa4, asZa5, asZa6, asZa7, asZa8, asZa14, asZa15, asZa16, asZa9]
def eB11_d0 : List Duty := [(true, (.bi .add (.var 11) txZa40), (.bi .add (.var 11) txZa27)), (true, (.bi .add (.var 11) txZa40), (.bi .add (.var 11) txZa27)), (true, (.bi .add (.var 11) txZa40), (.bi .add (.var 11) txZa27)), (false, txZa41, txZa32)]
def eB11_h0 : List (Nat × E) := [(12, (.var 12)), (10, txZa19), (6, (.var 6)), (2, (.var 2)), (11, (.var 11)), (1, (.bi .add (.var 1) (.int 1))), (9, txZa47), (8, (.bi .add (.var 8) (.int 1))), (7, txZa20), (0, (.bi .add (.var 0) (.int 1))), (3, (.var 3)), (4, (.var 4)), (5, (.var 5))]
theorem eB11_h0_0 : lookE eB11_h0 0 = (.bi .add (.var 0) (.int 1)) := rfl
theorem eB11_h0_1 : lookE eB11_h0 1 = (.bi .add (.var 1) (.int 1)) := rfl
theorem eB11_h0_2 : lookE eB11_h0 2 = (.var 2) := rfl
theorem eB11_h0_3 : lookE eB11_h0 3 = (.var 3) := rfl
theorem eB11_h0_4 : lookE eB11_h0 4 = (.var 4) := rfl
theorem eB11_h0_5 : lookE eB11_h0 5 = (.var 5) := rfl
theorem eB11_h0_6 : lookE eB11_h0 6 = (.var 6) := rfl
theorem eB11_h0_7 : lookE eB11_h0 7 = txZa20 := rfl
theorem eB11_h0_8 : lookE eB11_h0 8 = (.bi .add (.var 8) (.int 1)) := rfl
theorem eB11_h0_9 : lookE eB11_h0 9 = txZa47 := rfl
theorem eB11_h0_10 : lookE eB11_h0 10 = txZa19 := rfl
theorem eB11_h0_11 : lookE eB11_h0 11 = (.var 11) := rfl
theorem eB11_h0_12 : lookE eB11_h0 12 = (.var 12) := rfl
theorem eB11_y0 : nextJ (eB 3) (eB 3) eB11_h0 [(11, 11), (9, 9), (7, 7), (15, 15), (3, 21), (1, 1), (17, 17), (13, 13), (5, 5)] (roundC Try.prog [] [] [] 3000 40 34 [4, 1] (tellA eB11_t0) (eB 3)) = some eB11_d0 := by kernel_rfl
def eB11_t1 : List (Q × Bool) := [asZa0, asZa1, asZa2, asZa3, asZa11, asZa12, asZa13, asZa4, asZa5, asZa10, asZa7, asZa8, asZa14, asZa15, asZa16, asZa9]
def eB11_d1 : List Duty := [(true, (.bi .add (.var 11) txZa40), (.bi .add (.var 11) txZa27)), (true, (.bi .add (.var 11) txZa40), (.bi .add (.var 11) txZa27)), (true, (.bi .add (.var 11) txZa40), (.bi .add (.var 11) txZa27)), (false, txZa41, txZa32)]
def eB11_h1 : List (Nat × E) := [(12, (.var 12)), (10, txZa19), (6, (.var 6)), (2, (.var 2)), (11, (.var 11)), (1, (.bi .add (.var 1) (.int 1))), (9, (.bi (.iop .add .u32) txZa50 txZa33)), (8, (.bi .add (.var 8) (.int 1))), (7, txZa20), (0, (.bi .add (.var 0) (.int 1))), (3, (.var 3)), (4, (.var 4)), (5, (.var 5))]
theorem eB11_h1_0 : lookE eB11_h1 0 = (.bi .add (.var 0) (.int 1)) := rfl
theorem eB11_h1_1 : lookE eB11_h1 1 = (.bi .add (.var 1) (.int 1)) := rfl
theorem eB11_h1_2 : lookE eB11_h1 2 = (.var 2) := rfl
theorem eB11_h1_3 : lookE eB11_h1 3 = (.var 3) := rfl
theorem eB11_h1_4 : lookE eB11_h1 4 = (.var 4) := rfl
theorem eB11_h1_5 : lookE eB11_h1 5 = (.var 5) := rfl
theorem eB11_h1_6 : lookE eB11_h1 6 = (.var 6) := rfl
theorem eB11_h1_7 : lookE eB11_h1 7 = txZa20 := rfl
theorem eB11_h1_8 : lookE eB11_h1 8 = (.bi .add (.var 8) (.int 1)) := rfl
theorem eB11_h1_9 : lookE eB11_h1 9 = (.bi (.iop .add .u32) txZa50 txZa33) := rfl
theorem eB11_h1_10 : lookE eB11_h1 10 = txZa19 := rfl
theorem eB11_h1_11 : lookE eB11_h1 11 = (.var 11) := rfl
theorem eB11_h1_12 : lookE eB11_h1 12 = (.var 12) := rfl
theorem eB11_y1 : nextJ (eB 3) (eB 3) eB11_h1 [(11, 11), (9, 9), (7, 7), (15, 15), (3, 21), (1, 1), (17, 17), (13, 13), (5, 5)] (roundC Try.prog [] [] [] 3000 40 34 [4, 1] (tellA eB11_t1) (eB 3)) = some eB11_d1 := by kernel_rfl
def eB11_t2 : List (Q × Bool) := [asZa0, asZa1, asZa2, asZa3, asZa11, asZa12, asZa13, asZa4, asZa5, asZa10, asZa7, asZa8, asZa14, asZa15, asZa17, asZa18, asZa9]
def eB11_d2 : List Duty := [(true, (.bi .add (.var 11) txZa40), (.bi .add (.var 11) txZa27)), (true, (.bi .add (.var 11) txZa40), (.bi .add (.var 11) txZa27)), (true, (.bi .add (.var 11) txZa40), (.bi .add (.var 11) txZa27)), (false, txZa41, txZa32)]
def eB11_h2 : List (Nat × E) := [(12, (.var 12)), (10, txZa19), (6, (.var 6)), (2, (.var 2)), (11, (.var 11)), (1, (.bi .add (.var 1) (.int 1))), (9, (.bi (.iop .add .u32) txZa50 txZa33)), (8, (.bi .add (.var 8) (.int 1))), (7, txZa20), (0, (.bi .add (.var 0) (.int 1))), (3, (.var 3)), (4, (.var 4)), (5, (.var 5))]
theorem eB11_h2_0 : lookE eB11_h2 0 = (.bi .add (.var 0) (.int 1)) := rfl
theorem eB11_h2_1 : lookE eB11_h2 1 = (.bi .add (.var 1) (.int 1)) := rfl
theorem eB11_h2_2 : lookE eB11_h2 2 = (.var 2) := rfl
theorem eB11_h2_3 : lookE eB11_h2 3 = (.var 3) := rfl
theorem eB11_h2_4 : lookE eB11_h2 4 = (.var 4) := rfl
theorem eB11_h2_5 : lookE eB11_h2 5 = (.var 5) := rfl
theorem eB11_h2_6 : lookE eB11_h2 6 = (.var 6) := rfl
theorem eB11_h2_7 : lookE eB11_h2 7 = txZa20 := rfl
theorem eB11_h2_8 : lookE eB11_h2 8 = (.bi .add (.var 8) (.int 1)) := rfl
theorem eB11_h2_9 : lookE eB11_h2 9 = (.bi (.iop .add .u32) txZa50 txZa33) := rfl
theorem eB11_h2_10 : lookE eB11_h2 10 = txZa19 := rfl
theorem eB11_h2_11 : lookE eB11_h2 11 = (.var 11) := rfl
theorem eB11_h2_12 : lookE eB11_h2 12 = (.var 12) := rfl
theorem eB11_y2 : nextJ (eB 3) (eB 3) eB11_h2 [(11, 11), (9, 9), (7, 7), (15, 15), (3, 21), (1, 1), (17, 17), (13, 13), (5, 5)] (roundC Try.prog [] [] [] 3000 40 34 [4, 1] (tellA eB11_t2) (eB 3)) = some eB11_d2 := by kernel_rfl
abbrev asZa22 : Q × Bool := ((.le (.bi .mul (.bi .add (.var 11) (.int 1)) (.int 16)) (.int 281474976710656)), true)
def eB11_t3 : List (Q × Bool) := [asZa0, asZa1, asZa2, asZa3, asZa11, asZa12, asZa13, asZa4, asZa5, asZa10, asZa7, asZa8, asZa14, asZa15, asZa17, asZa20, asZa22, asZa9]
def eB11_d3 : List Duty := [(true, txZa42, (.bi .add (.var 11) txZa27)), (true, txZa42, (.bi .add (.var 11) txZa27)), (true, txZa42, (.bi .add (.var 11) txZa27)), (false, txZa48, txZa32)]
def eB11_h3 : List (Nat × E) := [(12, (.bi .app (.var 12) txZa8)), (6, (.var 6)), (2, (.var 2)), (11, (.bi .add (.var 11) (.int 1))), (9, (.bi (.iop .add .u32) txZa50 txZa33)), (8, (.bi .add (.var 8) (.int 1))), (7, txZa20), (0, (.bi .add (.var 0) (.int 1))), (3, (.var 3)), (4, (.var 4)), (5, (.var 5))]
theorem eB11_h3_0 : lookE eB11_h3 0 = (.bi .add (.var 0) (.int 1)) := rfl
theorem eB11_h3_2 : lookE eB11_h3 2 = (.var 2) := rfl
theorem eB11_h3_3 : lookE eB11_h3 3 = (.var 3) := rfl
theorem eB11_h3_4 : lookE eB11_h3 4 = (.var 4) := rfl
theorem eB11_h3_5 : lookE eB11_h3 5 = (.var 5) := rfl
theorem eB11_h3_6 : lookE eB11_h3 6 = (.var 6) := rfl
theorem eB11_h3_7 : lookE eB11_h3 7 = txZa20 := rfl
theorem eB11_h3_8 : lookE eB11_h3 8 = (.bi .add (.var 8) (.int 1)) := rfl
theorem eB11_h3_9 : lookE eB11_h3 9 = (.bi (.iop .add .u32) txZa50 txZa33) := rfl
theorem eB11_h3_11 : lookE eB11_h3 11 = (.bi .add (.var 11) (.int 1)) := rfl
theorem eB11_h3_12 : lookE eB11_h3 12 = (.bi .app (.var 12) txZa8) := rfl
theorem eB11_y3 : nextJ (eB 3) (eB 1) eB11_h3 [(11, 25), (9, 9), (7, 7), (15, 15), (1, 1), (17, 17), (13, 13), (5, 5)] (roundC Try.prog [] [] [] 3000 40 34 [4, 1] (tellA eB11_t3) (eB 3)) = some eB11_d3 := by kernel_rfl
def eB11_t4 : List (Q × Bool) := [asZa0, asZa1, asZa2, asZa3, asZa11, asZa12, asZa13, asZa4, asZa5, asZa10, asZa7, asZa8, asZa14, asZa21, asZa22, asZa9]
def eB11_d4 : List Duty := [(true, txZa42, (.bi .add (.var 11) txZa27)), (true, txZa42, (.bi .add (.var 11) txZa27)), (true, txZa42, (.bi .add (.var 11) txZa27)), (false, txZa48, txZa32)]
def eB11_h4 : List (Nat × E) := [(12, (.bi .app (.var 12) txZa8)), (6, (.var 6)), (2, (.var 2)), (11, (.bi .add (.var 11) (.int 1))), (9, (.bi (.iop .add .u32) txZa50 txZa33)), (8, (.bi .add (.var 8) (.int 1))), (7, txZa20), (0, (.bi .add (.var 0) (.int 1))), (3, (.var 3)), (4, (.var 4)), (5, (.var 5))]
theorem eB11_h4_0 : lookE eB11_h4 0 = (.bi .add (.var 0) (.int 1)) := rfl
theorem eB11_h4_2 : lookE eB11_h4 2 = (.var 2) := rfl
theorem eB11_h4_3 : lookE eB11_h4 3 = (.var 3) := rfl
theorem eB11_h4_4 : lookE eB11_h4 4 = (.var 4) := rfl
theorem eB11_h4_5 : lookE eB11_h4 5 = (.var 5) := rfl
theorem eB11_h4_6 : lookE eB11_h4 6 = (.var 6) := rfl
theorem eB11_h4_7 : lookE eB11_h4 7 = txZa20 := rfl
theorem eB11_h4_8 : lookE eB11_h4 8 = (.bi .add (.var 8) (.int 1)) := rfl
theorem eB11_h4_9 : lookE eB11_h4 9 = (.bi (.iop .add .u32) txZa50 txZa33) := rfl
theorem eB11_h4_11 : lookE eB11_h4 11 = (.bi .add (.var 11) (.int 1)) := rfl
theorem eB11_h4_12 : lookE eB11_h4 12 = (.bi .app (.var 12) txZa8) := rfl
theorem eB11_y4 : nextJ (eB 3) (eB 1) eB11_h4 [(11, 25), (9, 9), (7, 7), (15, 15), (1, 1), (17, 17), (13, 13), (5, 5)] (roundC Try.prog [] [] [] 3000 40 34 [4, 1] (tellA eB11_t4) (eB 3)) = some eB11_d4 := by kernel_rfl
set_option maxHeartbeats 16000000 in
theorem eB_holds : ∀ i, i < 4 → LHolds Try.prog (loopAt Try.prog 34 [4, 1]) (eB i) F := by
 refine loop_famC sound (tableNil _ _) (specsNil _ _) (oversNil _ _) (fuel := 3000) (depth := 40) (by kernel_rfl) (fun i d => match i with | 0 => ((d 4).toInt - (d 0).toInt).toNat | 1 => ((d 4).toInt - (d 0).toInt).toNat | 2 => ((d 4).toInt - (d 0).toInt).toNat | _ => ((d 4).toInt - (d 0).toInt).toNat) ?_
 intro i hi d hp hR hA
 match i, hi with
 | 0, _ =>
   have hp := allTold'_iff.2 hp
   simp only [eB, eB00, allTold', dutiesTold, factsA, factsC, factsP, factsR, AV.facts, RW.facts, inK, and_true, Q.holds', E.i, E.s, E.n, D.nat, E.den, BO.den, UO.den, TO.den, D.toInt_int, D.toList_list, D.ints_ofInts, i64min, i64max, u8min, u8max, u16min, u16max, u32min, u32max, u64min, u64max, i32min, i32max, Om.sub, selI, ints_app, ints_cut, ints_upd, ints_rep, ints_splice, ints_seg, len_ints] at hp hR hA
   simp only [F9, F11, F20, F21, D.toInt_int, D.ints_ofInts, UO.den] at hp
   obtain ⟨p1, p2, p3, p4, p5, p6, p7, p8, p9, pf, pz⟩ := hp
   by_cases h : (d 4).toInt ≤ (d 0).toInt
   ·exfalso
    have ce := cuts_end (x := (d 2).ints) (o := (d 3).toInt) (n := 0) h
    simp only [ce, List.length_nil] at pf pz
    all_goals omega
   ·have es : ((d 0).toInt + 1 - 1).toNat = (d 0).toInt.toNat := by omega
    have et : ((((d 0).toInt + 1 - 1).toNat : Nat) : Int) = (d 0).toInt := by omega
    rw [es] at p7
    rw [et] at p9
    have er : iopI .rem .i64 (d 8).toInt 16 = (d 0).toInt % 16 := by rw [p8, rem_emod _ (by omega)]
    obtain ⟨el, hw, hr⟩ := push_all (x := (d 2).ints) (o := (d 3).toInt) (i := (d 0).toInt) (by omega) (by omega) (by omega) p7 p9
    have hy : prt (d 2).ints ((d 3).toInt + (d 0).toInt) ((d 3).toInt + (d 4).toInt) = (d 2).ints[((d 3).toInt + (d 0).toInt).toNat]?.getD 0 :: prt (d 2).ints ((d 3).toInt + ((d 0).toInt + 1)) ((d 3).toInt + (d 4).toInt) := by
     rw [prt_step (o := (d 3).toInt + (d 0).toInt) (by omega) (by omega) (by omega), Int.add_assoc]
    have hz := prt_length (x := (d 2).ints) (o := (d 3).toInt + ((d 0).toInt + 1)) (t := (d 3).toInt + (d 4).toInt) (by omega) (by omega) (by omega)
    have e6 : ((d 0).toInt + 1 + 1 - 1).toNat = ((d 0).toInt + 1).toNat := by omega
    have e7 : ((((d 0).toInt + 1 + 1 - 1).toNat : Nat) : Int) = (d 0).toInt + 1 := by omega
    have e8 : (((d 0).toInt + 1).toNat : Int) = (d 0).toInt + 1 := by omega
    by_cases f : 16 ≤ (d 0).toInt
    ·unfold pushI at hw
     rw [if_pos f] at hw
     simp only [rollI, wI] at hw
     have cn := cuts_no (x := (d 2).ints) (o := (d 3).toInt) (t := (d 4).toInt) (i := (d 0).toInt) (n := 0) (by omega) (by omega)
     rw [show (0 : Int) + 1 = 1 from rfl] at cn
     rw [cn] at pf pz
     have ci := cuts_in (x := (d 2).ints) (o := (d 3).toInt) (t := (d 4).toInt) (i := (d 0).toInt + 1) (n := 0) (by omega) (by omega)
     refine ⟨tellA eB00_t1, tellA_ok (allTold'_iff.1 ?_), .inr ⟨2, eB00_h1, _, _, by decide, eB00_y1, dutiesTold_ok ?_, allTold'_iff.1 ?_, ?_⟩⟩
     ·simp only [eB00_t1, er, hw, allTold', dutiesTold, factsA, factsC, factsP, factsR, AV.facts, RW.facts, inK, and_true, Q.holds', E.i, E.s, E.n, D.nat, E.den, BO.den, UO.den, TO.den, D.toInt_int, D.toList_list, D.ints_ofInts, i64min, i64max, u8min, u8max, u16min, u16max, u32min, u32max, u64min, u64max, i32min, i32max, Om.sub, selI, ints_app, ints_cut, ints_upd, ints_rep, ints_splice, ints_seg, len_ints]
      omega
     ·simp only [eB00_d1, F20, F21, F22, cn, hw, allTold', dutiesTold, factsA, factsC, factsP, factsR, AV.facts, RW.facts, inK, and_true, Q.holds', E.i, E.s, E.n, D.nat, E.den, BO.den, UO.den, TO.den, D.toInt_int, D.toList_list, D.ints_ofInts, i64min, i64max, u8min, u8max, u16min, u16max, u32min, u32max, u64min, u64max, i32min, i32max, Om.sub, selI, ints_app, ints_cut, ints_upd, ints_rep, ints_splice, ints_seg, len_ints]
      (try simp only [hy, ints_list, List.map_cons, List.map_append, List.map_nil, map_ints, getT, ofInts0, D.toList_list, D.toInt_int, D.ints_ofInts, List.cons_append, List.append_assoc, List.nil_append, List.length_cons]); first | done | (and_intros <;> first | exact True.intro | rfl | omega | exact last_cut3 (by omega) | assumption)
     ·simp only [eB, eB00, eB01, eB10, eB11, eB00_h1_0, eB00_h1_1, eB00_h1_2, eB00_h1_3, eB00_h1_4, eB00_h1_5, eB00_h1_6, eB00_h1_7, eB00_h1_8, eB00_h1_9, eB00_h1_10, F9, F11, F20, F21, er, hw, e6, e8, cn, allTold', dutiesTold, factsA, factsC, factsP, factsR, AV.facts, RW.facts, inK, and_true, Q.holds', E.i, E.s, E.n, D.nat, E.den, BO.den, UO.den, TO.den, D.toInt_int, D.toList_list, D.ints_ofInts, i64min, i64max, u8min, u8max, u16min, u16max, u32min, u32max, u64min, u64max, i32min, i32max, Om.sub, selI, ints_app, ints_cut, ints_upd, ints_rep, ints_splice, ints_seg, len_ints]
      first | done | (and_intros <;> first | exact True.intro | rfl | omega | exact hr.symm | assumption)
     ·simp only [eB00_h1_0, eB00_h1_1, eB00_h1_2, eB00_h1_3, eB00_h1_4, eB00_h1_5, eB00_h1_6, eB00_h1_7, eB00_h1_8, eB00_h1_9, eB00_h1_10, allTold', dutiesTold, factsA, factsC, factsP, factsR, AV.facts, RW.facts, inK, and_true, Q.holds', E.i, E.s, E.n, D.nat, E.den, BO.den, UO.den, TO.den, D.toInt_int, D.toList_list, D.ints_ofInts, i64min, i64max, u8min, u8max, u16min, u16max, u32min, u32max, u64min, u64max, i32min, i32max, Om.sub, selI, ints_app, ints_cut, ints_upd, ints_rep, ints_splice, ints_seg, len_ints]
      omega
    ·unfold pushI at hw
     rw [if_neg f] at hw
     simp only [stepI, wI] at hw
     have cn := cuts_no (x := (d 2).ints) (o := (d 3).toInt) (t := (d 4).toInt) (i := (d 0).toInt) (n := 0) (by omega) (by omega)
     rw [show (0 : Int) + 1 = 1 from rfl] at cn
     rw [cn] at pf pz
     have ci := cuts_in (x := (d 2).ints) (o := (d 3).toInt) (t := (d 4).toInt) (i := (d 0).toInt + 1) (n := 0) (by omega) (by omega)
     refine ⟨tellA eB00_t0, tellA_ok (allTold'_iff.1 ?_), .inr ⟨2, eB00_h0, _, _, by decide, eB00_y0, dutiesTold_ok ?_, allTold'_iff.1 ?_, ?_⟩⟩
     ·simp only [eB00_t0, er, hw, allTold', dutiesTold, factsA, factsC, factsP, factsR, AV.facts, RW.facts, inK, and_true, Q.holds', E.i, E.s, E.n, D.nat, E.den, BO.den, UO.den, TO.den, D.toInt_int, D.toList_list, D.ints_ofInts, i64min, i64max, u8min, u8max, u16min, u16max, u32min, u32max, u64min, u64max, i32min, i32max, Om.sub, selI, ints_app, ints_cut, ints_upd, ints_rep, ints_splice, ints_seg, len_ints]
      omega
     ·simp only [eB00_d0, F20, F21, F22, cn, hw, allTold', dutiesTold, factsA, factsC, factsP, factsR, AV.facts, RW.facts, inK, and_true, Q.holds', E.i, E.s, E.n, D.nat, E.den, BO.den, UO.den, TO.den, D.toInt_int, D.toList_list, D.ints_ofInts, i64min, i64max, u8min, u8max, u16min, u16max, u32min, u32max, u64min, u64max, i32min, i32max, Om.sub, selI, ints_app, ints_cut, ints_upd, ints_rep, ints_splice, ints_seg, len_ints]
      (try simp only [hy, ints_list, List.map_cons, List.map_append, List.map_nil, map_ints, getT, ofInts0, D.toList_list, D.toInt_int, D.ints_ofInts, List.cons_append, List.append_assoc, List.nil_append, List.length_cons]); first | done | (and_intros <;> first | exact True.intro | rfl | omega | exact last_cut3 (by omega) | assumption)
     ·simp only [eB, eB00, eB01, eB10, eB11, eB00_h0_0, eB00_h0_1, eB00_h0_2, eB00_h0_3, eB00_h0_4, eB00_h0_5, eB00_h0_6, eB00_h0_7, eB00_h0_8, eB00_h0_9, eB00_h0_10, F9, F11, F20, F21, er, hw, e6, e8, cn, allTold', dutiesTold, factsA, factsC, factsP, factsR, AV.facts, RW.facts, inK, and_true, Q.holds', E.i, E.s, E.n, D.nat, E.den, BO.den, UO.den, TO.den, D.toInt_int, D.toList_list, D.ints_ofInts, i64min, i64max, u8min, u8max, u16min, u16max, u32min, u32max, u64min, u64max, i32min, i32max, Om.sub, selI, ints_app, ints_cut, ints_upd, ints_rep, ints_splice, ints_seg, len_ints]
      first | done | (and_intros <;> first | exact True.intro | rfl | omega | exact hr.symm | assumption)
     ·simp only [eB00_h0_0, eB00_h0_1, eB00_h0_2, eB00_h0_3, eB00_h0_4, eB00_h0_5, eB00_h0_6, eB00_h0_7, eB00_h0_8, eB00_h0_9, eB00_h0_10, allTold', dutiesTold, factsA, factsC, factsP, factsR, AV.facts, RW.facts, inK, and_true, Q.holds', E.i, E.s, E.n, D.nat, E.den, BO.den, UO.den, TO.den, D.toInt_int, D.toList_list, D.ints_ofInts, i64min, i64max, u8min, u8max, u16min, u16max, u32min, u32max, u64min, u64max, i32min, i32max, Om.sub, selI, ints_app, ints_cut, ints_upd, ints_rep, ints_splice, ints_seg, len_ints]
      omega
 | 1, _ =>
   have hp := allTold'_iff.2 hp
   simp only [eB, eB01, allTold', dutiesTold, factsA, factsC, factsP, factsR, AV.facts, RW.facts, inK, and_true, Q.holds', E.i, E.s, E.n, D.nat, E.den, BO.den, UO.den, TO.den, D.toInt_int, D.toList_list, D.ints_ofInts, i64min, i64max, u8min, u8max, u16min, u16max, u32min, u32max, u64min, u64max, i32min, i32max, Om.sub, selI, ints_app, ints_cut, ints_upd, ints_rep, ints_splice, ints_seg, len_ints] at hp hR hA
   simp only [F9, F11, F20, F21, D.toInt_int, D.ints_ofInts, UO.den] at hp
   obtain ⟨p1, p2, p3, p4, p5, p6, p7, p8, p9, p10, p11, pf⟩ := hp
   by_cases h : (d 4).toInt ≤ (d 0).toInt
   ·have ce := cuts_end (x := (d 2).ints) (o := (d 3).toInt) (n := 0) h
    have i4 : (d 0).toInt = (d 4).toInt := by omega
    rw [← i4] at ce
    refine ⟨tellA eB01_t2, tellA_ok (allTold'_iff.1 ?_), .inl ⟨_, _, _, eB01_y2, dutiesTold_ok ?_⟩⟩
    ·simp only [eB01_t2, allTold', dutiesTold, factsA, factsC, factsP, factsR, AV.facts, RW.facts, inK, and_true, Q.holds', E.i, E.s, E.n, D.nat, E.den, BO.den, UO.den, TO.den, D.toInt_int, D.toList_list, D.ints_ofInts, i64min, i64max, u8min, u8max, u16min, u16max, u32min, u32max, u64min, u64max, i32min, i32max, Om.sub, selI, ints_app, ints_cut, ints_upd, ints_rep, ints_splice, ints_seg, len_ints]
     omega
    ·simp only [eB01_d2, F9, F11, F20, F21, F22, allTold', dutiesTold, factsA, factsC, factsP, factsR, AV.facts, RW.facts, inK, and_true, Q.holds', E.i, E.s, E.n, D.nat, E.den, BO.den, UO.den, TO.den, D.toInt_int, D.toList_list, D.ints_ofInts, i64min, i64max, u8min, u8max, u16min, u16max, u32min, u32max, u64min, u64max, i32min, i32max, Om.sub, selI, ints_app, ints_cut, ints_upd, ints_rep, ints_splice, ints_seg, len_ints]
     (try simp only [← i4, ce, p7, Int.natCast_zero, Int.add_zero, prt_nil (x := (d 2).ints) (o := (d 3).toInt + (d 0).toInt) (t := (d 3).toInt + (d 0).toInt) (by omega) (by omega), List.append_nil, List.length_nil, D.ints_ofInts]); first | done | (and_intros <;> first | exact True.intro | rfl | omega | exact (last_all (by omega)).symm | assumption)
   ·have es : ((d 0).toInt + 1 - 1).toNat = (d 0).toInt.toNat := by omega
    have et : ((((d 0).toInt + 1 - 1).toNat : Nat) : Int) = (d 0).toInt := by omega
    rw [es] at p7
    rw [et] at p9
    have er : iopI .rem .i64 (d 8).toInt 16 = (d 0).toInt % 16 := by rw [p8, rem_emod _ (by omega)]
    obtain ⟨el, hw, hr⟩ := push_all (x := (d 2).ints) (o := (d 3).toInt) (i := (d 0).toInt) (by omega) (by omega) (by omega) p7 p9
    have hy : prt (d 2).ints ((d 3).toInt + (d 0).toInt) ((d 3).toInt + (d 4).toInt) = (d 2).ints[((d 3).toInt + (d 0).toInt).toNat]?.getD 0 :: prt (d 2).ints ((d 3).toInt + ((d 0).toInt + 1)) ((d 3).toInt + (d 4).toInt) := by
     rw [prt_step (o := (d 3).toInt + (d 0).toInt) (by omega) (by omega) (by omega), Int.add_assoc]
    have hz := prt_length (x := (d 2).ints) (o := (d 3).toInt + ((d 0).toInt + 1)) (t := (d 3).toInt + (d 4).toInt) (by omega) (by omega) (by omega)
    have e6 : ((d 0).toInt + 1 + 1 - 1).toNat = ((d 0).toInt + 1).toNat := by omega
    have e7 : ((((d 0).toInt + 1 + 1 - 1).toNat : Nat) : Int) = (d 0).toInt + 1 := by omega
    have e8 : (((d 0).toInt + 1).toNat : Int) = (d 0).toInt + 1 := by omega
    by_cases f : 16 ≤ (d 0).toInt
    ·unfold pushI at hw
     rw [if_pos f] at hw
     simp only [rollI, wI] at hw
     have cn := cuts_no (x := (d 2).ints) (o := (d 3).toInt) (t := (d 4).toInt) (i := (d 0).toInt) (n := 0) (by omega) (by omega)
     rw [show (0 : Int) + 1 = 1 from rfl] at cn
     rw [cn] at pf
     have ci := cuts_in (x := (d 2).ints) (o := (d 3).toInt) (t := (d 4).toInt) (i := (d 0).toInt + 1) (n := 0) (by omega) (by omega)
     refine ⟨tellA eB01_t1, tellA_ok (allTold'_iff.1 ?_), .inr ⟨3, eB01_h1, _, _, by decide, eB01_y1, dutiesTold_ok ?_, allTold'_iff.1 ?_, ?_⟩⟩
     ·simp only [eB01_t1, er, hw, allTold', dutiesTold, factsA, factsC, factsP, factsR, AV.facts, RW.facts, inK, and_true, Q.holds', E.i, E.s, E.n, D.nat, E.den, BO.den, UO.den, TO.den, D.toInt_int, D.toList_list, D.ints_ofInts, i64min, i64max, u8min, u8max, u16min, u16max, u32min, u32max, u64min, u64max, i32min, i32max, Om.sub, selI, ints_app, ints_cut, ints_upd, ints_rep, ints_splice, ints_seg, len_ints]
      omega
     ·simp only [eB01_d1, F20, F21, F22, cn, hw, allTold', dutiesTold, factsA, factsC, factsP, factsR, AV.facts, RW.facts, inK, and_true, Q.holds', E.i, E.s, E.n, D.nat, E.den, BO.den, UO.den, TO.den, D.toInt_int, D.toList_list, D.ints_ofInts, i64min, i64max, u8min, u8max, u16min, u16max, u32min, u32max, u64min, u64max, i32min, i32max, Om.sub, selI, ints_app, ints_cut, ints_upd, ints_rep, ints_splice, ints_seg, len_ints]
      (try simp only [hy, ints_list, List.map_cons, List.map_append, List.map_nil, map_ints, getT, ofInts0, D.toList_list, D.toInt_int, D.ints_ofInts, List.cons_append, List.append_assoc, List.nil_append, List.length_cons]); first | done | (and_intros <;> first | exact True.intro | rfl | omega | exact last_cut3 (by omega) | assumption)
     ·simp only [eB, eB00, eB01, eB10, eB11, eB01_h1_0, eB01_h1_1, eB01_h1_2, eB01_h1_3, eB01_h1_4, eB01_h1_5, eB01_h1_6, eB01_h1_7, eB01_h1_8, eB01_h1_9, eB01_h1_10, eB01_h1_11, eB01_h1_12, F9, F11, F20, F21, er, hw, e6, e8, cn, allTold', dutiesTold, factsA, factsC, factsP, factsR, AV.facts, RW.facts, inK, and_true, Q.holds', E.i, E.s, E.n, D.nat, E.den, BO.den, UO.den, TO.den, D.toInt_int, D.toList_list, D.ints_ofInts, i64min, i64max, u8min, u8max, u16min, u16max, u32min, u32max, u64min, u64max, i32min, i32max, Om.sub, selI, ints_app, ints_cut, ints_upd, ints_rep, ints_splice, ints_seg, len_ints]
      first | done | (and_intros <;> first | exact True.intro | rfl | omega | exact hr.symm | assumption)
     ·simp only [eB01_h1_0, eB01_h1_1, eB01_h1_2, eB01_h1_3, eB01_h1_4, eB01_h1_5, eB01_h1_6, eB01_h1_7, eB01_h1_8, eB01_h1_9, eB01_h1_10, eB01_h1_11, eB01_h1_12, allTold', dutiesTold, factsA, factsC, factsP, factsR, AV.facts, RW.facts, inK, and_true, Q.holds', E.i, E.s, E.n, D.nat, E.den, BO.den, UO.den, TO.den, D.toInt_int, D.toList_list, D.ints_ofInts, i64min, i64max, u8min, u8max, u16min, u16max, u32min, u32max, u64min, u64max, i32min, i32max, Om.sub, selI, ints_app, ints_cut, ints_upd, ints_rep, ints_splice, ints_seg, len_ints]
      omega
    ·unfold pushI at hw
     rw [if_neg f] at hw
     simp only [stepI, wI] at hw
     have cn := cuts_no (x := (d 2).ints) (o := (d 3).toInt) (t := (d 4).toInt) (i := (d 0).toInt) (n := 0) (by omega) (by omega)
     rw [show (0 : Int) + 1 = 1 from rfl] at cn
     rw [cn] at pf
     have ci := cuts_in (x := (d 2).ints) (o := (d 3).toInt) (t := (d 4).toInt) (i := (d 0).toInt + 1) (n := 0) (by omega) (by omega)
     refine ⟨tellA eB01_t0, tellA_ok (allTold'_iff.1 ?_), .inr ⟨3, eB01_h0, _, _, by decide, eB01_y0, dutiesTold_ok ?_, allTold'_iff.1 ?_, ?_⟩⟩
     ·simp only [eB01_t0, er, hw, allTold', dutiesTold, factsA, factsC, factsP, factsR, AV.facts, RW.facts, inK, and_true, Q.holds', E.i, E.s, E.n, D.nat, E.den, BO.den, UO.den, TO.den, D.toInt_int, D.toList_list, D.ints_ofInts, i64min, i64max, u8min, u8max, u16min, u16max, u32min, u32max, u64min, u64max, i32min, i32max, Om.sub, selI, ints_app, ints_cut, ints_upd, ints_rep, ints_splice, ints_seg, len_ints]
      omega
     ·simp only [eB01_d0, F20, F21, F22, cn, hw, allTold', dutiesTold, factsA, factsC, factsP, factsR, AV.facts, RW.facts, inK, and_true, Q.holds', E.i, E.s, E.n, D.nat, E.den, BO.den, UO.den, TO.den, D.toInt_int, D.toList_list, D.ints_ofInts, i64min, i64max, u8min, u8max, u16min, u16max, u32min, u32max, u64min, u64max, i32min, i32max, Om.sub, selI, ints_app, ints_cut, ints_upd, ints_rep, ints_splice, ints_seg, len_ints]
      (try simp only [hy, ints_list, List.map_cons, List.map_append, List.map_nil, map_ints, getT, ofInts0, D.toList_list, D.toInt_int, D.ints_ofInts, List.cons_append, List.append_assoc, List.nil_append, List.length_cons]); first | done | (and_intros <;> first | exact True.intro | rfl | omega | exact last_cut3 (by omega) | assumption)
     ·simp only [eB, eB00, eB01, eB10, eB11, eB01_h0_0, eB01_h0_1, eB01_h0_2, eB01_h0_3, eB01_h0_4, eB01_h0_5, eB01_h0_6, eB01_h0_7, eB01_h0_8, eB01_h0_9, eB01_h0_10, eB01_h0_11, eB01_h0_12, F9, F11, F20, F21, er, hw, e6, e8, cn, allTold', dutiesTold, factsA, factsC, factsP, factsR, AV.facts, RW.facts, inK, and_true, Q.holds', E.i, E.s, E.n, D.nat, E.den, BO.den, UO.den, TO.den, D.toInt_int, D.toList_list, D.ints_ofInts, i64min, i64max, u8min, u8max, u16min, u16max, u32min, u32max, u64min, u64max, i32min, i32max, Om.sub, selI, ints_app, ints_cut, ints_upd, ints_rep, ints_splice, ints_seg, len_ints]
      first | done | (and_intros <;> first | exact True.intro | rfl | omega | exact hr.symm | assumption)
     ·simp only [eB01_h0_0, eB01_h0_1, eB01_h0_2, eB01_h0_3, eB01_h0_4, eB01_h0_5, eB01_h0_6, eB01_h0_7, eB01_h0_8, eB01_h0_9, eB01_h0_10, eB01_h0_11, eB01_h0_12, allTold', dutiesTold, factsA, factsC, factsP, factsR, AV.facts, RW.facts, inK, and_true, Q.holds', E.i, E.s, E.n, D.nat, E.den, BO.den, UO.den, TO.den, D.toInt_int, D.toList_list, D.ints_ofInts, i64min, i64max, u8min, u8max, u16min, u16max, u32min, u32max, u64min, u64max, i32min, i32max, Om.sub, selI, ints_app, ints_cut, ints_upd, ints_rep, ints_splice, ints_seg, len_ints]
      omega
 | 2, _ =>
   have hp := allTold'_iff.2 hp
   simp only [eB, eB10, allTold', dutiesTold, factsA, factsC, factsP, factsR, AV.facts, RW.facts, inK, and_true, Q.holds', E.i, E.s, E.n, D.nat, E.den, BO.den, UO.den, TO.den, D.toInt_int, D.toList_list, D.ints_ofInts, i64min, i64max, u8min, u8max, u16min, u16max, u32min, u32max, u64min, u64max, i32min, i32max, Om.sub, selI, ints_app, ints_cut, ints_upd, ints_rep, ints_splice, ints_seg, len_ints] at hp hR hA
   simp only [F9, F11, F20, F21, D.toInt_int, D.ints_ofInts, UO.den] at hp
   obtain ⟨p1, p2, p3, p4, p5, p6, p7, p8, p9, p10, p11, p12, pf, pz⟩ := hp
   by_cases h : (d 4).toInt ≤ (d 0).toInt
   ·exfalso
    have ce := cuts_end (x := (d 2).ints) (o := (d 3).toInt) (n := (d 1).toInt) h
    simp only [ce, List.length_nil] at pf pz
    all_goals omega
   ·have es : ((d 0).toInt + 1 - 1).toNat = (d 0).toInt.toNat := by omega
    have et : ((((d 0).toInt + 1 - 1).toNat : Nat) : Int) = (d 0).toInt := by omega
    rw [es] at p7
    rw [et] at p9
    have er : iopI .rem .i64 (d 8).toInt 16 = (d 0).toInt % 16 := by rw [p8, rem_emod _ (by omega)]
    obtain ⟨el, hw, hr⟩ := push_all (x := (d 2).ints) (o := (d 3).toInt) (i := (d 0).toInt) (by omega) (by omega) (by omega) p7 p9
    have hy : prt (d 2).ints ((d 3).toInt + (d 0).toInt) ((d 3).toInt + (d 4).toInt) = (d 2).ints[((d 3).toInt + (d 0).toInt).toNat]?.getD 0 :: prt (d 2).ints ((d 3).toInt + ((d 0).toInt + 1)) ((d 3).toInt + (d 4).toInt) := by
     rw [prt_step (o := (d 3).toInt + (d 0).toInt) (by omega) (by omega) (by omega), Int.add_assoc]
    have hz := prt_length (x := (d 2).ints) (o := (d 3).toInt + ((d 0).toInt + 1)) (t := (d 3).toInt + (d 4).toInt) (by omega) (by omega) (by omega)
    have e6 : ((d 0).toInt + 1 + 1 - 1).toNat = ((d 0).toInt + 1).toNat := by omega
    have e7 : ((((d 0).toInt + 1 + 1 - 1).toNat : Nat) : Int) = (d 0).toInt + 1 := by omega
    have e8 : (((d 0).toInt + 1).toNat : Int) = (d 0).toInt + 1 := by omega
    by_cases q : (d 1).toInt + 1 < 64
    ·by_cases f : 16 ≤ (d 0).toInt
     ·unfold pushI at hw
      rw [if_pos f] at hw
      simp only [rollI, wI] at hw
      have cn := cuts_no (x := (d 2).ints) (o := (d 3).toInt) (t := (d 4).toInt) (i := (d 0).toInt) (n := (d 1).toInt) (by omega) (by omega)
      rw [cn] at pf pz
      have ci := cuts_in (x := (d 2).ints) (o := (d 3).toInt) (t := (d 4).toInt) (i := (d 0).toInt + 1) (n := 0) (by omega) (by omega)
      refine ⟨tellA eB10_t1, tellA_ok (allTold'_iff.1 ?_), .inr ⟨2, eB10_h1, _, _, by decide, eB10_y1, dutiesTold_ok ?_, allTold'_iff.1 ?_, ?_⟩⟩
      ·simp only [eB10_t1, er, hw, allTold', dutiesTold, factsA, factsC, factsP, factsR, AV.facts, RW.facts, inK, and_true, Q.holds', E.i, E.s, E.n, D.nat, E.den, BO.den, UO.den, TO.den, D.toInt_int, D.toList_list, D.ints_ofInts, i64min, i64max, u8min, u8max, u16min, u16max, u32min, u32max, u64min, u64max, i32min, i32max, Om.sub, selI, ints_app, ints_cut, ints_upd, ints_rep, ints_splice, ints_seg, len_ints]
       omega
      ·simp only [eB10_d1, F20, F21, F22, cn, hw, allTold', dutiesTold, factsA, factsC, factsP, factsR, AV.facts, RW.facts, inK, and_true, Q.holds', E.i, E.s, E.n, D.nat, E.den, BO.den, UO.den, TO.den, D.toInt_int, D.toList_list, D.ints_ofInts, i64min, i64max, u8min, u8max, u16min, u16max, u32min, u32max, u64min, u64max, i32min, i32max, Om.sub, selI, ints_app, ints_cut, ints_upd, ints_rep, ints_splice, ints_seg, len_ints]
       (try simp only [hy, ints_list, List.map_cons, List.map_append, List.map_nil, map_ints, getT, ofInts0, D.toList_list, D.toInt_int, D.ints_ofInts, List.cons_append, List.append_assoc, List.nil_append, List.length_cons]); first | done | (and_intros <;> first | exact True.intro | rfl | omega | exact last_cut3 (by omega) | assumption)
      ·simp only [eB, eB00, eB01, eB10, eB11, eB10_h1_0, eB10_h1_1, eB10_h1_2, eB10_h1_3, eB10_h1_4, eB10_h1_5, eB10_h1_6, eB10_h1_7, eB10_h1_8, eB10_h1_9, eB10_h1_10, F9, F11, F20, F21, er, hw, e6, e8, cn, allTold', dutiesTold, factsA, factsC, factsP, factsR, AV.facts, RW.facts, inK, and_true, Q.holds', E.i, E.s, E.n, D.nat, E.den, BO.den, UO.den, TO.den, D.toInt_int, D.toList_list, D.ints_ofInts, i64min, i64max, u8min, u8max, u16min, u16max, u32min, u32max, u64min, u64max, i32min, i32max, Om.sub, selI, ints_app, ints_cut, ints_upd, ints_rep, ints_splice, ints_seg, len_ints]
       first | done | (and_intros <;> first | exact True.intro | rfl | omega | exact hr.symm | assumption)
      ·simp only [eB10_h1_0, eB10_h1_1, eB10_h1_2, eB10_h1_3, eB10_h1_4, eB10_h1_5, eB10_h1_6, eB10_h1_7, eB10_h1_8, eB10_h1_9, eB10_h1_10, allTold', dutiesTold, factsA, factsC, factsP, factsR, AV.facts, RW.facts, inK, and_true, Q.holds', E.i, E.s, E.n, D.nat, E.den, BO.den, UO.den, TO.den, D.toInt_int, D.toList_list, D.ints_ofInts, i64min, i64max, u8min, u8max, u16min, u16max, u32min, u32max, u64min, u64max, i32min, i32max, Om.sub, selI, ints_app, ints_cut, ints_upd, ints_rep, ints_splice, ints_seg, len_ints]
       omega
     ·unfold pushI at hw
      rw [if_neg f] at hw
      simp only [stepI, wI] at hw
      have cn := cuts_no (x := (d 2).ints) (o := (d 3).toInt) (t := (d 4).toInt) (i := (d 0).toInt) (n := (d 1).toInt) (by omega) (by omega)
      rw [cn] at pf pz
      have ci := cuts_in (x := (d 2).ints) (o := (d 3).toInt) (t := (d 4).toInt) (i := (d 0).toInt + 1) (n := 0) (by omega) (by omega)
      refine ⟨tellA eB10_t0, tellA_ok (allTold'_iff.1 ?_), .inr ⟨2, eB10_h0, _, _, by decide, eB10_y0, dutiesTold_ok ?_, allTold'_iff.1 ?_, ?_⟩⟩
      ·simp only [eB10_t0, er, hw, allTold', dutiesTold, factsA, factsC, factsP, factsR, AV.facts, RW.facts, inK, and_true, Q.holds', E.i, E.s, E.n, D.nat, E.den, BO.den, UO.den, TO.den, D.toInt_int, D.toList_list, D.ints_ofInts, i64min, i64max, u8min, u8max, u16min, u16max, u32min, u32max, u64min, u64max, i32min, i32max, Om.sub, selI, ints_app, ints_cut, ints_upd, ints_rep, ints_splice, ints_seg, len_ints]
       omega
      ·simp only [eB10_d0, F20, F21, F22, cn, hw, allTold', dutiesTold, factsA, factsC, factsP, factsR, AV.facts, RW.facts, inK, and_true, Q.holds', E.i, E.s, E.n, D.nat, E.den, BO.den, UO.den, TO.den, D.toInt_int, D.toList_list, D.ints_ofInts, i64min, i64max, u8min, u8max, u16min, u16max, u32min, u32max, u64min, u64max, i32min, i32max, Om.sub, selI, ints_app, ints_cut, ints_upd, ints_rep, ints_splice, ints_seg, len_ints]
       (try simp only [hy, ints_list, List.map_cons, List.map_append, List.map_nil, map_ints, getT, ofInts0, D.toList_list, D.toInt_int, D.ints_ofInts, List.cons_append, List.append_assoc, List.nil_append, List.length_cons]); first | done | (and_intros <;> first | exact True.intro | rfl | omega | exact last_cut3 (by omega) | assumption)
      ·simp only [eB, eB00, eB01, eB10, eB11, eB10_h0_0, eB10_h0_1, eB10_h0_2, eB10_h0_3, eB10_h0_4, eB10_h0_5, eB10_h0_6, eB10_h0_7, eB10_h0_8, eB10_h0_9, eB10_h0_10, F9, F11, F20, F21, er, hw, e6, e8, cn, allTold', dutiesTold, factsA, factsC, factsP, factsR, AV.facts, RW.facts, inK, and_true, Q.holds', E.i, E.s, E.n, D.nat, E.den, BO.den, UO.den, TO.den, D.toInt_int, D.toList_list, D.ints_ofInts, i64min, i64max, u8min, u8max, u16min, u16max, u32min, u32max, u64min, u64max, i32min, i32max, Om.sub, selI, ints_app, ints_cut, ints_upd, ints_rep, ints_splice, ints_seg, len_ints]
       first | done | (and_intros <;> first | exact True.intro | rfl | omega | exact hr.symm | assumption)
      ·simp only [eB10_h0_0, eB10_h0_1, eB10_h0_2, eB10_h0_3, eB10_h0_4, eB10_h0_5, eB10_h0_6, eB10_h0_7, eB10_h0_8, eB10_h0_9, eB10_h0_10, allTold', dutiesTold, factsA, factsC, factsP, factsR, AV.facts, RW.facts, inK, and_true, Q.holds', E.i, E.s, E.n, D.nat, E.den, BO.den, UO.den, TO.den, D.toInt_int, D.toList_list, D.ints_ofInts, i64min, i64max, u8min, u8max, u16min, u16max, u32min, u32max, u64min, u64max, i32min, i32max, Om.sub, selI, ints_app, ints_cut, ints_upd, ints_rep, ints_splice, ints_seg, len_ints]
       omega
    ·have f : 16 ≤ (d 0).toInt := by omega
     unfold pushI at hw
     rw [if_pos f] at hw
     simp only [rollI, wI] at hw
     by_cases g : (d 1).toInt + 1 = 1024
     ·have cn := cuts_yes (x := (d 2).ints) (o := (d 3).toInt) (t := (d 4).toInt) (i := (d 0).toInt) (n := (d 1).toInt) (by omega) (by omega)
      rw [cn] at pf pz
      have ci := cuts_in (x := (d 2).ints) (o := (d 3).toInt) (t := (d 4).toInt) (i := (d 0).toInt + 1) (n := 0) (by omega) (by omega)
      refine ⟨tellA eB10_t4, tellA_ok (allTold'_iff.1 ?_), .inr ⟨1, eB10_h4, _, _, by decide, eB10_y4, dutiesTold_ok ?_, allTold'_iff.1 ?_, ?_⟩⟩
      ·simp only [eB10_t4, er, hw, allTold', dutiesTold, factsA, factsC, factsP, factsR, AV.facts, RW.facts, inK, and_true, Q.holds', E.i, E.s, E.n, D.nat, E.den, BO.den, UO.den, TO.den, D.toInt_int, D.toList_list, D.ints_ofInts, i64min, i64max, u8min, u8max, u16min, u16max, u32min, u32max, u64min, u64max, i32min, i32max, Om.sub, selI, ints_app, ints_cut, ints_upd, ints_rep, ints_splice, ints_seg, len_ints]
       omega
      ·simp only [eB10_d4, F20, F21, F22, cn, hw, allTold', dutiesTold, factsA, factsC, factsP, factsR, AV.facts, RW.facts, inK, and_true, Q.holds', E.i, E.s, E.n, D.nat, E.den, BO.den, UO.den, TO.den, D.toInt_int, D.toList_list, D.ints_ofInts, i64min, i64max, u8min, u8max, u16min, u16max, u32min, u32max, u64min, u64max, i32min, i32max, Om.sub, selI, ints_app, ints_cut, ints_upd, ints_rep, ints_splice, ints_seg, len_ints]
       (try simp only [hy, ints_list, List.map_cons, List.map_append, List.map_nil, map_ints, getT, ofInts0, D.toList_list, D.toInt_int, D.ints_ofInts, List.cons_append, List.append_assoc, List.nil_append, List.length_cons]); first | done | (and_intros <;> first | exact True.intro | rfl | omega | exact last_cut3 (by omega) | assumption)
      ·simp only [eB, eB00, eB01, eB10, eB11, eB10_h4_0, eB10_h4_2, eB10_h4_3, eB10_h4_4, eB10_h4_5, eB10_h4_6, eB10_h4_7, eB10_h4_8, eB10_h4_9, eB10_h4_11, eB10_h4_12, F9, F11, F20, F21, er, hw, e6, e8, cn, allTold', dutiesTold, factsA, factsC, factsP, factsR, AV.facts, RW.facts, inK, and_true, Q.holds', E.i, E.s, E.n, D.nat, E.den, BO.den, UO.den, TO.den, D.toInt_int, D.toList_list, D.ints_ofInts, i64min, i64max, u8min, u8max, u16min, u16max, u32min, u32max, u64min, u64max, i32min, i32max, Om.sub, selI, ints_app, ints_cut, ints_upd, ints_rep, ints_splice, ints_seg, len_ints]
       first | done | (and_intros <;> first | exact True.intro | rfl | omega | exact hr.symm | assumption)
      ·simp only [eB10_h4_0, eB10_h4_2, eB10_h4_3, eB10_h4_4, eB10_h4_5, eB10_h4_6, eB10_h4_7, eB10_h4_8, eB10_h4_9, eB10_h4_11, eB10_h4_12, allTold', dutiesTold, factsA, factsC, factsP, factsR, AV.facts, RW.facts, inK, and_true, Q.holds', E.i, E.s, E.n, D.nat, E.den, BO.den, UO.den, TO.den, D.toInt_int, D.toList_list, D.ints_ofInts, i64min, i64max, u8min, u8max, u16min, u16max, u32min, u32max, u64min, u64max, i32min, i32max, Om.sub, selI, ints_app, ints_cut, ints_upd, ints_rep, ints_splice, ints_seg, len_ints]
       omega
     ·by_cases w : winI (d 2).ints (d 3).toInt ((d 0).toInt + 1) < 16777216
      ·have cn := cuts_yes (x := (d 2).ints) (o := (d 3).toInt) (t := (d 4).toInt) (i := (d 0).toInt) (n := (d 1).toInt) (by omega) (by omega)
       rw [cn] at pf pz
       have ci := cuts_in (x := (d 2).ints) (o := (d 3).toInt) (t := (d 4).toInt) (i := (d 0).toInt + 1) (n := 0) (by omega) (by omega)
       refine ⟨tellA eB10_t3, tellA_ok (allTold'_iff.1 ?_), .inr ⟨1, eB10_h3, _, _, by decide, eB10_y3, dutiesTold_ok ?_, allTold'_iff.1 ?_, ?_⟩⟩
       ·simp only [eB10_t3, er, hw, allTold', dutiesTold, factsA, factsC, factsP, factsR, AV.facts, RW.facts, inK, and_true, Q.holds', E.i, E.s, E.n, D.nat, E.den, BO.den, UO.den, TO.den, D.toInt_int, D.toList_list, D.ints_ofInts, i64min, i64max, u8min, u8max, u16min, u16max, u32min, u32max, u64min, u64max, i32min, i32max, Om.sub, selI, ints_app, ints_cut, ints_upd, ints_rep, ints_splice, ints_seg, len_ints]
        omega
       ·simp only [eB10_d3, F20, F21, F22, cn, hw, allTold', dutiesTold, factsA, factsC, factsP, factsR, AV.facts, RW.facts, inK, and_true, Q.holds', E.i, E.s, E.n, D.nat, E.den, BO.den, UO.den, TO.den, D.toInt_int, D.toList_list, D.ints_ofInts, i64min, i64max, u8min, u8max, u16min, u16max, u32min, u32max, u64min, u64max, i32min, i32max, Om.sub, selI, ints_app, ints_cut, ints_upd, ints_rep, ints_splice, ints_seg, len_ints]
        (try simp only [hy, ints_list, List.map_cons, List.map_append, List.map_nil, map_ints, getT, ofInts0, D.toList_list, D.toInt_int, D.ints_ofInts, List.cons_append, List.append_assoc, List.nil_append, List.length_cons]); first | done | (and_intros <;> first | exact True.intro | rfl | omega | exact last_cut3 (by omega) | assumption)
       ·simp only [eB, eB00, eB01, eB10, eB11, eB10_h3_0, eB10_h3_2, eB10_h3_3, eB10_h3_4, eB10_h3_5, eB10_h3_6, eB10_h3_7, eB10_h3_8, eB10_h3_9, eB10_h3_11, eB10_h3_12, F9, F11, F20, F21, er, hw, e6, e8, cn, allTold', dutiesTold, factsA, factsC, factsP, factsR, AV.facts, RW.facts, inK, and_true, Q.holds', E.i, E.s, E.n, D.nat, E.den, BO.den, UO.den, TO.den, D.toInt_int, D.toList_list, D.ints_ofInts, i64min, i64max, u8min, u8max, u16min, u16max, u32min, u32max, u64min, u64max, i32min, i32max, Om.sub, selI, ints_app, ints_cut, ints_upd, ints_rep, ints_splice, ints_seg, len_ints]
        first | done | (and_intros <;> first | exact True.intro | rfl | omega | exact hr.symm | assumption)
       ·simp only [eB10_h3_0, eB10_h3_2, eB10_h3_3, eB10_h3_4, eB10_h3_5, eB10_h3_6, eB10_h3_7, eB10_h3_8, eB10_h3_9, eB10_h3_11, eB10_h3_12, allTold', dutiesTold, factsA, factsC, factsP, factsR, AV.facts, RW.facts, inK, and_true, Q.holds', E.i, E.s, E.n, D.nat, E.den, BO.den, UO.den, TO.den, D.toInt_int, D.toList_list, D.ints_ofInts, i64min, i64max, u8min, u8max, u16min, u16max, u32min, u32max, u64min, u64max, i32min, i32max, Om.sub, selI, ints_app, ints_cut, ints_upd, ints_rep, ints_splice, ints_seg, len_ints]
        omega
      ·have cn := cuts_no (x := (d 2).ints) (o := (d 3).toInt) (t := (d 4).toInt) (i := (d 0).toInt) (n := (d 1).toInt) (by omega) (by omega)
       rw [cn] at pf pz
       have ci := cuts_in (x := (d 2).ints) (o := (d 3).toInt) (t := (d 4).toInt) (i := (d 0).toInt + 1) (n := 0) (by omega) (by omega)
       refine ⟨tellA eB10_t2, tellA_ok (allTold'_iff.1 ?_), .inr ⟨2, eB10_h2, _, _, by decide, eB10_y2, dutiesTold_ok ?_, allTold'_iff.1 ?_, ?_⟩⟩
       ·simp only [eB10_t2, er, hw, allTold', dutiesTold, factsA, factsC, factsP, factsR, AV.facts, RW.facts, inK, and_true, Q.holds', E.i, E.s, E.n, D.nat, E.den, BO.den, UO.den, TO.den, D.toInt_int, D.toList_list, D.ints_ofInts, i64min, i64max, u8min, u8max, u16min, u16max, u32min, u32max, u64min, u64max, i32min, i32max, Om.sub, selI, ints_app, ints_cut, ints_upd, ints_rep, ints_splice, ints_seg, len_ints]
        omega
       ·simp only [eB10_d2, F20, F21, F22, cn, hw, allTold', dutiesTold, factsA, factsC, factsP, factsR, AV.facts, RW.facts, inK, and_true, Q.holds', E.i, E.s, E.n, D.nat, E.den, BO.den, UO.den, TO.den, D.toInt_int, D.toList_list, D.ints_ofInts, i64min, i64max, u8min, u8max, u16min, u16max, u32min, u32max, u64min, u64max, i32min, i32max, Om.sub, selI, ints_app, ints_cut, ints_upd, ints_rep, ints_splice, ints_seg, len_ints]
        (try simp only [hy, ints_list, List.map_cons, List.map_append, List.map_nil, map_ints, getT, ofInts0, D.toList_list, D.toInt_int, D.ints_ofInts, List.cons_append, List.append_assoc, List.nil_append, List.length_cons]); first | done | (and_intros <;> first | exact True.intro | rfl | omega | exact last_cut3 (by omega) | assumption)
       ·simp only [eB, eB00, eB01, eB10, eB11, eB10_h2_0, eB10_h2_1, eB10_h2_2, eB10_h2_3, eB10_h2_4, eB10_h2_5, eB10_h2_6, eB10_h2_7, eB10_h2_8, eB10_h2_9, eB10_h2_10, F9, F11, F20, F21, er, hw, e6, e8, cn, allTold', dutiesTold, factsA, factsC, factsP, factsR, AV.facts, RW.facts, inK, and_true, Q.holds', E.i, E.s, E.n, D.nat, E.den, BO.den, UO.den, TO.den, D.toInt_int, D.toList_list, D.ints_ofInts, i64min, i64max, u8min, u8max, u16min, u16max, u32min, u32max, u64min, u64max, i32min, i32max, Om.sub, selI, ints_app, ints_cut, ints_upd, ints_rep, ints_splice, ints_seg, len_ints]
        first | done | (and_intros <;> first | exact True.intro | rfl | omega | exact hr.symm | assumption)
       ·simp only [eB10_h2_0, eB10_h2_1, eB10_h2_2, eB10_h2_3, eB10_h2_4, eB10_h2_5, eB10_h2_6, eB10_h2_7, eB10_h2_8, eB10_h2_9, eB10_h2_10, allTold', dutiesTold, factsA, factsC, factsP, factsR, AV.facts, RW.facts, inK, and_true, Q.holds', E.i, E.s, E.n, D.nat, E.den, BO.den, UO.den, TO.den, D.toInt_int, D.toList_list, D.ints_ofInts, i64min, i64max, u8min, u8max, u16min, u16max, u32min, u32max, u64min, u64max, i32min, i32max, Om.sub, selI, ints_app, ints_cut, ints_upd, ints_rep, ints_splice, ints_seg, len_ints]
        omega
 | 3, _ =>
   have hp := allTold'_iff.2 hp
   simp only [eB, eB11, allTold', dutiesTold, factsA, factsC, factsP, factsR, AV.facts, RW.facts, inK, and_true, Q.holds', E.i, E.s, E.n, D.nat, E.den, BO.den, UO.den, TO.den, D.toInt_int, D.toList_list, D.ints_ofInts, i64min, i64max, u8min, u8max, u16min, u16max, u32min, u32max, u64min, u64max, i32min, i32max, Om.sub, selI, ints_app, ints_cut, ints_upd, ints_rep, ints_splice, ints_seg, len_ints] at hp hR hA
   simp only [F9, F11, F20, F21, D.toInt_int, D.ints_ofInts, UO.den] at hp
   obtain ⟨p1, p2, p3, p4, p5, p6, p7, p8, p9, p10, p11, p12, p13, p14, pf⟩ := hp
   by_cases h : (d 4).toInt ≤ (d 0).toInt
   ·exfalso
    have ce := cuts_end (x := (d 2).ints) (o := (d 3).toInt) (n := (d 1).toInt) h
    simp only [ce, List.length_nil] at pf
    all_goals omega
   ·have es : ((d 0).toInt + 1 - 1).toNat = (d 0).toInt.toNat := by omega
    have et : ((((d 0).toInt + 1 - 1).toNat : Nat) : Int) = (d 0).toInt := by omega
    rw [es] at p7
    rw [et] at p9
    have er : iopI .rem .i64 (d 8).toInt 16 = (d 0).toInt % 16 := by rw [p8, rem_emod _ (by omega)]
    obtain ⟨el, hw, hr⟩ := push_all (x := (d 2).ints) (o := (d 3).toInt) (i := (d 0).toInt) (by omega) (by omega) (by omega) p7 p9
    have hy : prt (d 2).ints ((d 3).toInt + (d 0).toInt) ((d 3).toInt + (d 4).toInt) = (d 2).ints[((d 3).toInt + (d 0).toInt).toNat]?.getD 0 :: prt (d 2).ints ((d 3).toInt + ((d 0).toInt + 1)) ((d 3).toInt + (d 4).toInt) := by
     rw [prt_step (o := (d 3).toInt + (d 0).toInt) (by omega) (by omega) (by omega), Int.add_assoc]
    have hz := prt_length (x := (d 2).ints) (o := (d 3).toInt + ((d 0).toInt + 1)) (t := (d 3).toInt + (d 4).toInt) (by omega) (by omega) (by omega)
    have e6 : ((d 0).toInt + 1 + 1 - 1).toNat = ((d 0).toInt + 1).toNat := by omega
    have e7 : ((((d 0).toInt + 1 + 1 - 1).toNat : Nat) : Int) = (d 0).toInt + 1 := by omega
    have e8 : (((d 0).toInt + 1).toNat : Int) = (d 0).toInt + 1 := by omega
    by_cases q : (d 1).toInt + 1 < 64
    ·by_cases f : 16 ≤ (d 0).toInt
     ·unfold pushI at hw
      rw [if_pos f] at hw
      simp only [rollI, wI] at hw
      have cn := cuts_no (x := (d 2).ints) (o := (d 3).toInt) (t := (d 4).toInt) (i := (d 0).toInt) (n := (d 1).toInt) (by omega) (by omega)
      rw [cn] at pf
      have ci := cuts_in (x := (d 2).ints) (o := (d 3).toInt) (t := (d 4).toInt) (i := (d 0).toInt + 1) (n := 0) (by omega) (by omega)
      refine ⟨tellA eB11_t1, tellA_ok (allTold'_iff.1 ?_), .inr ⟨3, eB11_h1, _, _, by decide, eB11_y1, dutiesTold_ok ?_, allTold'_iff.1 ?_, ?_⟩⟩
      ·simp only [eB11_t1, er, hw, allTold', dutiesTold, factsA, factsC, factsP, factsR, AV.facts, RW.facts, inK, and_true, Q.holds', E.i, E.s, E.n, D.nat, E.den, BO.den, UO.den, TO.den, D.toInt_int, D.toList_list, D.ints_ofInts, i64min, i64max, u8min, u8max, u16min, u16max, u32min, u32max, u64min, u64max, i32min, i32max, Om.sub, selI, ints_app, ints_cut, ints_upd, ints_rep, ints_splice, ints_seg, len_ints]
       omega
      ·simp only [eB11_d1, F20, F21, F22, cn, hw, allTold', dutiesTold, factsA, factsC, factsP, factsR, AV.facts, RW.facts, inK, and_true, Q.holds', E.i, E.s, E.n, D.nat, E.den, BO.den, UO.den, TO.den, D.toInt_int, D.toList_list, D.ints_ofInts, i64min, i64max, u8min, u8max, u16min, u16max, u32min, u32max, u64min, u64max, i32min, i32max, Om.sub, selI, ints_app, ints_cut, ints_upd, ints_rep, ints_splice, ints_seg, len_ints]
       (try simp only [hy, ints_list, List.map_cons, List.map_append, List.map_nil, map_ints, getT, ofInts0, D.toList_list, D.toInt_int, D.ints_ofInts, List.cons_append, List.append_assoc, List.nil_append, List.length_cons]); first | done | (and_intros <;> first | exact True.intro | rfl | omega | exact last_cut3 (by omega) | assumption)
      ·simp only [eB, eB00, eB01, eB10, eB11, eB11_h1_0, eB11_h1_1, eB11_h1_2, eB11_h1_3, eB11_h1_4, eB11_h1_5, eB11_h1_6, eB11_h1_7, eB11_h1_8, eB11_h1_9, eB11_h1_10, eB11_h1_11, eB11_h1_12, F9, F11, F20, F21, er, hw, e6, e8, cn, allTold', dutiesTold, factsA, factsC, factsP, factsR, AV.facts, RW.facts, inK, and_true, Q.holds', E.i, E.s, E.n, D.nat, E.den, BO.den, UO.den, TO.den, D.toInt_int, D.toList_list, D.ints_ofInts, i64min, i64max, u8min, u8max, u16min, u16max, u32min, u32max, u64min, u64max, i32min, i32max, Om.sub, selI, ints_app, ints_cut, ints_upd, ints_rep, ints_splice, ints_seg, len_ints]
       first | done | (and_intros <;> first | exact True.intro | rfl | omega | exact hr.symm | assumption)
      ·simp only [eB11_h1_0, eB11_h1_1, eB11_h1_2, eB11_h1_3, eB11_h1_4, eB11_h1_5, eB11_h1_6, eB11_h1_7, eB11_h1_8, eB11_h1_9, eB11_h1_10, eB11_h1_11, eB11_h1_12, allTold', dutiesTold, factsA, factsC, factsP, factsR, AV.facts, RW.facts, inK, and_true, Q.holds', E.i, E.s, E.n, D.nat, E.den, BO.den, UO.den, TO.den, D.toInt_int, D.toList_list, D.ints_ofInts, i64min, i64max, u8min, u8max, u16min, u16max, u32min, u32max, u64min, u64max, i32min, i32max, Om.sub, selI, ints_app, ints_cut, ints_upd, ints_rep, ints_splice, ints_seg, len_ints]
       omega
     ·unfold pushI at hw
      rw [if_neg f] at hw
      simp only [stepI, wI] at hw
      have cn := cuts_no (x := (d 2).ints) (o := (d 3).toInt) (t := (d 4).toInt) (i := (d 0).toInt) (n := (d 1).toInt) (by omega) (by omega)
      rw [cn] at pf
      have ci := cuts_in (x := (d 2).ints) (o := (d 3).toInt) (t := (d 4).toInt) (i := (d 0).toInt + 1) (n := 0) (by omega) (by omega)
      refine ⟨tellA eB11_t0, tellA_ok (allTold'_iff.1 ?_), .inr ⟨3, eB11_h0, _, _, by decide, eB11_y0, dutiesTold_ok ?_, allTold'_iff.1 ?_, ?_⟩⟩
      ·simp only [eB11_t0, er, hw, allTold', dutiesTold, factsA, factsC, factsP, factsR, AV.facts, RW.facts, inK, and_true, Q.holds', E.i, E.s, E.n, D.nat, E.den, BO.den, UO.den, TO.den, D.toInt_int, D.toList_list, D.ints_ofInts, i64min, i64max, u8min, u8max, u16min, u16max, u32min, u32max, u64min, u64max, i32min, i32max, Om.sub, selI, ints_app, ints_cut, ints_upd, ints_rep, ints_splice, ints_seg, len_ints]
       omega
      ·simp only [eB11_d0, F20, F21, F22, cn, hw, allTold', dutiesTold, factsA, factsC, factsP, factsR, AV.facts, RW.facts, inK, and_true, Q.holds', E.i, E.s, E.n, D.nat, E.den, BO.den, UO.den, TO.den, D.toInt_int, D.toList_list, D.ints_ofInts, i64min, i64max, u8min, u8max, u16min, u16max, u32min, u32max, u64min, u64max, i32min, i32max, Om.sub, selI, ints_app, ints_cut, ints_upd, ints_rep, ints_splice, ints_seg, len_ints]
       (try simp only [hy, ints_list, List.map_cons, List.map_append, List.map_nil, map_ints, getT, ofInts0, D.toList_list, D.toInt_int, D.ints_ofInts, List.cons_append, List.append_assoc, List.nil_append, List.length_cons]); first | done | (and_intros <;> first | exact True.intro | rfl | omega | exact last_cut3 (by omega) | assumption)
      ·simp only [eB, eB00, eB01, eB10, eB11, eB11_h0_0, eB11_h0_1, eB11_h0_2, eB11_h0_3, eB11_h0_4, eB11_h0_5, eB11_h0_6, eB11_h0_7, eB11_h0_8, eB11_h0_9, eB11_h0_10, eB11_h0_11, eB11_h0_12, F9, F11, F20, F21, er, hw, e6, e8, cn, allTold', dutiesTold, factsA, factsC, factsP, factsR, AV.facts, RW.facts, inK, and_true, Q.holds', E.i, E.s, E.n, D.nat, E.den, BO.den, UO.den, TO.den, D.toInt_int, D.toList_list, D.ints_ofInts, i64min, i64max, u8min, u8max, u16min, u16max, u32min, u32max, u64min, u64max, i32min, i32max, Om.sub, selI, ints_app, ints_cut, ints_upd, ints_rep, ints_splice, ints_seg, len_ints]
       first | done | (and_intros <;> first | exact True.intro | rfl | omega | exact hr.symm | assumption)
      ·simp only [eB11_h0_0, eB11_h0_1, eB11_h0_2, eB11_h0_3, eB11_h0_4, eB11_h0_5, eB11_h0_6, eB11_h0_7, eB11_h0_8, eB11_h0_9, eB11_h0_10, eB11_h0_11, eB11_h0_12, allTold', dutiesTold, factsA, factsC, factsP, factsR, AV.facts, RW.facts, inK, and_true, Q.holds', E.i, E.s, E.n, D.nat, E.den, BO.den, UO.den, TO.den, D.toInt_int, D.toList_list, D.ints_ofInts, i64min, i64max, u8min, u8max, u16min, u16max, u32min, u32max, u64min, u64max, i32min, i32max, Om.sub, selI, ints_app, ints_cut, ints_upd, ints_rep, ints_splice, ints_seg, len_ints]
       omega
    ·have f : 16 ≤ (d 0).toInt := by omega
     unfold pushI at hw
     rw [if_pos f] at hw
     simp only [rollI, wI] at hw
     by_cases g : (d 1).toInt + 1 = 1024
     ·have cn := cuts_yes (x := (d 2).ints) (o := (d 3).toInt) (t := (d 4).toInt) (i := (d 0).toInt) (n := (d 1).toInt) (by omega) (by omega)
      rw [cn] at pf
      have ci := cuts_in (x := (d 2).ints) (o := (d 3).toInt) (t := (d 4).toInt) (i := (d 0).toInt + 1) (n := 0) (by omega) (by omega)
      refine ⟨tellA eB11_t4, tellA_ok (allTold'_iff.1 ?_), .inr ⟨1, eB11_h4, _, _, by decide, eB11_y4, dutiesTold_ok ?_, allTold'_iff.1 ?_, ?_⟩⟩
      ·simp only [eB11_t4, er, hw, allTold', dutiesTold, factsA, factsC, factsP, factsR, AV.facts, RW.facts, inK, and_true, Q.holds', E.i, E.s, E.n, D.nat, E.den, BO.den, UO.den, TO.den, D.toInt_int, D.toList_list, D.ints_ofInts, i64min, i64max, u8min, u8max, u16min, u16max, u32min, u32max, u64min, u64max, i32min, i32max, Om.sub, selI, ints_app, ints_cut, ints_upd, ints_rep, ints_splice, ints_seg, len_ints]
       omega
      ·simp only [eB11_d4, F20, F21, F22, cn, hw, allTold', dutiesTold, factsA, factsC, factsP, factsR, AV.facts, RW.facts, inK, and_true, Q.holds', E.i, E.s, E.n, D.nat, E.den, BO.den, UO.den, TO.den, D.toInt_int, D.toList_list, D.ints_ofInts, i64min, i64max, u8min, u8max, u16min, u16max, u32min, u32max, u64min, u64max, i32min, i32max, Om.sub, selI, ints_app, ints_cut, ints_upd, ints_rep, ints_splice, ints_seg, len_ints]
       (try simp only [hy, ints_list, List.map_cons, List.map_append, List.map_nil, map_ints, getT, ofInts0, D.toList_list, D.toInt_int, D.ints_ofInts, List.cons_append, List.append_assoc, List.nil_append, List.length_cons]); first | done | (and_intros <;> first | exact True.intro | rfl | omega | exact last_cut3 (by omega) | assumption)
      ·simp only [eB, eB00, eB01, eB10, eB11, eB11_h4_0, eB11_h4_2, eB11_h4_3, eB11_h4_4, eB11_h4_5, eB11_h4_6, eB11_h4_7, eB11_h4_8, eB11_h4_9, eB11_h4_11, eB11_h4_12, F9, F11, F20, F21, er, hw, e6, e8, cn, allTold', dutiesTold, factsA, factsC, factsP, factsR, AV.facts, RW.facts, inK, and_true, Q.holds', E.i, E.s, E.n, D.nat, E.den, BO.den, UO.den, TO.den, D.toInt_int, D.toList_list, D.ints_ofInts, i64min, i64max, u8min, u8max, u16min, u16max, u32min, u32max, u64min, u64max, i32min, i32max, Om.sub, selI, ints_app, ints_cut, ints_upd, ints_rep, ints_splice, ints_seg, len_ints]
       first | done | (and_intros <;> first | exact True.intro | rfl | omega | exact hr.symm | assumption)
      ·simp only [eB11_h4_0, eB11_h4_2, eB11_h4_3, eB11_h4_4, eB11_h4_5, eB11_h4_6, eB11_h4_7, eB11_h4_8, eB11_h4_9, eB11_h4_11, eB11_h4_12, allTold', dutiesTold, factsA, factsC, factsP, factsR, AV.facts, RW.facts, inK, and_true, Q.holds', E.i, E.s, E.n, D.nat, E.den, BO.den, UO.den, TO.den, D.toInt_int, D.toList_list, D.ints_ofInts, i64min, i64max, u8min, u8max, u16min, u16max, u32min, u32max, u64min, u64max, i32min, i32max, Om.sub, selI, ints_app, ints_cut, ints_upd, ints_rep, ints_splice, ints_seg, len_ints]
       omega
     ·by_cases w : winI (d 2).ints (d 3).toInt ((d 0).toInt + 1) < 16777216
      ·have cn := cuts_yes (x := (d 2).ints) (o := (d 3).toInt) (t := (d 4).toInt) (i := (d 0).toInt) (n := (d 1).toInt) (by omega) (by omega)
       rw [cn] at pf
       have ci := cuts_in (x := (d 2).ints) (o := (d 3).toInt) (t := (d 4).toInt) (i := (d 0).toInt + 1) (n := 0) (by omega) (by omega)
       refine ⟨tellA eB11_t3, tellA_ok (allTold'_iff.1 ?_), .inr ⟨1, eB11_h3, _, _, by decide, eB11_y3, dutiesTold_ok ?_, allTold'_iff.1 ?_, ?_⟩⟩
       ·simp only [eB11_t3, er, hw, allTold', dutiesTold, factsA, factsC, factsP, factsR, AV.facts, RW.facts, inK, and_true, Q.holds', E.i, E.s, E.n, D.nat, E.den, BO.den, UO.den, TO.den, D.toInt_int, D.toList_list, D.ints_ofInts, i64min, i64max, u8min, u8max, u16min, u16max, u32min, u32max, u64min, u64max, i32min, i32max, Om.sub, selI, ints_app, ints_cut, ints_upd, ints_rep, ints_splice, ints_seg, len_ints]
        omega
       ·simp only [eB11_d3, F20, F21, F22, cn, hw, allTold', dutiesTold, factsA, factsC, factsP, factsR, AV.facts, RW.facts, inK, and_true, Q.holds', E.i, E.s, E.n, D.nat, E.den, BO.den, UO.den, TO.den, D.toInt_int, D.toList_list, D.ints_ofInts, i64min, i64max, u8min, u8max, u16min, u16max, u32min, u32max, u64min, u64max, i32min, i32max, Om.sub, selI, ints_app, ints_cut, ints_upd, ints_rep, ints_splice, ints_seg, len_ints]
        (try simp only [hy, ints_list, List.map_cons, List.map_append, List.map_nil, map_ints, getT, ofInts0, D.toList_list, D.toInt_int, D.ints_ofInts, List.cons_append, List.append_assoc, List.nil_append, List.length_cons]); first | done | (and_intros <;> first | exact True.intro | rfl | omega | exact last_cut3 (by omega) | assumption)
       ·simp only [eB, eB00, eB01, eB10, eB11, eB11_h3_0, eB11_h3_2, eB11_h3_3, eB11_h3_4, eB11_h3_5, eB11_h3_6, eB11_h3_7, eB11_h3_8, eB11_h3_9, eB11_h3_11, eB11_h3_12, F9, F11, F20, F21, er, hw, e6, e8, cn, allTold', dutiesTold, factsA, factsC, factsP, factsR, AV.facts, RW.facts, inK, and_true, Q.holds', E.i, E.s, E.n, D.nat, E.den, BO.den, UO.den, TO.den, D.toInt_int, D.toList_list, D.ints_ofInts, i64min, i64max, u8min, u8max, u16min, u16max, u32min, u32max, u64min, u64max, i32min, i32max, Om.sub, selI, ints_app, ints_cut, ints_upd, ints_rep, ints_splice, ints_seg, len_ints]
        first | done | (and_intros <;> first | exact True.intro | rfl | omega | exact hr.symm | assumption)
       ·simp only [eB11_h3_0, eB11_h3_2, eB11_h3_3, eB11_h3_4, eB11_h3_5, eB11_h3_6, eB11_h3_7, eB11_h3_8, eB11_h3_9, eB11_h3_11, eB11_h3_12, allTold', dutiesTold, factsA, factsC, factsP, factsR, AV.facts, RW.facts, inK, and_true, Q.holds', E.i, E.s, E.n, D.nat, E.den, BO.den, UO.den, TO.den, D.toInt_int, D.toList_list, D.ints_ofInts, i64min, i64max, u8min, u8max, u16min, u16max, u32min, u32max, u64min, u64max, i32min, i32max, Om.sub, selI, ints_app, ints_cut, ints_upd, ints_rep, ints_splice, ints_seg, len_ints]
        omega
      ·have cn := cuts_no (x := (d 2).ints) (o := (d 3).toInt) (t := (d 4).toInt) (i := (d 0).toInt) (n := (d 1).toInt) (by omega) (by omega)
       rw [cn] at pf
       have ci := cuts_in (x := (d 2).ints) (o := (d 3).toInt) (t := (d 4).toInt) (i := (d 0).toInt + 1) (n := 0) (by omega) (by omega)
       refine ⟨tellA eB11_t2, tellA_ok (allTold'_iff.1 ?_), .inr ⟨3, eB11_h2, _, _, by decide, eB11_y2, dutiesTold_ok ?_, allTold'_iff.1 ?_, ?_⟩⟩
       ·simp only [eB11_t2, er, hw, allTold', dutiesTold, factsA, factsC, factsP, factsR, AV.facts, RW.facts, inK, and_true, Q.holds', E.i, E.s, E.n, D.nat, E.den, BO.den, UO.den, TO.den, D.toInt_int, D.toList_list, D.ints_ofInts, i64min, i64max, u8min, u8max, u16min, u16max, u32min, u32max, u64min, u64max, i32min, i32max, Om.sub, selI, ints_app, ints_cut, ints_upd, ints_rep, ints_splice, ints_seg, len_ints]
        omega
       ·simp only [eB11_d2, F20, F21, F22, cn, hw, allTold', dutiesTold, factsA, factsC, factsP, factsR, AV.facts, RW.facts, inK, and_true, Q.holds', E.i, E.s, E.n, D.nat, E.den, BO.den, UO.den, TO.den, D.toInt_int, D.toList_list, D.ints_ofInts, i64min, i64max, u8min, u8max, u16min, u16max, u32min, u32max, u64min, u64max, i32min, i32max, Om.sub, selI, ints_app, ints_cut, ints_upd, ints_rep, ints_splice, ints_seg, len_ints]
        (try simp only [hy, ints_list, List.map_cons, List.map_append, List.map_nil, map_ints, getT, ofInts0, D.toList_list, D.toInt_int, D.ints_ofInts, List.cons_append, List.append_assoc, List.nil_append, List.length_cons]); first | done | (and_intros <;> first | exact True.intro | rfl | omega | exact last_cut3 (by omega) | assumption)
       ·simp only [eB, eB00, eB01, eB10, eB11, eB11_h2_0, eB11_h2_1, eB11_h2_2, eB11_h2_3, eB11_h2_4, eB11_h2_5, eB11_h2_6, eB11_h2_7, eB11_h2_8, eB11_h2_9, eB11_h2_10, eB11_h2_11, eB11_h2_12, F9, F11, F20, F21, er, hw, e6, e8, cn, allTold', dutiesTold, factsA, factsC, factsP, factsR, AV.facts, RW.facts, inK, and_true, Q.holds', E.i, E.s, E.n, D.nat, E.den, BO.den, UO.den, TO.den, D.toInt_int, D.toList_list, D.ints_ofInts, i64min, i64max, u8min, u8max, u16min, u16max, u32min, u32max, u64min, u64max, i32min, i32max, Om.sub, selI, ints_app, ints_cut, ints_upd, ints_rep, ints_splice, ints_seg, len_ints]
        first | done | (and_intros <;> first | exact True.intro | rfl | omega | exact hr.symm | assumption)
       ·simp only [eB11_h2_0, eB11_h2_1, eB11_h2_2, eB11_h2_3, eB11_h2_4, eB11_h2_5, eB11_h2_6, eB11_h2_7, eB11_h2_8, eB11_h2_9, eB11_h2_10, eB11_h2_11, eB11_h2_12, allTold', dutiesTold, factsA, factsC, factsP, factsR, AV.facts, RW.facts, inK, and_true, Q.holds', E.i, E.s, E.n, D.nat, E.den, BO.den, UO.den, TO.den, D.toInt_int, D.toList_list, D.ints_ofInts, i64min, i64max, u8min, u8max, u16min, u16max, u32min, u32max, u64min, u64max, i32min, i32max, Om.sub, selI, ints_app, ints_cut, ints_upd, ints_rep, ints_splice, ints_seg, len_ints]
        omega
theorem eB00_holds : LHolds Try.prog (loopAt Try.prog 34 [4, 1]) eB00 F := eB_holds 0 (by decide)
theorem eB01_holds : LHolds Try.prog (loopAt Try.prog 34 [4, 1]) eB01 F := eB_holds 1 (by decide)
theorem eB10_holds : LHolds Try.prog (loopAt Try.prog 34 [4, 1]) eB10 F := eB_holds 2 (by decide)
theorem eB11_holds : LHolds Try.prog (loopAt Try.prog 34 [4, 1]) eB11 F := eB_holds 3 (by decide)

noncomputable def eC00 : LSpec := { n := 41, next := 9, pat := [(0, .yieldf 5), (2, .ptr 13 0), (6, .sslice 17 (.var 3) (.var 4) (.var 5) false), (7, .sint .i64 (.var 4)), (8, .sint .i64 (.var 0))], rows := [(13, .cells 33 0 false false [.ptr 1 0]), (1, .cells 62 0 false false [.ptr 1 0, .bool true, .sint .u8 (.bi .sel (.var 7) (.int 0)), .sint .u8 (.bi .sel (.var 7) (.int 1)), .sint .u8 (.bi .sel (.var 7) (.int 2)), .sint .u8 (.bi .sel (.var 7) (.int 3)), .sint .u8 (.bi .sel (.var 7) (.int 4)), .sint .u8 (.bi .sel (.var 7) (.int 5)), .sint .u8 (.bi .sel (.var 7) (.int 6)), .sint .u8 (.bi .sel (.var 7) (.int 7)), .sint .u8 (.bi .sel (.var 7) (.int 8)), .sint .u8 (.bi .sel (.var 7) (.int 9)), .sint .u8 (.bi .sel (.var 7) (.int 10)), .sint .u8 (.bi .sel (.var 7) (.int 11)), .sint .u8 (.bi .sel (.var 7) (.int 12)), .sint .u8 (.bi .sel (.var 7) (.int 13)), .sint .u8 (.bi .sel (.var 7) (.int 14)), .sint .u8 (.bi .sel (.var 7) (.int 15)), .sint .i64 (.var 8), .sint .u32 (.var 9), .nilslice, .bool false]), (5, .loop [(2, .ptr 15 0), (3, .ptr 1 0)] 21 (rangeAt Try.prog 32 [4, 1, 0, 1, 1])), (15, .cells 31 0 false false [.yieldf 7]), (7, .loop [(3, .ptr 9 0)] 14 (rangeAt Try.prog 19 [4, 1, 0, 1, 1])), (9, .cells 32 0 false false [.nilslice]), (17, .eseq ⟨.u8, .var 6, .var 2⟩)], pre := [(.le (.int 0) (.var 0), true), (.le (.var 0) (.var 4), true), (.le (.int 0) (.var 3), true), (.le (.bi .add (.var 3) (.var 4)) (.var 6), true), (.le (.var 4) (.var 5), true), (.le (.var 4) (.int 20000), true), (.same (.var 7) (.fn 9 (.bi .pair (.var 2) (.bi .pair (.var 3) (.bi .pair (.bi .add (.var 0) (.int 1)) (.int 0))))), true), (.eq (.var 8) (.var 0), true), (.eq (.var 9) (.fn 11 (.bi .pair (.var 2) (.bi .pair (.var 3) (.bi .pair (.bi .add (.var 0) (.int 1)) (.int 0))))), true), (.le (.int 1) (.fn 21 (.bi .pair (.var 2) (.bi .pair (.var 3) (.bi .pair (.var 4) (.bi .pair (.var 0) (.bi .pair (.int 0) (.int 0))))))), true), (.le (.int 1) (.un .len (.fn 20 (.bi .pair (.var 2) (.bi .pair (.var 3) (.bi .pair (.var 4) (.bi .pair (.var 0) (.bi .pair (.int 0) (.int 0)))))))), true)], x := 0, fin := [], frows := [(13, .cells 33 0 false false [.ptr 1 0]), (1, .cells 62 0 false false [.ptr 1 0, .bool true, .sint .u8 (.bi .sel (.fn 9 (.bi .pair (.var 2) (.bi .pair (.var 3) (.bi .pair (.bi .add (.var 4) (.int 1)) (.int 0))))) (.int 0)), .sint .u8 (.bi .sel (.fn 9 (.bi .pair (.var 2) (.bi .pair (.var 3) (.bi .pair (.bi .add (.var 4) (.int 1)) (.int 0))))) (.int 1)), .sint .u8 (.bi .sel (.fn 9 (.bi .pair (.var 2) (.bi .pair (.var 3) (.bi .pair (.bi .add (.var 4) (.int 1)) (.int 0))))) (.int 2)), .sint .u8 (.bi .sel (.fn 9 (.bi .pair (.var 2) (.bi .pair (.var 3) (.bi .pair (.bi .add (.var 4) (.int 1)) (.int 0))))) (.int 3)), .sint .u8 (.bi .sel (.fn 9 (.bi .pair (.var 2) (.bi .pair (.var 3) (.bi .pair (.bi .add (.var 4) (.int 1)) (.int 0))))) (.int 4)), .sint .u8 (.bi .sel (.fn 9 (.bi .pair (.var 2) (.bi .pair (.var 3) (.bi .pair (.bi .add (.var 4) (.int 1)) (.int 0))))) (.int 5)), .sint .u8 (.bi .sel (.fn 9 (.bi .pair (.var 2) (.bi .pair (.var 3) (.bi .pair (.bi .add (.var 4) (.int 1)) (.int 0))))) (.int 6)), .sint .u8 (.bi .sel (.fn 9 (.bi .pair (.var 2) (.bi .pair (.var 3) (.bi .pair (.bi .add (.var 4) (.int 1)) (.int 0))))) (.int 7)), .sint .u8 (.bi .sel (.fn 9 (.bi .pair (.var 2) (.bi .pair (.var 3) (.bi .pair (.bi .add (.var 4) (.int 1)) (.int 0))))) (.int 8)), .sint .u8 (.bi .sel (.fn 9 (.bi .pair (.var 2) (.bi .pair (.var 3) (.bi .pair (.bi .add (.var 4) (.int 1)) (.int 0))))) (.int 9)), .sint .u8 (.bi .sel (.fn 9 (.bi .pair (.var 2) (.bi .pair (.var 3) (.bi .pair (.bi .add (.var 4) (.int 1)) (.int 0))))) (.int 10)), .sint .u8 (.bi .sel (.fn 9 (.bi .pair (.var 2) (.bi .pair (.var 3) (.bi .pair (.bi .add (.var 4) (.int 1)) (.int 0))))) (.int 11)), .sint .u8 (.bi .sel (.fn 9 (.bi .pair (.var 2) (.bi .pair (.var 3) (.bi .pair (.bi .add (.var 4) (.int 1)) (.int 0))))) (.int 12)), .sint .u8 (.bi .sel (.fn 9 (.bi .pair (.var 2) (.bi .pair (.var 3) (.bi .pair (.bi .add (.var 4) (.int 1)) (.int 0))))) (.int 13)), .sint .u8 (.bi .sel (.fn 9 (.bi .pair (.var 2) (.bi .pair (.var 3) (.bi .pair (.bi .add (.var 4) (.int 1)) (.int 0))))) (.int 14)), .sint .u8 (.bi .sel (.fn 9 (.bi .pair (.var 2) (.bi .pair (.var 3) (.bi .pair (.bi .add (.var 4) (.int 1)) (.int 0))))) (.int 15)), .sint .i64 (.var 4), .sint .u32 (.fn 11 (.bi .pair (.var 2) (.bi .pair (.var 3) (.bi .pair (.bi .add (.var 4) (.int 1)) (.int 0))))), .sslice 3 (.int 0) (.fn 21 (.bi .pair (.var 2) (.bi .pair (.var 3) (.bi .pair (.var 4) (.bi .pair (.var 0) (.bi .pair (.int 0) (.int 0))))))) (.fn 21 (.bi .pair (.var 2) (.bi .pair (.var 3) (.bi .pair (.var 4) (.bi .pair (.var 0) (.bi .pair (.int 0) (.int 0))))))) true, .bool false]), (5, .loop [(2, .ptr 15 0), (3, .ptr 1 0)] 21 (rangeAt Try.prog 32 [4, 1, 0, 1, 1])), (15, .cells 31 0 false false [.yieldf 7]), (7, .loop [(3, .ptr 9 0)] 14 (rangeAt Try.prog 19 [4, 1, 0, 1, 1])), (9, .cells 32 0 false false [.sslice 11 (.int 0) (.un .len (.fn 20 (.bi .pair (.var 2) (.bi .pair (.var 3) (.bi .pair (.var 4) (.bi .pair (.var 0) (.bi .pair (.int 0) (.int 0)))))))) (.un .len (.fn 20 (.bi .pair (.var 2) (.bi .pair (.var 3) (.bi .pair (.var 4) (.bi .pair (.var 0) (.bi .pair (.int 0) (.int 0)))))))) true]), (3, .seq ⟨5, .u8, .fn 21 (.bi .pair (.var 2) (.bi .pair (.var 3) (.bi .pair (.var 4) (.bi .pair (.var 0) (.bi .pair (.int 0) (.int 0)))))), .fn 22 (.bi .pair (.var 2) (.bi .pair (.var 3) (.bi .pair (.var 4) (.bi .pair (.var 0) (.bi .pair (.int 0) (.bi .pair (.lits []) (.int 0))))))), true, false⟩), (11, .seq ⟨3, .i64, .un .len (.fn 20 (.bi .pair (.var 2) (.bi .pair (.var 3) (.bi .pair (.var 4) (.bi .pair (.var 0) (.bi .pair (.int 0) (.int 0))))))), .fn 20 (.bi .pair (.var 2) (.bi .pair (.var 3) (.bi .pair (.var 4) (.bi .pair (.var 0) (.bi .pair (.int 0) (.int 0)))))), true, false⟩)], same := [1, 5, 7, 9, 13, 15], chg := [0, 2, 5, 6, 7, 8, 9, 10, 11, 12, 13, 14, 15, 16, 17, 18, 19, 20, 21, 22, 23, 24, 25, 26, 27, 28, 29, 30, 31, 32, 33, 34, 35, 36, 37, 38, 39, 40] }
noncomputable def eC01 : LSpec := { n := 41, next := 9, pat := [(0, .yieldf 5), (2, .ptr 13 0), (6, .sslice 17 (.var 3) (.var 4) (.var 5) false), (7, .sint .i64 (.var 4)), (8, .sint .i64 (.var 0))], rows := [(13, .cells 33 0 false false [.ptr 1 0]), (1, .cells 62 0 false false [.ptr 1 0, .bool true, .sint .u8 (.bi .sel (.var 7) (.int 0)), .sint .u8 (.bi .sel (.var 7) (.int 1)), .sint .u8 (.bi .sel (.var 7) (.int 2)), .sint .u8 (.bi .sel (.var 7) (.int 3)), .sint .u8 (.bi .sel (.var 7) (.int 4)), .sint .u8 (.bi .sel (.var 7) (.int 5)), .sint .u8 (.bi .sel (.var 7) (.int 6)), .sint .u8 (.bi .sel (.var 7) (.int 7)), .sint .u8 (.bi .sel (.var 7) (.int 8)), .sint .u8 (.bi .sel (.var 7) (.int 9)), .sint .u8 (.bi .sel (.var 7) (.int 10)), .sint .u8 (.bi .sel (.var 7) (.int 11)), .sint .u8 (.bi .sel (.var 7) (.int 12)), .sint .u8 (.bi .sel (.var 7) (.int 13)), .sint .u8 (.bi .sel (.var 7) (.int 14)), .sint .u8 (.bi .sel (.var 7) (.int 15)), .sint .i64 (.var 8), .sint .u32 (.var 9), .nilslice, .bool false]), (5, .loop [(2, .ptr 15 0), (3, .ptr 1 0)] 21 (rangeAt Try.prog 32 [4, 1, 0, 1, 1])), (15, .cells 31 0 false false [.yieldf 7]), (7, .loop [(3, .ptr 9 0)] 14 (rangeAt Try.prog 19 [4, 1, 0, 1, 1])), (9, .cells 32 0 false false [.sslice 11 (.int 0) (.var 11) (.var 11) true]), (17, .eseq ⟨.u8, .var 6, .var 2⟩), (11, .seq ⟨3, .i64, .var 11, .var 12, true, false⟩)], pre := [(.le (.int 0) (.var 0), true), (.le (.var 0) (.var 4), true), (.le (.int 0) (.var 3), true), (.le (.bi .add (.var 3) (.var 4)) (.var 6), true), (.le (.var 4) (.var 5), true), (.le (.var 4) (.int 20000), true), (.same (.var 7) (.fn 9 (.bi .pair (.var 2) (.bi .pair (.var 3) (.bi .pair (.bi .add (.var 0) (.int 1)) (.int 0))))), true), (.eq (.var 8) (.var 0), true), (.eq (.var 9) (.fn 11 (.bi .pair (.var 2) (.bi .pair (.var 3) (.bi .pair (.bi .add (.var 0) (.int 1)) (.int 0))))), true), (.le (.int 1) (.var 11), true), (.le (.var 11) (.var 0), true), (.le (.int 1) (.fn 21 (.bi .pair (.var 2) (.bi .pair (.var 3) (.bi .pair (.var 4) (.bi .pair (.var 0) (.bi .pair (.int 0) (.int 0))))))), true)], x := 0, fin := [], frows := [(13, .cells 33 0 false false [.ptr 1 0]), (1, .cells 62 0 false false [.ptr 1 0, .bool true, .sint .u8 (.bi .sel (.fn 9 (.bi .pair (.var 2) (.bi .pair (.var 3) (.bi .pair (.bi .add (.var 4) (.int 1)) (.int 0))))) (.int 0)), .sint .u8 (.bi .sel (.fn 9 (.bi .pair (.var 2) (.bi .pair (.var 3) (.bi .pair (.bi .add (.var 4) (.int 1)) (.int 0))))) (.int 1)), .sint .u8 (.bi .sel (.fn 9 (.bi .pair (.var 2) (.bi .pair (.var 3) (.bi .pair (.bi .add (.var 4) (.int 1)) (.int 0))))) (.int 2)), .sint .u8 (.bi .sel (.fn 9 (.bi .pair (.var 2) (.bi .pair (.var 3) (.bi .pair (.bi .add (.var 4) (.int 1)) (.int 0))))) (.int 3)), .sint .u8 (.bi .sel (.fn 9 (.bi .pair (.var 2) (.bi .pair (.var 3) (.bi .pair (.bi .add (.var 4) (.int 1)) (.int 0))))) (.int 4)), .sint .u8 (.bi .sel (.fn 9 (.bi .pair (.var 2) (.bi .pair (.var 3) (.bi .pair (.bi .add (.var 4) (.int 1)) (.int 0))))) (.int 5)), .sint .u8 (.bi .sel (.fn 9 (.bi .pair (.var 2) (.bi .pair (.var 3) (.bi .pair (.bi .add (.var 4) (.int 1)) (.int 0))))) (.int 6)), .sint .u8 (.bi .sel (.fn 9 (.bi .pair (.var 2) (.bi .pair (.var 3) (.bi .pair (.bi .add (.var 4) (.int 1)) (.int 0))))) (.int 7)), .sint .u8 (.bi .sel (.fn 9 (.bi .pair (.var 2) (.bi .pair (.var 3) (.bi .pair (.bi .add (.var 4) (.int 1)) (.int 0))))) (.int 8)), .sint .u8 (.bi .sel (.fn 9 (.bi .pair (.var 2) (.bi .pair (.var 3) (.bi .pair (.bi .add (.var 4) (.int 1)) (.int 0))))) (.int 9)), .sint .u8 (.bi .sel (.fn 9 (.bi .pair (.var 2) (.bi .pair (.var 3) (.bi .pair (.bi .add (.var 4) (.int 1)) (.int 0))))) (.int 10)), .sint .u8 (.bi .sel (.fn 9 (.bi .pair (.var 2) (.bi .pair (.var 3) (.bi .pair (.bi .add (.var 4) (.int 1)) (.int 0))))) (.int 11)), .sint .u8 (.bi .sel (.fn 9 (.bi .pair (.var 2) (.bi .pair (.var 3) (.bi .pair (.bi .add (.var 4) (.int 1)) (.int 0))))) (.int 12)), .sint .u8 (.bi .sel (.fn 9 (.bi .pair (.var 2) (.bi .pair (.var 3) (.bi .pair (.bi .add (.var 4) (.int 1)) (.int 0))))) (.int 13)), .sint .u8 (.bi .sel (.fn 9 (.bi .pair (.var 2) (.bi .pair (.var 3) (.bi .pair (.bi .add (.var 4) (.int 1)) (.int 0))))) (.int 14)), .sint .u8 (.bi .sel (.fn 9 (.bi .pair (.var 2) (.bi .pair (.var 3) (.bi .pair (.bi .add (.var 4) (.int 1)) (.int 0))))) (.int 15)), .sint .i64 (.var 4), .sint .u32 (.fn 11 (.bi .pair (.var 2) (.bi .pair (.var 3) (.bi .pair (.bi .add (.var 4) (.int 1)) (.int 0))))), .sslice 3 (.int 0) (.fn 21 (.bi .pair (.var 2) (.bi .pair (.var 3) (.bi .pair (.var 4) (.bi .pair (.var 0) (.bi .pair (.int 0) (.int 0))))))) (.fn 21 (.bi .pair (.var 2) (.bi .pair (.var 3) (.bi .pair (.var 4) (.bi .pair (.var 0) (.bi .pair (.int 0) (.int 0))))))) true, .bool false]), (5, .loop [(2, .ptr 15 0), (3, .ptr 1 0)] 21 (rangeAt Try.prog 32 [4, 1, 0, 1, 1])), (15, .cells 31 0 false false [.yieldf 7]), (7, .loop [(3, .ptr 9 0)] 14 (rangeAt Try.prog 19 [4, 1, 0, 1, 1])), (9, .cells 32 0 false false [.sslice 11 (.int 0) (.bi .add (.var 11) (.un .len (.fn 20 (.bi .pair (.var 2) (.bi .pair (.var 3) (.bi .pair (.var 4) (.bi .pair (.var 0) (.bi .pair (.int 0) (.int 0))))))))) (.bi .add (.var 11) (.un .len (.fn 20 (.bi .pair (.var 2) (.bi .pair (.var 3) (.bi .pair (.var 4) (.bi .pair (.var 0) (.bi .pair (.int 0) (.int 0))))))))) true]), (3, .seq ⟨5, .u8, .fn 21 (.bi .pair (.var 2) (.bi .pair (.var 3) (.bi .pair (.var 4) (.bi .pair (.var 0) (.bi .pair (.int 0) (.int 0)))))), .fn 22 (.bi .pair (.var 2) (.bi .pair (.var 3) (.bi .pair (.var 4) (.bi .pair (.var 0) (.bi .pair (.int 0) (.bi .pair (.lits []) (.int 0))))))), true, false⟩), (11, .seq ⟨3, .i64, .bi .add (.var 11) (.un .len (.fn 20 (.bi .pair (.var 2) (.bi .pair (.var 3) (.bi .pair (.var 4) (.bi .pair (.var 0) (.bi .pair (.int 0) (.int 0)))))))), .bi .app (.var 12) (.fn 20 (.bi .pair (.var 2) (.bi .pair (.var 3) (.bi .pair (.var 4) (.bi .pair (.var 0) (.bi .pair (.int 0) (.int 0))))))), true, false⟩)], same := [1, 5, 7, 9, 13, 15], chg := [0, 2, 5, 6, 7, 8, 9, 10, 11, 12, 13, 14, 15, 16, 17, 18, 19, 20, 21, 22, 23, 24, 25, 26, 27, 28, 29, 30, 31, 32, 33, 34, 35, 36, 37, 38, 39, 40] }
noncomputable def eC10 : LSpec := { n := 41, next := 9, pat := [(0, .yieldf 5), (2, .ptr 13 0), (6, .sslice 17 (.var 3) (.var 4) (.var 5) false), (7, .sint .i64 (.var 4)), (8, .sint .i64 (.var 0))], rows := [(13, .cells 33 0 false false [.ptr 1 0]), (1, .cells 62 0 false false [.ptr 1 0, .bool true, .sint .u8 (.bi .sel (.var 7) (.int 0)), .sint .u8 (.bi .sel (.var 7) (.int 1)), .sint .u8 (.bi .sel (.var 7) (.int 2)), .sint .u8 (.bi .sel (.var 7) (.int 3)), .sint .u8 (.bi .sel (.var 7) (.int 4)), .sint .u8 (.bi .sel (.var 7) (.int 5)), .sint .u8 (.bi .sel (.var 7) (.int 6)), .sint .u8 (.bi .sel (.var 7) (.int 7)), .sint .u8 (.bi .sel (.var 7) (.int 8)), .sint .u8 (.bi .sel (.var 7) (.int 9)), .sint .u8 (.bi .sel (.var 7) (.int 10)), .sint .u8 (.bi .sel (.var 7) (.int 11)), .sint .u8 (.bi .sel (.var 7) (.int 12)), .sint .u8 (.bi .sel (.var 7) (.int 13)), .sint .u8 (.bi .sel (.var 7) (.int 14)), .sint .u8 (.bi .sel (.var 7) (.int 15)), .sint .i64 (.var 8), .sint .u32 (.var 9), .sslice 3 (.int 0) (.var 1) (.var 1) true, .bool false]), (5, .loop [(2, .ptr 15 0), (3, .ptr 1 0)] 21 (rangeAt Try.prog 32 [4, 1, 0, 1, 1])), (15, .cells 31 0 false false [.yieldf 7]), (7, .loop [(3, .ptr 9 0)] 14 (rangeAt Try.prog 19 [4, 1, 0, 1, 1])), (9, .cells 32 0 false false [.nilslice]), (17, .eseq ⟨.u8, .var 6, .var 2⟩), (3, .seq ⟨5, .u8, .var 1, .var 10, true, false⟩)], pre := [(.le (.int 0) (.var 0), true), (.le (.var 0) (.var 4), true), (.le (.int 0) (.var 3), true), (.le (.bi .add (.var 3) (.var 4)) (.var 6), true), (.le (.var 4) (.var 5), true), (.le (.var 4) (.int 20000), true), (.same (.var 7) (.fn 9 (.bi .pair (.var 2) (.bi .pair (.var 3) (.bi .pair (.bi .add (.var 0) (.int 1)) (.int 0))))), true), (.eq (.var 8) (.var 0), true), (.eq (.var 9) (.fn 11 (.bi .pair (.var 2) (.bi .pair (.var 3) (.bi .pair (.bi .add (.var 0) (.int 1)) (.int 0))))), true), (.le (.int 1) (.var 1), true), (.le (.var 1) (.int 1023), true), (.le (.var 1) (.var 0), true), (.le (.int 1) (.fn 21 (.bi .pair (.var 2) (.bi .pair (.var 3) (.bi .pair (.var 4) (.bi .pair (.var 0) (.bi .pair (.var 1) (.int 0))))))), true), (.le (.int 1) (.un .len (.fn 20 (.bi .pair (.var 2) (.bi .pair (.var 3) (.bi .pair (.var 4) (.bi .pair (.var 0) (.bi .pair (.var 1) (.int 0)))))))), true)], x := 0, fin := [], frows := [(13, .cells 33 0 false false [.ptr 1 0]), (1, .cells 62 0 false false [.ptr 1 0, .bool true, .sint .u8 (.bi .sel (.fn 9 (.bi .pair (.var 2) (.bi .pair (.var 3) (.bi .pair (.bi .add (.var 4) (.int 1)) (.int 0))))) (.int 0)), .sint .u8 (.bi .sel (.fn 9 (.bi .pair (.var 2) (.bi .pair (.var 3) (.bi .pair (.bi .add (.var 4) (.int 1)) (.int 0))))) (.int 1)), .sint .u8 (.bi .sel (.fn 9 (.bi .pair (.var 2) (.bi .pair (.var 3) (.bi .pair (.bi .add (.var 4) (.int 1)) (.int 0))))) (.int 2)), .sint .u8 (.bi .sel (.fn 9 (.bi .pair (.var 2) (.bi .pair (.var 3) (.bi .pair (.bi .add (.var 4) (.int 1)) (.int 0))))) (.int 3)), .sint .u8 (.bi .sel (.fn 9 (.bi .pair (.var 2) (.bi .pair (.var 3) (.bi .pair (.bi .add (.var 4) (.int 1)) (.int 0))))) (.int 4)), .sint .u8 (.bi .sel (.fn 9 (.bi .pair (.var 2) (.bi .pair (.var 3) (.bi .pair (.bi .add (.var 4) (.int 1)) (.int 0))))) (.int 5)), .sint .u8 (.bi .sel (.fn 9 (.bi .pair (.var 2) (.bi .pair (.var 3) (.bi .pair (.bi .add (.var 4) (.int 1)) (.int 0))))) (.int 6)), .sint .u8 (.bi .sel (.fn 9 (.bi .pair (.var 2) (.bi .pair (.var 3) (.bi .pair (.bi .add (.var 4) (.int 1)) (.int 0))))) (.int 7)), .sint .u8 (.bi .sel (.fn 9 (.bi .pair (.var 2) (.bi .pair (.var 3) (.bi .pair (.bi .add (.var 4) (.int 1)) (.int 0))))) (.int 8)), .sint .u8 (.bi .sel (.fn 9 (.bi .pair (.var 2) (.bi .pair (.var 3) (.bi .pair (.bi .add (.var 4) (.int 1)) (.int 0))))) (.int 9)), .sint .u8 (.bi .sel (.fn 9 (.bi .pair (.var 2) (.bi .pair (.var 3) (.bi .pair (.bi .add (.var 4) (.int 1)) (.int 0))))) (.int 10)), .sint .u8 (.bi .sel (.fn 9 (.bi .pair (.var 2) (.bi .pair (.var 3) (.bi .pair (.bi .add (.var 4) (.int 1)) (.int 0))))) (.int 11)), .sint .u8 (.bi .sel (.fn 9 (.bi .pair (.var 2) (.bi .pair (.var 3) (.bi .pair (.bi .add (.var 4) (.int 1)) (.int 0))))) (.int 12)), .sint .u8 (.bi .sel (.fn 9 (.bi .pair (.var 2) (.bi .pair (.var 3) (.bi .pair (.bi .add (.var 4) (.int 1)) (.int 0))))) (.int 13)), .sint .u8 (.bi .sel (.fn 9 (.bi .pair (.var 2) (.bi .pair (.var 3) (.bi .pair (.bi .add (.var 4) (.int 1)) (.int 0))))) (.int 14)), .sint .u8 (.bi .sel (.fn 9 (.bi .pair (.var 2) (.bi .pair (.var 3) (.bi .pair (.bi .add (.var 4) (.int 1)) (.int 0))))) (.int 15)), .sint .i64 (.var 4), .sint .u32 (.fn 11 (.bi .pair (.var 2) (.bi .pair (.var 3) (.bi .pair (.bi .add (.var 4) (.int 1)) (.int 0))))), .sslice 3 (.int 0) (.fn 21 (.bi .pair (.var 2) (.bi .pair (.var 3) (.bi .pair (.var 4) (.bi .pair (.var 0) (.bi .pair (.var 1) (.int 0))))))) (.fn 21 (.bi .pair (.var 2) (.bi .pair (.var 3) (.bi .pair (.var 4) (.bi .pair (.var 0) (.bi .pair (.var 1) (.int 0))))))) true, .bool false]), (5, .loop [(2, .ptr 15 0), (3, .ptr 1 0)] 21 (rangeAt Try.prog 32 [4, 1, 0, 1, 1])), (15, .cells 31 0 false false [.yieldf 7]), (7, .loop [(3, .ptr 9 0)] 14 (rangeAt Try.prog 19 [4, 1, 0, 1, 1])), (9, .cells 32 0 false false [.sslice 11 (.int 0) (.un .len (.fn 20 (.bi .pair (.var 2) (.bi .pair (.var 3) (.bi .pair (.var 4) (.bi .pair (.var 0) (.bi .pair (.var 1) (.int 0)))))))) (.un .len (.fn 20 (.bi .pair (.var 2) (.bi .pair (.var 3) (.bi .pair (.var 4) (.bi .pair (.var 0) (.bi .pair (.var 1) (.int 0)))))))) true]), (3, .seq ⟨5, .u8, .fn 21 (.bi .pair (.var 2) (.bi .pair (.var 3) (.bi .pair (.var 4) (.bi .pair (.var 0) (.bi .pair (.var 1) (.int 0)))))), .fn 22 (.bi .pair (.var 2) (.bi .pair (.var 3) (.bi .pair (.var 4) (.bi .pair (.var 0) (.bi .pair (.var 1) (.bi .pair (.var 10) (.int 0))))))), true, false⟩), (11, .seq ⟨3, .i64, .un .len (.fn 20 (.bi .pair (.var 2) (.bi .pair (.var 3) (.bi .pair (.var 4) (.bi .pair (.var 0) (.bi .pair (.var 1) (.int 0))))))), .fn 20 (.bi .pair (.var 2) (.bi .pair (.var 3) (.bi .pair (.var 4) (.bi .pair (.var 0) (.bi .pair (.var 1) (.int 0)))))), true, false⟩)], same := [1, 5, 7, 9, 13, 15], chg := [0, 2, 5, 6, 7, 8, 9, 10, 11, 12, 13, 14, 15, 16, 17, 18, 19, 20, 21, 22, 23, 24, 25, 26, 27, 28, 29, 30, 31, 32, 33, 34, 35, 36, 37, 38, 39, 40] }
noncomputable def eC11 : LSpec := { n := 41, next := 9, pat := [(0, .yieldf 5), (2, .ptr 13 0), (6, .sslice 17 (.var 3) (.var 4) (.var 5) false), (7, .sint .i64 (.var 4)), (8, .sint .i64 (.var 0))], rows := [(13, .cells 33 0 false false [.ptr 1 0]), (1, .cells 62 0 false false [.ptr 1 0, .bool true, .sint .u8 (.bi .sel (.var 7) (.int 0)), .sint .u8 (.bi .sel (.var 7) (.int 1)), .sint .u8 (.bi .sel (.var 7) (.int 2)), .sint .u8 (.bi .sel (.var 7) (.int 3)), .sint .u8 (.bi .sel (.var 7) (.int 4)), .sint .u8 (.bi .sel (.var 7) (.int 5)), .sint .u8 (.bi .sel (.var 7) (.int 6)), .sint .u8 (.bi .sel (.var 7) (.int 7)), .sint .u8 (.bi .sel (.var 7) (.int 8)), .sint .u8 (.bi .sel (.var 7) (.int 9)), .sint .u8 (.bi .sel (.var 7) (.int 10)), .sint .u8 (.bi .sel (.var 7) (.int 11)), .sint .u8 (.bi .sel (.var 7) (.int 12)), .sint .u8 (.bi .sel (.var 7) (.int 13)), .sint .u8 (.bi .sel (.var 7) (.int 14)), .sint .u8 (.bi .sel (.var 7) (.int 15)), .sint .i64 (.var 8), .sint .u32 (.var 9), .sslice 3 (.int 0) (.var 1) (.var 1) true, .bool false]), (5, .loop [(2, .ptr 15 0), (3, .ptr 1 0)] 21 (rangeAt Try.prog 32 [4, 1, 0, 1, 1])), (15, .cells 31 0 false false [.yieldf 7]), (7, .loop [(3, .ptr 9 0)] 14 (rangeAt Try.prog 19 [4, 1, 0, 1, 1])), (9, .cells 32 0 false false [.sslice 11 (.int 0) (.var 11) (.var 11) true]), (17, .eseq ⟨.u8, .var 6, .var 2⟩), (3, .seq ⟨5, .u8, .var 1, .var 10, true, false⟩), (11, .seq ⟨3, .i64, .var 11, .var 12, true, false⟩)], pre := [(.le (.int 0) (.var 0), true), (.le (.var 0) (.var 4), true), (.le (.int 0) (.var 3), true), (.le (.bi .add (.var 3) (.var 4)) (.var 6), true), (.le (.var 4) (.var 5), true), (.le (.var 4) (.int 20000), true), (.same (.var 7) (.fn 9 (.bi .pair (.var 2) (.bi .pair (.var 3) (.bi .pair (.bi .add (.var 0) (.int 1)) (.int 0))))), true), (.eq (.var 8) (.var 0), true), (.eq (.var 9) (.fn 11 (.bi .pair (.var 2) (.bi .pair (.var 3) (.bi .pair (.bi .add (.var 0) (.int 1)) (.int 0))))), true), (.le (.int 1) (.var 1), true), (.le (.var 1) (.int 1023), true), (.le (.var 1) (.var 0), true), (.le (.int 1) (.var 11), true), (.le (.var 11) (.var 0), true), (.le (.int 1) (.fn 21 (.bi .pair (.var 2) (.bi .pair (.var 3) (.bi .pair (.var 4) (.bi .pair (.var 0) (.bi .pair (.var 1) (.int 0))))))), true)], x := 0, fin := [], frows := [(13, .cells 33 0 false false [.ptr 1 0]), (1, .cells 62 0 false false [.ptr 1 0, .bool true, .sint .u8 (.bi .sel (.fn 9 (.bi .pair (.var 2) (.bi .pair (.var 3) (.bi .pair (.bi .add (.var 4) (.int 1)) (.int 0))))) (.int 0)), .sint .u8 (.bi .sel (.fn 9 (.bi .pair (.var 2) (.bi .pair (.var 3) (.bi .pair (.bi .add (.var 4) (.int 1)) (.int 0))))) (.int 1)), .sint .u8 (.bi .sel (.fn 9 (.bi .pair (.var 2) (.bi .pair (.var 3) (.bi .pair (.bi .add (.var 4) (.int 1)) (.int 0))))) (.int 2)), .sint .u8 (.bi .sel (.fn 9 (.bi .pair (.var 2) (.bi .pair (.var 3) (.bi .pair (.bi .add (.var 4) (.int 1)) (.int 0))))) (.int 3)), .sint .u8 (.bi .sel (.fn 9 (.bi .pair (.var 2) (.bi .pair (.var 3) (.bi .pair (.bi .add (.var 4) (.int 1)) (.int 0))))) (.int 4)), .sint .u8 (.bi .sel (.fn 9 (.bi .pair (.var 2) (.bi .pair (.var 3) (.bi .pair (.bi .add (.var 4) (.int 1)) (.int 0))))) (.int 5)), .sint .u8 (.bi .sel (.fn 9 (.bi .pair (.var 2) (.bi .pair (.var 3) (.bi .pair (.bi .add (.var 4) (.int 1)) (.int 0))))) (.int 6)), .sint .u8 (.bi .sel (.fn 9 (.bi .pair (.var 2) (.bi .pair (.var 3) (.bi .pair (.bi .add (.var 4) (.int 1)) (.int 0))))) (.int 7)), .sint .u8 (.bi .sel (.fn 9 (.bi .pair (.var 2) (.bi .pair (.var 3) (.bi .pair (.bi .add (.var 4) (.int 1)) (.int 0))))) (.int 8)), .sint .u8 (.bi .sel (.fn 9 (.bi .pair (.var 2) (.bi .pair (.var 3) (.bi .pair (.bi .add (.var 4) (.int 1)) (.int 0))))) (.int 9)), .sint .u8 (.bi .sel (.fn 9 (.bi .pair (.var 2) (.bi .pair (.var 3) (.bi .pair (.bi .add (.var 4) (.int 1)) (.int 0))))) (.int 10)), .sint .u8 (.bi .sel (.fn 9 (.bi .pair (.var 2) (.bi .pair (.var 3) (.bi .pair (.bi .add (.var 4) (.int 1)) (.int 0))))) (.int 11)), .sint .u8 (.bi .sel (.fn 9 (.bi .pair (.var 2) (.bi .pair (.var 3) (.bi .pair (.bi .add (.var 4) (.int 1)) (.int 0))))) (.int 12)), .sint .u8 (.bi .sel (.fn 9 (.bi .pair (.var 2) (.bi .pair (.var 3) (.bi .pair (.bi .add (.var 4) (.int 1)) (.int 0))))) (.int 13)), .sint .u8 (.bi .sel (.fn 9 (.bi .pair (.var 2) (.bi .pair (.var 3) (.bi .pair (.bi .add (.var 4) (.int 1)) (.int 0))))) (.int 14)), .sint .u8 (.bi .sel (.fn 9 (.bi .pair (.var 2) (.bi .pair (.var 3) (.bi .pair (.bi .add (.var 4) (.int 1)) (.int 0))))) (.int 15)), .sint .i64 (.var 4), .sint .u32 (.fn 11 (.bi .pair (.var 2) (.bi .pair (.var 3) (.bi .pair (.bi .add (.var 4) (.int 1)) (.int 0))))), .sslice 3 (.int 0) (.fn 21 (.bi .pair (.var 2) (.bi .pair (.var 3) (.bi .pair (.var 4) (.bi .pair (.var 0) (.bi .pair (.var 1) (.int 0))))))) (.fn 21 (.bi .pair (.var 2) (.bi .pair (.var 3) (.bi .pair (.var 4) (.bi .pair (.var 0) (.bi .pair (.var 1) (.int 0))))))) true, .bool false]), (5, .loop [(2, .ptr 15 0), (3, .ptr 1 0)] 21 (rangeAt Try.prog 32 [4, 1, 0, 1, 1])), (15, .cells 31 0 false false [.yieldf 7]), (7, .loop [(3, .ptr 9 0)] 14 (rangeAt Try.prog 19 [4, 1, 0, 1, 1])), (9, .cells 32 0 false false [.sslice 11 (.int 0) (.bi .add (.var 11) (.un .len (.fn 20 (.bi .pair (.var 2) (.bi .pair (.var 3) (.bi .pair (.var 4) (.bi .pair (.var 0) (.bi .pair (.var 1) (.int 0))))))))) (.bi .add (.var 11) (.un .len (.fn 20 (.bi .pair (.var 2) (.bi .pair (.var 3) (.bi .pair (.var 4) (.bi .pair (.var 0) (.bi .pair (.var 1) (.int 0))))))))) true]), (3, .seq ⟨5, .u8, .fn 21 (.bi .pair (.var 2) (.bi .pair (.var 3) (.bi .pair (.var 4) (.bi .pair (.var 0) (.bi .pair (.var 1) (.int 0)))))), .fn 22 (.bi .pair (.var 2) (.bi .pair (.var 3) (.bi .pair (.var 4) (.bi .pair (.var 0) (.bi .pair (.var 1) (.bi .pair (.var 10) (.int 0))))))), true, false⟩), (11, .seq ⟨3, .i64, .bi .add (.var 11) (.un .len (.fn 20 (.bi .pair (.var 2) (.bi .pair (.var 3) (.bi .pair (.var 4) (.bi .pair (.var 0) (.bi .pair (.var 1) (.int 0)))))))), .bi .app (.var 12) (.fn 20 (.bi .pair (.var 2) (.bi .pair (.var 3) (.bi .pair (.var 4) (.bi .pair (.var 0) (.bi .pair (.var 1) (.int 0))))))), true, false⟩)], same := [1, 5, 7, 9, 13, 15], chg := [0, 2, 5, 6, 7, 8, 9, 10, 11, 12, 13, 14, 15, 16, 17, 18, 19, 20, 21, 22, 23, 24, 25, 26, 27, 28, 29, 30, 31, 32, 33, 34, 35, 36, 37, 38, 39, 40] }
noncomputable def eC : Nat → LSpec
 | 0 => eC00
 | 1 => eC01
 | 2 => eC10
 | _ => eC11
def eC00_t0 : List (Q × Bool) := [asZa0, asZa1, asZa2, asZa3, asZa4, asZa5, asZa6, asZa7, asZa8, asZa9]
def eC00_d0 : List Duty := [(true, (.fn 21 (.bi .pair (.var 2) txZa21)), (.fn 21 (.bi .pair (.var 2) txZa13))), (true, (.fn 21 (.bi .pair (.var 2) txZa21)), (.fn 21 (.bi .pair (.var 2) txZa13))), (true, txZa34, txZa26), (true, txZa34, txZa26), (true, (.fn 21 (.bi .pair (.var 2) txZa21)), (.fn 21 (.bi .pair (.var 2) txZa13))), (false, (.fn 22 (.bi .pair (.var 2) txZa45)), (.fn 22 txZa30)), (true, txZa34, txZa26), (false, (.fn 20 (.bi .pair (.var 2) txZa21)), (.fn 20 (.bi .pair (.var 2) txZa13)))]
def eC00_h0 : List (Nat × E) := [(10, (.bi .app (.un .one txZa0) (.lits []))), (6, (.var 6)), (2, (.var 2)), (1, (.int 1)), (9, txZa47), (8, (.bi .add (.var 8) (.int 1))), (7, txZa20), (0, (.bi .add (.var 0) (.int 1))), (3, (.var 3)), (4, (.var 4)), (5, (.var 5))]
theorem eC00_h0_0 : lookE eC00_h0 0 = (.bi .add (.var 0) (.int 1)) := rfl
theorem eC00_h0_1 : lookE eC00_h0 1 = (.int 1) := rfl
theorem eC00_h0_2 : lookE eC00_h0 2 = (.var 2) := rfl
theorem eC00_h0_3 : lookE eC00_h0 3 = (.var 3) := rfl
theorem eC00_h0_4 : lookE eC00_h0 4 = (.var 4) := rfl
theorem eC00_h0_5 : lookE eC00_h0 5 = (.var 5) := rfl
theorem eC00_h0_6 : lookE eC00_h0 6 = (.var 6) := rfl
theorem eC00_h0_7 : lookE eC00_h0 7 = txZa20 := rfl
theorem eC00_h0_8 : lookE eC00_h0 8 = (.bi .add (.var 8) (.int 1)) := rfl
theorem eC00_h0_9 : lookE eC00_h0 9 = txZa47 := rfl
theorem eC00_h0_10 : lookE eC00_h0 10 = (.bi .app (.un .one txZa0) (.lits [])) := rfl
theorem eC00_y0 : nextJ (eC 0) (eC 2) eC00_h0 [(9, 9), (7, 7), (15, 15), (3, 21), (1, 1), (17, 17), (13, 13), (5, 5)] (roundC Try.prog [] [] [] 3000 40 34 [4, 1] (tellA eC00_t0) (eC 0)) = some eC00_d0 := by kernel_rfl
def eC00_t1 : List (Q × Bool) := [asZa0, asZa1, asZa2, asZa3, asZa4, asZa5, asZa10, asZa7, asZa8, asZa9]
def eC00_d1 : List Duty := [(true, (.fn 21 (.bi .pair (.var 2) txZa21)), (.fn 21 (.bi .pair (.var 2) txZa13))), (true, (.fn 21 (.bi .pair (.var 2) txZa21)), (.fn 21 (.bi .pair (.var 2) txZa13))), (true, txZa34, txZa26), (true, txZa34, txZa26), (true, (.fn 21 (.bi .pair (.var 2) txZa21)), (.fn 21 (.bi .pair (.var 2) txZa13))), (false, (.fn 22 (.bi .pair (.var 2) txZa45)), (.fn 22 txZa30)), (true, txZa34, txZa26), (false, (.fn 20 (.bi .pair (.var 2) txZa21)), (.fn 20 (.bi .pair (.var 2) txZa13)))]
def eC00_h1 : List (Nat × E) := [(10, (.bi .app (.un .one txZa0) (.lits []))), (6, (.var 6)), (2, (.var 2)), (1, (.int 1)), (9, (.bi (.iop .add .u32) txZa50 txZa33)), (8, (.bi .add (.var 8) (.int 1))), (7, txZa20), (0, (.bi .add (.var 0) (.int 1))), (3, (.var 3)), (4, (.var 4)), (5, (.var 5))]
theorem eC00_h1_0 : lookE eC00_h1 0 = (.bi .add (.var 0) (.int 1)) := rfl
theorem eC00_h1_1 : lookE eC00_h1 1 = (.int 1) := rfl
theorem eC00_h1_2 : lookE eC00_h1 2 = (.var 2) := rfl
theorem eC00_h1_3 : lookE eC00_h1 3 = (.var 3) := rfl
theorem eC00_h1_4 : lookE eC00_h1 4 = (.var 4) := rfl
theorem eC00_h1_5 : lookE eC00_h1 5 = (.var 5) := rfl
theorem eC00_h1_6 : lookE eC00_h1 6 = (.var 6) := rfl
theorem eC00_h1_7 : lookE eC00_h1 7 = txZa20 := rfl
theorem eC00_h1_8 : lookE eC00_h1 8 = (.bi .add (.var 8) (.int 1)) := rfl
theorem eC00_h1_9 : lookE eC00_h1 9 = (.bi (.iop .add .u32) txZa50 txZa33) := rfl
theorem eC00_h1_10 : lookE eC00_h1 10 = (.bi .app (.un .one txZa0) (.lits [])) := rfl
theorem eC00_y1 : nextJ (eC 0) (eC 2) eC00_h1 [(9, 9), (7, 7), (15, 15), (3, 21), (1, 1), (17, 17), (13, 13), (5, 5)] (roundC Try.prog [] [] [] 3000 40 34 [4, 1] (tellA eC00_t1) (eC 0)) = some eC00_d1 := by kernel_rfl
def eC01_t0 : List (Q × Bool) := [asZa0, asZa1, asZa2, asZa3, asZa4, asZa5, asZa6, asZa7, asZa8, asZa9]
def eC01_d0 : List Duty := [(true, (.fn 21 (.bi .pair (.var 2) txZa21)), (.fn 21 (.bi .pair (.var 2) txZa13))), (true, (.fn 21 (.bi .pair (.var 2) txZa21)), (.fn 21 (.bi .pair (.var 2) txZa13))), (true, (.bi .add (.var 11) txZa34), (.bi .add (.var 11) txZa26)), (true, (.bi .add (.var 11) txZa34), (.bi .add (.var 11) txZa26)), (true, (.fn 21 (.bi .pair (.var 2) txZa21)), (.fn 21 (.bi .pair (.var 2) txZa13))), (false, (.fn 22 (.bi .pair (.var 2) txZa45)), (.fn 22 txZa30)), (true, (.bi .add (.var 11) txZa34), (.bi .add (.var 11) txZa26)), (false, txZa36, txZa31)]
def eC01_h0 : List (Nat × E) := [(12, (.var 12)), (10, (.bi .app (.un .one txZa0) (.lits []))), (6, (.var 6)), (2, (.var 2)), (11, (.var 11)), (1, (.int 1)), (9, txZa47), (8, (.bi .add (.var 8) (.int 1))), (7, txZa20), (0, (.bi .add (.var 0) (.int 1))), (3, (.var 3)), (4, (.var 4)), (5, (.var 5))]
theorem eC01_h0_0 : lookE eC01_h0 0 = (.bi .add (.var 0) (.int 1)) := rfl
theorem eC01_h0_1 : lookE eC01_h0 1 = (.int 1) := rfl
theorem eC01_h0_2 : lookE eC01_h0 2 = (.var 2) := rfl
theorem eC01_h0_3 : lookE eC01_h0 3 = (.var 3) := rfl
theorem eC01_h0_4 : lookE eC01_h0 4 = (.var 4) := rfl
theorem eC01_h0_5 : lookE eC01_h0 5 = (.var 5) := rfl
theorem eC01_h0_6 : lookE eC01_h0 6 = (.var 6) := rfl
theorem eC01_h0_7 : lookE eC01_h0 7 = txZa20 := rfl
theorem eC01_h0_8 : lookE eC01_h0 8 = (.bi .add (.var 8) (.int 1)) := rfl
theorem eC01_h0_9 : lookE eC01_h0 9 = txZa47 := rfl
theorem eC01_h0_10 : lookE eC01_h0 10 = (.bi .app (.un .one txZa0) (.lits [])) := rfl
theorem eC01_h0_11 : lookE eC01_h0 11 = (.var 11) := rfl
theorem eC01_h0_12 : lookE eC01_h0 12 = (.var 12) := rfl
theorem eC01_y0 : nextJ (eC 1) (eC 3) eC01_h0 [(11, 11), (9, 9), (7, 7), (15, 15), (3, 21), (1, 1), (17, 17), (13, 13), (5, 5)] (roundC Try.prog [] [] [] 3000 40 34 [4, 1] (tellA eC01_t0) (eC 1)) = some eC01_d0 := by kernel_rfl
def eC01_t1 : List (Q × Bool) := [asZa0, asZa1, asZa2, asZa3, asZa4, asZa5, asZa10, asZa7, asZa8, asZa9]
def eC01_d1 : List Duty := [(true, (.fn 21 (.bi .pair (.var 2) txZa21)), (.fn 21 (.bi .pair (.var 2) txZa13))), (true, (.fn 21 (.bi .pair (.var 2) txZa21)), (.fn 21 (.bi .pair (.var 2) txZa13))), (true, (.bi .add (.var 11) txZa34), (.bi .add (.var 11) txZa26)), (true, (.bi .add (.var 11) txZa34), (.bi .add (.var 11) txZa26)), (true, (.fn 21 (.bi .pair (.var 2) txZa21)), (.fn 21 (.bi .pair (.var 2) txZa13))), (false, (.fn 22 (.bi .pair (.var 2) txZa45)), (.fn 22 txZa30)), (true, (.bi .add (.var 11) txZa34), (.bi .add (.var 11) txZa26)), (false, txZa36, txZa31)]
def eC01_h1 : List (Nat × E) := [(12, (.var 12)), (10, (.bi .app (.un .one txZa0) (.lits []))), (6, (.var 6)), (2, (.var 2)), (11, (.var 11)), (1, (.int 1)), (9, (.bi (.iop .add .u32) txZa50 txZa33)), (8, (.bi .add (.var 8) (.int 1))), (7, txZa20), (0, (.bi .add (.var 0) (.int 1))), (3, (.var 3)), (4, (.var 4)), (5, (.var 5))]
theorem eC01_h1_0 : lookE eC01_h1 0 = (.bi .add (.var 0) (.int 1)) := rfl
theorem eC01_h1_1 : lookE eC01_h1 1 = (.int 1) := rfl
theorem eC01_h1_2 : lookE eC01_h1 2 = (.var 2) := rfl
theorem eC01_h1_3 : lookE eC01_h1 3 = (.var 3) := rfl
theorem eC01_h1_4 : lookE eC01_h1 4 = (.var 4) := rfl
theorem eC01_h1_5 : lookE eC01_h1 5 = (.var 5) := rfl
theorem eC01_h1_6 : lookE eC01_h1 6 = (.var 6) := rfl
theorem eC01_h1_7 : lookE eC01_h1 7 = txZa20 := rfl
theorem eC01_h1_8 : lookE eC01_h1 8 = (.bi .add (.var 8) (.int 1)) := rfl
theorem eC01_h1_9 : lookE eC01_h1 9 = (.bi (.iop .add .u32) txZa50 txZa33) := rfl
theorem eC01_h1_10 : lookE eC01_h1 10 = (.bi .app (.un .one txZa0) (.lits [])) := rfl
theorem eC01_h1_11 : lookE eC01_h1 11 = (.var 11) := rfl
theorem eC01_h1_12 : lookE eC01_h1 12 = (.var 12) := rfl
theorem eC01_y1 : nextJ (eC 1) (eC 3) eC01_h1 [(11, 11), (9, 9), (7, 7), (15, 15), (3, 21), (1, 1), (17, 17), (13, 13), (5, 5)] (roundC Try.prog [] [] [] 3000 40 34 [4, 1] (tellA eC01_t1) (eC 1)) = some eC01_d1 := by kernel_rfl
def eC10_t0 : List (Q × Bool) := [asZa0, asZa1, asZa2, asZa3, asZa11, asZa12, asZa13, asZa4, asZa5, asZa6, asZa7, asZa8, asZa14, asZa15, asZa16, asZa9]
def eC10_d0 : List Duty := [(true, (.fn 21 (.bi .pair (.var 2) txZa25)), (.fn 21 (.bi .pair (.var 2) txZa14))), (true, (.fn 21 (.bi .pair (.var 2) txZa25)), (.fn 21 (.bi .pair (.var 2) txZa14))), (true, txZa40, txZa27), (true, txZa40, txZa27), (true, (.fn 21 (.bi .pair (.var 2) txZa25)), (.fn 21 (.bi .pair (.var 2) txZa14))), (false, (.fn 22 (.bi .pair (.var 2) txZa49)), (.fn 22 txZa28)), (true, txZa40, txZa27), (false, (.fn 20 (.bi .pair (.var 2) txZa25)), (.fn 20 (.bi .pair (.var 2) txZa14)))]
def eC10_h0 : List (Nat × E) := [(10, txZa19), (6, (.var 6)), (2, (.var 2)), (1, (.bi .add (.var 1) (.int 1))), (9, txZa47), (8, (.bi .add (.var 8) (.int 1))), (7, txZa20), (0, (.bi .add (.var 0) (.int 1))), (3, (.var 3)), (4, (.var 4)), (5, (.var 5))]
theorem eC10_h0_0 : lookE eC10_h0 0 = (.bi .add (.var 0) (.int 1)) := rfl
theorem eC10_h0_1 : lookE eC10_h0 1 = (.bi .add (.var 1) (.int 1)) := rfl
theorem eC10_h0_2 : lookE eC10_h0 2 = (.var 2) := rfl
theorem eC10_h0_3 : lookE eC10_h0 3 = (.var 3) := rfl
theorem eC10_h0_4 : lookE eC10_h0 4 = (.var 4) := rfl
theorem eC10_h0_5 : lookE eC10_h0 5 = (.var 5) := rfl
theorem eC10_h0_6 : lookE eC10_h0 6 = (.var 6) := rfl
theorem eC10_h0_7 : lookE eC10_h0 7 = txZa20 := rfl
theorem eC10_h0_8 : lookE eC10_h0 8 = (.bi .add (.var 8) (.int 1)) := rfl
theorem eC10_h0_9 : lookE eC10_h0 9 = txZa47 := rfl
theorem eC10_h0_10 : lookE eC10_h0 10 = txZa19 := rfl
theorem eC10_y0 : nextJ (eC 2) (eC 2) eC10_h0 [(9, 9), (7, 7), (15, 15), (3, 21), (1, 1), (17, 17), (13, 13), (5, 5)] (roundC Try.prog [] [] [] 3000 40 34 [4, 1] (tellA eC10_t0) (eC 2)) = some eC10_d0 := by kernel_rfl
def eC10_t1 : List (Q × Bool) := [asZa0, asZa1, asZa2, asZa3, asZa11, asZa12, asZa13, asZa4, asZa5, asZa10, asZa7, asZa8, asZa14, asZa15, asZa16, asZa9]
def eC10_d1 : List Duty := [(true, (.fn 21 (.bi .pair (.var 2) txZa25)), (.fn 21 (.bi .pair (.var 2) txZa14))), (true, (.fn 21 (.bi .pair (.var 2) txZa25)), (.fn 21 (.bi .pair (.var 2) txZa14))), (true, txZa40, txZa27), (true, txZa40, txZa27), (true, (.fn 21 (.bi .pair (.var 2) txZa25)), (.fn 21 (.bi .pair (.var 2) txZa14))), (false, (.fn 22 (.bi .pair (.var 2) txZa49)), (.fn 22 txZa28)), (true, txZa40, txZa27), (false, (.fn 20 (.bi .pair (.var 2) txZa25)), (.fn 20 (.bi .pair (.var 2) txZa14)))]
def eC10_h1 : List (Nat × E) := [(10, txZa19), (6, (.var 6)), (2, (.var 2)), (1, (.bi .add (.var 1) (.int 1))), (9, (.bi (.iop .add .u32) txZa50 txZa33)), (8, (.bi .add (.var 8) (.int 1))), (7, txZa20), (0, (.bi .add (.var 0) (.int 1))), (3, (.var 3)), (4, (.var 4)), (5, (.var 5))]
theorem eC10_h1_0 : lookE eC10_h1 0 = (.bi .add (.var 0) (.int 1)) := rfl
theorem eC10_h1_1 : lookE eC10_h1 1 = (.bi .add (.var 1) (.int 1)) := rfl
theorem eC10_h1_2 : lookE eC10_h1 2 = (.var 2) := rfl
theorem eC10_h1_3 : lookE eC10_h1 3 = (.var 3) := rfl
theorem eC10_h1_4 : lookE eC10_h1 4 = (.var 4) := rfl
theorem eC10_h1_5 : lookE eC10_h1 5 = (.var 5) := rfl
theorem eC10_h1_6 : lookE eC10_h1 6 = (.var 6) := rfl
theorem eC10_h1_7 : lookE eC10_h1 7 = txZa20 := rfl
theorem eC10_h1_8 : lookE eC10_h1 8 = (.bi .add (.var 8) (.int 1)) := rfl
theorem eC10_h1_9 : lookE eC10_h1 9 = (.bi (.iop .add .u32) txZa50 txZa33) := rfl
theorem eC10_h1_10 : lookE eC10_h1 10 = txZa19 := rfl
theorem eC10_y1 : nextJ (eC 2) (eC 2) eC10_h1 [(9, 9), (7, 7), (15, 15), (3, 21), (1, 1), (17, 17), (13, 13), (5, 5)] (roundC Try.prog [] [] [] 3000 40 34 [4, 1] (tellA eC10_t1) (eC 2)) = some eC10_d1 := by kernel_rfl
def eC10_t2 : List (Q × Bool) := [asZa0, asZa1, asZa2, asZa3, asZa11, asZa12, asZa13, asZa4, asZa5, asZa10, asZa7, asZa8, asZa14, asZa15, asZa17, asZa18, asZa9]
def eC10_d2 : List Duty := [(true, (.fn 21 (.bi .pair (.var 2) txZa25)), (.fn 21 (.bi .pair (.var 2) txZa14))), (true, (.fn 21 (.bi .pair (.var 2) txZa25)), (.fn 21 (.bi .pair (.var 2) txZa14))), (true, txZa40, txZa27), (true, txZa40, txZa27), (true, (.fn 21 (.bi .pair (.var 2) txZa25)), (.fn 21 (.bi .pair (.var 2) txZa14))), (false, (.fn 22 (.bi .pair (.var 2) txZa49)), (.fn 22 txZa28)), (true, txZa40, txZa27), (false, (.fn 20 (.bi .pair (.var 2) txZa25)), (.fn 20 (.bi .pair (.var 2) txZa14)))]
def eC10_h2 : List (Nat × E) := [(10, txZa19), (6, (.var 6)), (2, (.var 2)), (1, (.bi .add (.var 1) (.int 1))), (9, (.bi (.iop .add .u32) txZa50 txZa33)), (8, (.bi .add (.var 8) (.int 1))), (7, txZa20), (0, (.bi .add (.var 0) (.int 1))), (3, (.var 3)), (4, (.var 4)), (5, (.var 5))]
theorem eC10_h2_0 : lookE eC10_h2 0 = (.bi .add (.var 0) (.int 1)) := rfl
theorem eC10_h2_1 : lookE eC10_h2 1 = (.bi .add (.var 1) (.int 1)) := rfl
theorem eC10_h2_2 : lookE eC10_h2 2 = (.var 2) := rfl
theorem eC10_h2_3 : lookE eC10_h2 3 = (.var 3) := rfl
theorem eC10_h2_4 : lookE eC10_h2 4 = (.var 4) := rfl
theorem eC10_h2_5 : lookE eC10_h2 5 = (.var 5) := rfl
theorem eC10_h2_6 : lookE eC10_h2 6 = (.var 6) := rfl
theorem eC10_h2_7 : lookE eC10_h2 7 = txZa20 := rfl
theorem eC10_h2_8 : lookE eC10_h2 8 = (.bi .add (.var 8) (.int 1)) := rfl
theorem eC10_h2_9 : lookE eC10_h2 9 = (.bi (.iop .add .u32) txZa50 txZa33) := rfl
theorem eC10_h2_10 : lookE eC10_h2 10 = txZa19 := rfl
theorem eC10_y2 : nextJ (eC 2) (eC 2) eC10_h2 [(9, 9), (7, 7), (15, 15), (3, 21), (1, 1), (17, 17), (13, 13), (5, 5)] (roundC Try.prog [] [] [] 3000 40 34 [4, 1] (tellA eC10_t2) (eC 2)) = some eC10_d2 := by kernel_rfl
def eC10_t3 : List (Q × Bool) := [asZa0, asZa1, asZa2, asZa3, asZa11, asZa12, asZa13, asZa4, asZa5, asZa10, asZa7, asZa8, asZa14, asZa15, asZa17, asZa20, asZa9]
def eC10_d3 : List Duty := [(true, (.fn 21 (.bi .pair (.var 2) txZa23)), (.fn 21 (.bi .pair (.var 2) txZa14))), (true, (.fn 21 (.bi .pair (.var 2) txZa23)), (.fn 21 (.bi .pair (.var 2) txZa14))), (true, (.bi .add (.int 1) txZa35), txZa27), (true, (.bi .add (.int 1) txZa35), txZa27), (true, (.fn 21 (.bi .pair (.var 2) txZa23)), (.fn 21 (.bi .pair (.var 2) txZa14))), (false, (.fn 22 (.bi .pair (.var 2) txZa29)), (.fn 22 txZa28)), (true, (.bi .add (.int 1) txZa35), txZa27), (false, txZa46, (.fn 20 (.bi .pair (.var 2) txZa14)))]
def eC10_h3 : List (Nat × E) := [(12, txZa8), (6, (.var 6)), (2, (.var 2)), (11, (.int 1)), (9, (.bi (.iop .add .u32) txZa50 txZa33)), (8, (.bi .add (.var 8) (.int 1))), (7, txZa20), (0, (.bi .add (.var 0) (.int 1))), (3, (.var 3)), (4, (.var 4)), (5, (.var 5))]
theorem eC10_h3_0 : lookE eC10_h3 0 = (.bi .add (.var 0) (.int 1)) := rfl
theorem eC10_h3_2 : lookE eC10_h3 2 = (.var 2) := rfl
theorem eC10_h3_3 : lookE eC10_h3 3 = (.var 3) := rfl
theorem eC10_h3_4 : lookE eC10_h3 4 = (.var 4) := rfl
theorem eC10_h3_5 : lookE eC10_h3 5 = (.var 5) := rfl
theorem eC10_h3_6 : lookE eC10_h3 6 = (.var 6) := rfl
theorem eC10_h3_7 : lookE eC10_h3 7 = txZa20 := rfl
theorem eC10_h3_8 : lookE eC10_h3 8 = (.bi .add (.var 8) (.int 1)) := rfl
theorem eC10_h3_9 : lookE eC10_h3 9 = (.bi (.iop .add .u32) txZa50 txZa33) := rfl
theorem eC10_h3_11 : lookE eC10_h3 11 = (.int 1) := rfl
theorem eC10_h3_12 : lookE eC10_h3 12 = txZa8 := rfl
theorem eC10_y3 : nextJ (eC 2) (eC 1) eC10_h3 [(11, 25), (9, 9), (7, 7), (15, 15), (1, 1), (17, 17), (13, 13), (5, 5)] (roundC Try.prog [] [] [] 3000 40 34 [4, 1] (tellA eC10_t3) (eC 2)) = some eC10_d3 := by kernel_rfl
def eC10_t4 : List (Q × Bool) := [asZa0, asZa1, asZa2, asZa3, asZa11, asZa12, asZa13, asZa4, asZa5, asZa10, asZa7, asZa8, asZa14, asZa21, asZa9]
def eC10_d4 : List Duty := [(true, (.fn 21 (.bi .pair (.var 2) txZa23)), (.fn 21 (.bi .pair (.var 2) txZa14))), (true, (.fn 21 (.bi .pair (.var 2) txZa23)), (.fn 21 (.bi .pair (.var 2) txZa14))), (true, (.bi .add (.int 1) txZa35), txZa27), (true, (.bi .add (.int 1) txZa35), txZa27), (true, (.fn 21 (.bi .pair (.var 2) txZa23)), (.fn 21 (.bi .pair (.var 2) txZa14))), (false, (.fn 22 (.bi .pair (.var 2) txZa29)), (.fn 22 txZa28)), (true, (.bi .add (.int 1) txZa35), txZa27), (false, txZa46, (.fn 20 (.bi .pair (.var 2) txZa14)))]
def eC10_h4 : List (Nat × E) := [(12, txZa8), (6, (.var 6)), (2, (.var 2)), (11, (.int 1)), (9, (.bi (.iop .add .u32) txZa50 txZa33)), (8, (.bi .add (.var 8) (.int 1))), (7, txZa20), (0, (.bi .add (.var 0) (.int 1))), (3, (.var 3)), (4, (.var 4)), (5, (.var 5))]
theorem eC10_h4_0 : lookE eC10_h4 0 = (.bi .add (.var 0) (.int 1)) := rfl
theorem eC10_h4_2 : lookE eC10_h4 2 = (.var 2) := rfl
theorem eC10_h4_3 : lookE eC10_h4 3 = (.var 3) := rfl
theorem eC10_h4_4 : lookE eC10_h4 4 = (.var 4) := rfl
theorem eC10_h4_5 : lookE eC10_h4 5 = (.var 5) := rfl
theorem eC10_h4_6 : lookE eC10_h4 6 = (.var 6) := rfl
theorem eC10_h4_7 : lookE eC10_h4 7 = txZa20 := rfl
theorem eC10_h4_8 : lookE eC10_h4 8 = (.bi .add (.var 8) (.int 1)) := rfl
theorem eC10_h4_9 : lookE eC10_h4 9 = (.bi (.iop .add .u32) txZa50 txZa33) := rfl
theorem eC10_h4_11 : lookE eC10_h4 11 = (.int 1) := rfl
theorem eC10_h4_12 : lookE eC10_h4 12 = txZa8 := rfl
theorem eC10_y4 : nextJ (eC 2) (eC 1) eC10_h4 [(11, 25), (9, 9), (7, 7), (15, 15), (1, 1), (17, 17), (13, 13), (5, 5)] (roundC Try.prog [] [] [] 3000 40 34 [4, 1] (tellA eC10_t4) (eC 2)) = some eC10_d4 := by kernel_rfl
def eC11_t0 : List (Q × Bool) := [asZa0, asZa1, asZa2, asZa3, asZa11, asZa12, asZa13, asZa4, asZa5, asZa6, asZa7, asZa8, asZa14, asZa15, asZa16, asZa9]
def eC11_d0 : List Duty := [(true, (.fn 21 (.bi .pair (.var 2) txZa25)), (.fn 21 (.bi .pair (.var 2) txZa14))), (true, (.fn 21 (.bi .pair (.var 2) txZa25)), (.fn 21 (.bi .pair (.var 2) txZa14))), (true, (.bi .add (.var 11) txZa40), (.bi .add (.var 11) txZa27)), (true, (.bi .add (.var 11) txZa40), (.bi .add (.var 11) txZa27)), (true, (.fn 21 (.bi .pair (.var 2) txZa25)), (.fn 21 (.bi .pair (.var 2) txZa14))), (false, (.fn 22 (.bi .pair (.var 2) txZa49)), (.fn 22 txZa28)), (true, (.bi .add (.var 11) txZa40), (.bi .add (.var 11) txZa27)), (false, txZa41, txZa32)]
def eC11_h0 : List (Nat × E) := [(12, (.var 12)), (10, txZa19), (6, (.var 6)), (2, (.var 2)), (11, (.var 11)), (1, (.bi .add (.var 1) (.int 1))), (9, txZa47), (8, (.bi .add (.var 8) (.int 1))), (7, txZa20), (0, (.bi .add (.var 0) (.int 1))), (3, (.var 3)), (4, (.var 4)), (5, (.var 5))]
theorem eC11_h0_0 : lookE eC11_h0 0 = (.bi .add (.var 0) (.int 1)) := rfl
theorem eC11_h0_1 : lookE eC11_h0 1 = (.bi .add (.var 1) (.int 1)) := rfl
theorem eC11_h0_2 : lookE eC11_h0 2 = (.var 2) := rfl
theorem eC11_h0_3 : lookE eC11_h0 3 = (.var 3) := rfl
theorem eC11_h0_4 : lookE eC11_h0 4 = (.var 4) := rfl
theorem eC11_h0_5 : lookE eC11_h0 5 = (.var 5) := rfl
theorem eC11_h0_6 : lookE eC11_h0 6 = (.var 6) := rfl
theorem eC11_h0_7 : lookE eC11_h0 7 = txZa20 := rfl
theorem eC11_h0_8 : lookE eC11_h0 8 = (.bi .add (.var 8) (.int 1)) := rfl
theorem eC11_h0_9 : lookE eC11_h0 9 = txZa47 := rfl
theorem eC11_h0_10 : lookE eC11_h0 10 = txZa19 := rfl
theorem eC11_h0_11 : lookE eC11_h0 11 = (.var 11) := rfl
theorem eC11_h0_12 : lookE eC11_h0 12 = (.var 12) := rfl
theorem eC11_y0 : nextJ (eC 3) (eC 3) eC11_h0 [(11, 11), (9, 9), (7, 7), (15, 15), (3, 21), (1, 1), (17, 17), (13, 13), (5, 5)] (roundC Try.prog [] [] [] 3000 40 34 [4, 1] (tellA eC11_t0) (eC 3)) = some eC11_d0 := by kernel_rfl
def eC11_t1 : List (Q × Bool) := [asZa0, asZa1, asZa2, asZa3, asZa11, asZa12, asZa13, asZa4, asZa5, asZa10, asZa7, asZa8, asZa14, asZa15, asZa16, asZa9]
def eC11_d1 : List Duty := [(true, (.fn 21 (.bi .pair (.var 2) txZa25)), (.fn 21 (.bi .pair (.var 2) txZa14))), (true, (.fn 21 (.bi .pair (.var 2) txZa25)), (.fn 21 (.bi .pair (.var 2) txZa14))), (true, (.bi .add (.var 11) txZa40), (.bi .add (.var 11) txZa27)), (true, (.bi .add (.var 11) txZa40), (.bi .add (.var 11) txZa27)), (true, (.fn 21 (.bi .pair (.var 2) txZa25)), (.fn 21 (.bi .pair (.var 2) txZa14))), (false, (.fn 22 (.bi .pair (.var 2) txZa49)), (.fn 22 txZa28)), (true, (.bi .add (.var 11) txZa40), (.bi .add (.var 11) txZa27)), (false, txZa41, txZa32)]
def eC11_h1 : List (Nat × E) := [(12, (.var 12)), (10, txZa19), (6, (.var 6)), (2, (.var 2)), (11, (.var 11)), (1, (.bi .add (.var 1) (.int 1))), (9, (.bi (.iop .add .u32) txZa50 txZa33)), (8, (.bi .add (.var 8) (.int 1))), (7, txZa20), (0, (.bi .add (.var 0) (.int 1))), (3, (.var 3)), (4, (.var 4)), (5, (.var 5))]
theorem eC11_h1_0 : lookE eC11_h1 0 = (.bi .add (.var 0) (.int 1)) := rfl
theorem eC11_h1_1 : lookE eC11_h1 1 = (.bi .add (.var 1) (.int 1)) := rfl
theorem eC11_h1_2 : lookE eC11_h1 2 = (.var 2) := rfl
theorem eC11_h1_3 : lookE eC11_h1 3 = (.var 3) := rfl
theorem eC11_h1_4 : lookE eC11_h1 4 = (.var 4) := rfl
theorem eC11_h1_5 : lookE eC11_h1 5 = (.var 5) := rfl
theorem eC11_h1_6 : lookE eC11_h1 6 = (.var 6) := rfl
theorem eC11_h1_7 : lookE eC11_h1 7 = txZa20 := rfl
theorem eC11_h1_8 : lookE eC11_h1 8 = (.bi .add (.var 8) (.int 1)) := rfl
theorem eC11_h1_9 : lookE eC11_h1 9 = (.bi (.iop .add .u32) txZa50 txZa33) := rfl
theorem eC11_h1_10 : lookE eC11_h1 10 = txZa19 := rfl
theorem eC11_h1_11 : lookE eC11_h1 11 = (.var 11) := rfl
theorem eC11_h1_12 : lookE eC11_h1 12 = (.var 12) := rfl
theorem eC11_y1 : nextJ (eC 3) (eC 3) eC11_h1 [(11, 11), (9, 9), (7, 7), (15, 15), (3, 21), (1, 1), (17, 17), (13, 13), (5, 5)] (roundC Try.prog [] [] [] 3000 40 34 [4, 1] (tellA eC11_t1) (eC 3)) = some eC11_d1 := by kernel_rfl
def eC11_t2 : List (Q × Bool) := [asZa0, asZa1, asZa2, asZa3, asZa11, asZa12, asZa13, asZa4, asZa5, asZa10, asZa7, asZa8, asZa14, asZa15, asZa17, asZa18, asZa9]
def eC11_d2 : List Duty := [(true, (.fn 21 (.bi .pair (.var 2) txZa25)), (.fn 21 (.bi .pair (.var 2) txZa14))), (true, (.fn 21 (.bi .pair (.var 2) txZa25)), (.fn 21 (.bi .pair (.var 2) txZa14))), (true, (.bi .add (.var 11) txZa40), (.bi .add (.var 11) txZa27)), (true, (.bi .add (.var 11) txZa40), (.bi .add (.var 11) txZa27)), (true, (.fn 21 (.bi .pair (.var 2) txZa25)), (.fn 21 (.bi .pair (.var 2) txZa14))), (false, (.fn 22 (.bi .pair (.var 2) txZa49)), (.fn 22 txZa28)), (true, (.bi .add (.var 11) txZa40), (.bi .add (.var 11) txZa27)), (false, txZa41, txZa32)]
def eC11_h2 : List (Nat × E) := [(12, (.var 12)), (10, txZa19), (6, (.var 6)), (2, (.var 2)), (11, (.var 11)), (1, (.bi .add (.var 1) (.int 1))), (9, (.bi (.iop .add .u32) txZa50 txZa33)), (8, (.bi .add (.var 8) (.int 1))), (7, txZa20), (0, (.bi .add (.var 0) (.int 1))), (3, (.var 3)), (4, (.var 4)), (5, (.var 5))]
theorem eC11_h2_0 : lookE eC11_h2 0 = (.bi .add (.var 0) (.int 1)) := rfl
theorem eC11_h2_1 : lookE eC11_h2 1 = (.bi .add (.var 1) (.int 1)) := rfl
theorem eC11_h2_2 : lookE eC11_h2 2 = (.var 2) := rfl
theorem eC11_h2_3 : lookE eC11_h2 3 = (.var 3) := rfl
theorem eC11_h2_4 : lookE eC11_h2 4 = (.var 4) := rfl
theorem eC11_h2_5 : lookE eC11_h2 5 = (.var 5) := rfl
theorem eC11_h2_6 : lookE eC11_h2 6 = (.var 6) := rfl
theorem eC11_h2_7 : lookE eC11_h2 7 = txZa20 := rfl
theorem eC11_h2_8 : lookE eC11_h2 8 = (.bi .add (.var 8) (.int 1)) := rfl
theorem eC11_h2_9 : lookE eC11_h2 9 = (.bi (.iop .add .u32) txZa50 txZa33) := rfl
theorem eC11_h2_10 : lookE eC11_h2 10 = txZa19 := rfl
theorem eC11_h2_11 : lookE eC11_h2 11 = (.var 11) := rfl
theorem eC11_h2_12 : lookE eC11_h2 12 = (.var 12) := rfl
theorem eC11_y2 : nextJ (eC 3) (eC 3) eC11_h2 [(11, 11), (9, 9), (7, 7), (15, 15), (3, 21), (1, 1), (17, 17), (13, 13), (5, 5)] (roundC Try.prog [] [] [] 3000 40 34 [4, 1] (tellA eC11_t2) (eC 3)) = some eC11_d2 := by kernel_rfl
def eC11_t3 : List (Q × Bool) := [asZa0, asZa1, asZa2, asZa3, asZa11, asZa12, asZa13, asZa4, asZa5, asZa10, asZa7, asZa8, asZa14, asZa15, asZa17, asZa20, asZa22, asZa9]
def eC11_d3 : List Duty := [(true, (.fn 21 (.bi .pair (.var 2) txZa23)), (.fn 21 (.bi .pair (.var 2) txZa14))), (true, (.fn 21 (.bi .pair (.var 2) txZa23)), (.fn 21 (.bi .pair (.var 2) txZa14))), (true, txZa42, (.bi .add (.var 11) txZa27)), (true, txZa42, (.bi .add (.var 11) txZa27)), (true, (.fn 21 (.bi .pair (.var 2) txZa23)), (.fn 21 (.bi .pair (.var 2) txZa14))), (false, (.fn 22 (.bi .pair (.var 2) txZa29)), (.fn 22 txZa28)), (true, txZa42, (.bi .add (.var 11) txZa27)), (false, txZa48, txZa32)]
def eC11_h3 : List (Nat × E) := [(12, (.bi .app (.var 12) txZa8)), (6, (.var 6)), (2, (.var 2)), (11, (.bi .add (.var 11) (.int 1))), (9, (.bi (.iop .add .u32) txZa50 txZa33)), (8, (.bi .add (.var 8) (.int 1))), (7, txZa20), (0, (.bi .add (.var 0) (.int 1))), (3, (.var 3)), (4, (.var 4)), (5, (.var 5))]
theorem eC11_h3_0 : lookE eC11_h3 0 = (.bi .add (.var 0) (.int 1)) := rfl
theorem eC11_h3_2 : lookE eC11_h3 2 = (.var 2) := rfl
theorem eC11_h3_3 : lookE eC11_h3 3 = (.var 3) := rfl
theorem eC11_h3_4 : lookE eC11_h3 4 = (.var 4) := rfl
theorem eC11_h3_5 : lookE eC11_h3 5 = (.var 5) := rfl
theorem eC11_h3_6 : lookE eC11_h3 6 = (.var 6) := rfl
theorem eC11_h3_7 : lookE eC11_h3 7 = txZa20 := rfl
theorem eC11_h3_8 : lookE eC11_h3 8 = (.bi .add (.var 8) (.int 1)) := rfl
theorem eC11_h3_9 : lookE eC11_h3 9 = (.bi (.iop .add .u32) txZa50 txZa33) := rfl
theorem eC11_h3_11 : lookE eC11_h3 11 = (.bi .add (.var 11) (.int 1)) := rfl
theorem eC11_h3_12 : lookE eC11_h3 12 = (.bi .app (.var 12) txZa8) := rfl
theorem eC11_y3 : nextJ (eC 3) (eC 1) eC11_h3 [(11, 25), (9, 9), (7, 7), (15, 15), (1, 1), (17, 17), (13, 13), (5, 5)] (roundC Try.prog [] [] [] 3000 40 34 [4, 1] (tellA eC11_t3) (eC 3)) = some eC11_d3 := by kernel_rfl
def eC11_t4 : List (Q × Bool) := [asZa0, asZa1, asZa2, asZa3, asZa11, asZa12, asZa13, asZa4, asZa5, asZa10, asZa7, asZa8, asZa14, asZa21, asZa22, asZa9]
def eC11_d4 : List Duty := [(true, (.fn 21 (.bi .pair (.var 2) txZa23)), (.fn 21 (.bi .pair (.var 2) txZa14))), (true, (.fn 21 (.bi .pair (.var 2) txZa23)), (.fn 21 (.bi .pair (.var 2) txZa14))), (true, txZa42, (.bi .add (.var 11) txZa27)), (true, txZa42, (.bi .add (.var 11) txZa27)), (true, (.fn 21 (.bi .pair (.var 2) txZa23)), (.fn 21 (.bi .pair (.var 2) txZa14))), (false, (.fn 22 (.bi .pair (.var 2) txZa29)), (.fn 22 txZa28)), (true, txZa42, (.bi .add (.var 11) txZa27)), (false, txZa48, txZa32)]
def eC11_h4 : List (Nat × E) := [(12, (.bi .app (.var 12) txZa8)), (6, (.var 6)), (2, (.var 2)), (11, (.bi .add (.var 11) (.int 1))), (9, (.bi (.iop .add .u32) txZa50 txZa33)), (8, (.bi .add (.var 8) (.int 1))), (7, txZa20), (0, (.bi .add (.var 0) (.int 1))), (3, (.var 3)), (4, (.var 4)), (5, (.var 5))]
theorem eC11_h4_0 : lookE eC11_h4 0 = (.bi .add (.var 0) (.int 1)) := rfl
theorem eC11_h4_2 : lookE eC11_h4 2 = (.var 2) := rfl
theorem eC11_h4_3 : lookE eC11_h4 3 = (.var 3) := rfl
theorem eC11_h4_4 : lookE eC11_h4 4 = (.var 4) := rfl
theorem eC11_h4_5 : lookE eC11_h4 5 = (.var 5) := rfl
theorem eC11_h4_6 : lookE eC11_h4 6 = (.var 6) := rfl
theorem eC11_h4_7 : lookE eC11_h4 7 = txZa20 := rfl
theorem eC11_h4_8 : lookE eC11_h4 8 = (.bi .add (.var 8) (.int 1)) := rfl
theorem eC11_h4_9 : lookE eC11_h4 9 = (.bi (.iop .add .u32) txZa50 txZa33) := rfl
theorem eC11_h4_11 : lookE eC11_h4 11 = (.bi .add (.var 11) (.int 1)) := rfl
theorem eC11_h4_12 : lookE eC11_h4 12 = (.bi .app (.var 12) txZa8) := rfl
theorem eC11_y4 : nextJ (eC 3) (eC 1) eC11_h4 [(11, 25), (9, 9), (7, 7), (15, 15), (1, 1), (17, 17), (13, 13), (5, 5)] (roundC Try.prog [] [] [] 3000 40 34 [4, 1] (tellA eC11_t4) (eC 3)) = some eC11_d4 := by kernel_rfl
def eC11_t5 : List (Q × Bool) := [asZa19]
def eC11_d5 : List Duty := [(true, (.bi .sel (.var 7) (.int 0)), (.bi .sel (.fn 9 txZa12) (.int 0))), (true, (.bi .sel (.var 7) (.int 1)), (.bi .sel (.fn 9 txZa12) (.int 1))), (true, (.bi .sel (.var 7) (.int 2)), (.bi .sel (.fn 9 txZa12) (.int 2))), (true, (.bi .sel (.var 7) (.int 3)), (.bi .sel (.fn 9 txZa12) (.int 3))), (true, (.bi .sel (.var 7) (.int 4)), (.bi .sel (.fn 9 txZa12) (.int 4))), (true, (.bi .sel (.var 7) (.int 5)), (.bi .sel (.fn 9 txZa12) (.int 5))), (true, (.bi .sel (.var 7) (.int 6)), (.bi .sel (.fn 9 txZa12) (.int 6))), (true, (.bi .sel (.var 7) (.int 7)), (.bi .sel (.fn 9 txZa12) (.int 7))), (true, (.bi .sel (.var 7) (.int 8)), (.bi .sel (.fn 9 txZa12) (.int 8))), (true, (.bi .sel (.var 7) (.int 9)), (.bi .sel (.fn 9 txZa12) (.int 9))), (true, (.bi .sel (.var 7) (.int 10)), (.bi .sel (.fn 9 txZa12) (.int 10))), (true, (.bi .sel (.var 7) (.int 11)), (.bi .sel (.fn 9 txZa12) (.int 11))), (true, (.bi .sel (.var 7) (.int 12)), (.bi .sel (.fn 9 txZa12) (.int 12))), (true, (.bi .sel (.var 7) (.int 13)), (.bi .sel (.fn 9 txZa12) (.int 13))), (true, (.bi .sel (.var 7) (.int 14)), (.bi .sel (.fn 9 txZa12) (.int 14))), (true, (.bi .sel (.var 7) (.int 15)), (.bi .sel (.fn 9 txZa12) (.int 15))), (true, (.var 8), (.var 4)), (true, (.var 9), (.fn 11 txZa12)), (true, (.var 1), (.fn 21 (.bi .pair (.var 2) txZa14))), (true, (.var 1), (.fn 21 (.bi .pair (.var 2) txZa14))), (true, (.var 11), (.bi .add (.var 11) txZa27)), (true, (.var 11), (.bi .add (.var 11) txZa27)), (true, (.var 1), (.fn 21 (.bi .pair (.var 2) txZa14))), (false, (.var 10), (.fn 22 txZa28)), (true, (.var 11), (.bi .add (.var 11) txZa27)), (false, (.var 12), txZa32)]
theorem eC11_y5 : endD (eC 3) [(11, 11), (3, 3), (1, 1), (5, 5), (7, 7), (9, 9), (13, 13), (15, 15)] 1000 (roundC Try.prog [] [] [] 3000 40 34 [4, 1] (tellA eC11_t5) (eC 3)) = some eC11_d5 := by kernel_rfl
set_option maxHeartbeats 16000000 in
theorem eC_holds : ∀ i, i < 4 → LHolds Try.prog (loopAt Try.prog 34 [4, 1]) (eC i) F := by
 refine loop_famC sound (tableNil _ _) (specsNil _ _) (oversNil _ _) (fuel := 3000) (depth := 40) (by kernel_rfl) (fun i d => match i with | 0 => ((d 4).toInt - (d 0).toInt).toNat | 1 => ((d 4).toInt - (d 0).toInt).toNat | 2 => ((d 4).toInt - (d 0).toInt).toNat | _ => ((d 4).toInt - (d 0).toInt).toNat) ?_
 intro i hi d hp hR hA
 match i, hi with
 | 0, _ =>
   have hp := allTold'_iff.2 hp
   simp only [eC, eC00, allTold', dutiesTold, factsA, factsC, factsP, factsR, AV.facts, RW.facts, inK, and_true, Q.holds', E.i, E.s, E.n, D.nat, E.den, BO.den, UO.den, TO.den, D.toInt_int, D.toList_list, D.ints_ofInts, i64min, i64max, u8min, u8max, u16min, u16max, u32min, u32max, u64min, u64max, i32min, i32max, Om.sub, selI, ints_app, ints_cut, ints_upd, ints_rep, ints_splice, ints_seg, len_ints] at hp hR hA
   simp only [F9, F11, F20, F21, D.toInt_int, D.ints_ofInts, UO.den] at hp
   obtain ⟨p1, p2, p3, p4, p5, p6, p7, p8, p9, pf, pz⟩ := hp
   by_cases h : (d 4).toInt ≤ (d 0).toInt
   ·exfalso
    have ce := cuts_end (x := (d 2).ints) (o := (d 3).toInt) (n := 0) h
    simp only [ce, List.length_nil] at pf pz
    all_goals omega
   ·have es : ((d 0).toInt + 1 - 1).toNat = (d 0).toInt.toNat := by omega
    have et : ((((d 0).toInt + 1 - 1).toNat : Nat) : Int) = (d 0).toInt := by omega
    rw [es] at p7
    rw [et] at p9
    have er : iopI .rem .i64 (d 8).toInt 16 = (d 0).toInt % 16 := by rw [p8, rem_emod _ (by omega)]
    obtain ⟨el, hw, hr⟩ := push_all (x := (d 2).ints) (o := (d 3).toInt) (i := (d 0).toInt) (by omega) (by omega) (by omega) p7 p9
    have hy : prt (d 2).ints ((d 3).toInt + (d 0).toInt) ((d 3).toInt + (d 4).toInt) = (d 2).ints[((d 3).toInt + (d 0).toInt).toNat]?.getD 0 :: prt (d 2).ints ((d 3).toInt + ((d 0).toInt + 1)) ((d 3).toInt + (d 4).toInt) := by
     rw [prt_step (o := (d 3).toInt + (d 0).toInt) (by omega) (by omega) (by omega), Int.add_assoc]
    have hz := prt_length (x := (d 2).ints) (o := (d 3).toInt + ((d 0).toInt + 1)) (t := (d 3).toInt + (d 4).toInt) (by omega) (by omega) (by omega)
    have e6 : ((d 0).toInt + 1 + 1 - 1).toNat = ((d 0).toInt + 1).toNat := by omega
    have e7 : ((((d 0).toInt + 1 + 1 - 1).toNat : Nat) : Int) = (d 0).toInt + 1 := by omega
    have e8 : (((d 0).toInt + 1).toNat : Int) = (d 0).toInt + 1 := by omega
    by_cases f : 16 ≤ (d 0).toInt
    ·unfold pushI at hw
     rw [if_pos f] at hw
     simp only [rollI, wI] at hw
     have cn := cuts_no (x := (d 2).ints) (o := (d 3).toInt) (t := (d 4).toInt) (i := (d 0).toInt) (n := 0) (by omega) (by omega)
     rw [show (0 : Int) + 1 = 1 from rfl] at cn
     rw [cn] at pf pz
     have ci := cuts_in (x := (d 2).ints) (o := (d 3).toInt) (t := (d 4).toInt) (i := (d 0).toInt + 1) (n := 0) (by omega) (by omega)
     refine ⟨tellA eC00_t1, tellA_ok (allTold'_iff.1 ?_), .inr ⟨2, eC00_h1, _, _, by decide, eC00_y1, dutiesTold_ok ?_, allTold'_iff.1 ?_, ?_⟩⟩
     ·simp only [eC00_t1, er, hw, allTold', dutiesTold, factsA, factsC, factsP, factsR, AV.facts, RW.facts, inK, and_true, Q.holds', E.i, E.s, E.n, D.nat, E.den, BO.den, UO.den, TO.den, D.toInt_int, D.toList_list, D.ints_ofInts, i64min, i64max, u8min, u8max, u16min, u16max, u32min, u32max, u64min, u64max, i32min, i32max, Om.sub, selI, ints_app, ints_cut, ints_upd, ints_rep, ints_splice, ints_seg, len_ints]
      omega
     ·simp only [eC00_d1, F20, F21, F22, cn, hw, allTold', dutiesTold, factsA, factsC, factsP, factsR, AV.facts, RW.facts, inK, and_true, Q.holds', E.i, E.s, E.n, D.nat, E.den, BO.den, UO.den, TO.den, D.toInt_int, D.toList_list, D.ints_ofInts, i64min, i64max, u8min, u8max, u16min, u16max, u32min, u32max, u64min, u64max, i32min, i32max, Om.sub, selI, ints_app, ints_cut, ints_upd, ints_rep, ints_splice, ints_seg, len_ints]
      (try simp only [hy, ints_list, List.map_cons, List.map_append, List.map_nil, map_ints, getT, ofInts0, D.toList_list, D.toInt_int, D.ints_ofInts, List.cons_append, List.append_assoc, List.nil_append, List.length_cons]); first | done | (and_intros <;> first | exact True.intro | rfl | omega | exact last_cut3 (by omega) | assumption)
     ·simp only [eC, eC00, eC01, eC10, eC11, eC00_h1_0, eC00_h1_1, eC00_h1_2, eC00_h1_3, eC00_h1_4, eC00_h1_5, eC00_h1_6, eC00_h1_7, eC00_h1_8, eC00_h1_9, eC00_h1_10, F9, F11, F20, F21, er, hw, e6, e8, cn, allTold', dutiesTold, factsA, factsC, factsP, factsR, AV.facts, RW.facts, inK, and_true, Q.holds', E.i, E.s, E.n, D.nat, E.den, BO.den, UO.den, TO.den, D.toInt_int, D.toList_list, D.ints_ofInts, i64min, i64max, u8min, u8max, u16min, u16max, u32min, u32max, u64min, u64max, i32min, i32max, Om.sub, selI, ints_app, ints_cut, ints_upd, ints_rep, ints_splice, ints_seg, len_ints]
      first | done | (and_intros <;> first | exact True.intro | rfl | omega | exact hr.symm | assumption)
     ·simp only [eC00_h1_0, eC00_h1_1, eC00_h1_2, eC00_h1_3, eC00_h1_4, eC00_h1_5, eC00_h1_6, eC00_h1_7, eC00_h1_8, eC00_h1_9, eC00_h1_10, allTold', dutiesTold, factsA, factsC, factsP, factsR, AV.facts, RW.facts, inK, and_true, Q.holds', E.i, E.s, E.n, D.nat, E.den, BO.den, UO.den, TO.den, D.toInt_int, D.toList_list, D.ints_ofInts, i64min, i64max, u8min, u8max, u16min, u16max, u32min, u32max, u64min, u64max, i32min, i32max, Om.sub, selI, ints_app, ints_cut, ints_upd, ints_rep, ints_splice, ints_seg, len_ints]
      omega
    ·unfold pushI at hw
     rw [if_neg f] at hw
     simp only [stepI, wI] at hw
     have cn := cuts_no (x := (d 2).ints) (o := (d 3).toInt) (t := (d 4).toInt) (i := (d 0).toInt) (n := 0) (by omega) (by omega)
     rw [show (0 : Int) + 1 = 1 from rfl] at cn
     rw [cn] at pf pz
     have ci := cuts_in (x := (d 2).ints) (o := (d 3).toInt) (t := (d 4).toInt) (i := (d 0).toInt + 1) (n := 0) (by omega) (by omega)
     refine ⟨tellA eC00_t0, tellA_ok (allTold'_iff.1 ?_), .inr ⟨2, eC00_h0, _, _, by decide, eC00_y0, dutiesTold_ok ?_, allTold'_iff.1 ?_, ?_⟩⟩
     ·simp only [eC00_t0, er, hw, allTold', dutiesTold, factsA, factsC, factsP, factsR, AV.facts, RW.facts, inK, and_true, Q.holds', E.i, E.s, E.n, D.nat, E.den, BO.den, UO.den, TO.den, D.toInt_int, D.toList_list, D.ints_ofInts, i64min, i64max, u8min, u8max, u16min, u16max, u32min, u32max, u64min, u64max, i32min, i32max, Om.sub, selI, ints_app, ints_cut, ints_upd, ints_rep, ints_splice, ints_seg, len_ints]
      omega
     ·simp only [eC00_d0, F20, F21, F22, cn, hw, allTold', dutiesTold, factsA, factsC, factsP, factsR, AV.facts, RW.facts, inK, and_true, Q.holds', E.i, E.s, E.n, D.nat, E.den, BO.den, UO.den, TO.den, D.toInt_int, D.toList_list, D.ints_ofInts, i64min, i64max, u8min, u8max, u16min, u16max, u32min, u32max, u64min, u64max, i32min, i32max, Om.sub, selI, ints_app, ints_cut, ints_upd, ints_rep, ints_splice, ints_seg, len_ints]
      (try simp only [hy, ints_list, List.map_cons, List.map_append, List.map_nil, map_ints, getT, ofInts0, D.toList_list, D.toInt_int, D.ints_ofInts, List.cons_append, List.append_assoc, List.nil_append, List.length_cons]); first | done | (and_intros <;> first | exact True.intro | rfl | omega | exact last_cut3 (by omega) | assumption)
     ·simp only [eC, eC00, eC01, eC10, eC11, eC00_h0_0, eC00_h0_1, eC00_h0_2, eC00_h0_3, eC00_h0_4, eC00_h0_5, eC00_h0_6, eC00_h0_7, eC00_h0_8, eC00_h0_9, eC00_h0_10, F9, F11, F20, F21, er, hw, e6, e8, cn, allTold', dutiesTold, factsA, factsC, factsP, factsR, AV.facts, RW.facts, inK, and_true, Q.holds', E.i, E.s, E.n, D.nat, E.den, BO.den, UO.den, TO.den, D.toInt_int, D.toList_list, D.ints_ofInts, i64min, i64max, u8min, u8max, u16min, u16max, u32min, u32max, u64min, u64max, i32min, i32max, Om.sub, selI, ints_app, ints_cut, ints_upd, ints_rep, ints_splice, ints_seg, len_ints]
      first | done | (and_intros <;> first | exact True.intro | rfl | omega | exact hr.symm | assumption)
     ·simp only [eC00_h0_0, eC00_h0_1, eC00_h0_2, eC00_h0_3, eC00_h0_4, eC00_h0_5, eC00_h0_6, eC00_h0_7, eC00_h0_8, eC00_h0_9, eC00_h0_10, allTold', dutiesTold, factsA, factsC, factsP, factsR, AV.facts, RW.facts, inK, and_true, Q.holds', E.i, E.s, E.n, D.nat, E.den, BO.den, UO.den, TO.den, D.toInt_int, D.toList_list, D.ints_ofInts, i64min, i64max, u8min, u8max, u16min, u16max, u32min, u32max, u64min, u64max, i32min, i32max, Om.sub, selI, ints_app, ints_cut, ints_upd, ints_rep, ints_splice, ints_seg, len_ints]
      omega
 | 1, _ =>
   have hp := allTold'_iff.2 hp
   simp only [eC, eC01, allTold', dutiesTold, factsA, factsC, factsP, factsR, AV.facts, RW.facts, inK, and_true, Q.holds', E.i, E.s, E.n, D.nat, E.den, BO.den, UO.den, TO.den, D.toInt_int, D.toList_list, D.ints_ofInts, i64min, i64max, u8min, u8max, u16min, u16max, u32min, u32max, u64min, u64max, i32min, i32max, Om.sub, selI, ints_app, ints_cut, ints_upd, ints_rep, ints_splice, ints_seg, len_ints] at hp hR hA
   simp only [F9, F11, F20, F21, D.toInt_int, D.ints_ofInts, UO.den] at hp
   obtain ⟨p1, p2, p3, p4, p5, p6, p7, p8, p9, p10, p11, pf⟩ := hp
   by_cases h : (d 4).toInt ≤ (d 0).toInt
   ·exfalso
    have ce := cuts_end (x := (d 2).ints) (o := (d 3).toInt) (n := 0) h
    simp only [ce, List.length_nil] at pf
    all_goals omega
   ·have es : ((d 0).toInt + 1 - 1).toNat = (d 0).toInt.toNat := by omega
    have et : ((((d 0).toInt + 1 - 1).toNat : Nat) : Int) = (d 0).toInt := by omega
    rw [es] at p7
    rw [et] at p9
    have er : iopI .rem .i64 (d 8).toInt 16 = (d 0).toInt % 16 := by rw [p8, rem_emod _ (by omega)]
    obtain ⟨el, hw, hr⟩ := push_all (x := (d 2).ints) (o := (d 3).toInt) (i := (d 0).toInt) (by omega) (by omega) (by omega) p7 p9
    have hy : prt (d 2).ints ((d 3).toInt + (d 0).toInt) ((d 3).toInt + (d 4).toInt) = (d 2).ints[((d 3).toInt + (d 0).toInt).toNat]?.getD 0 :: prt (d 2).ints ((d 3).toInt + ((d 0).toInt + 1)) ((d 3).toInt + (d 4).toInt) := by
     rw [prt_step (o := (d 3).toInt + (d 0).toInt) (by omega) (by omega) (by omega), Int.add_assoc]
    have hz := prt_length (x := (d 2).ints) (o := (d 3).toInt + ((d 0).toInt + 1)) (t := (d 3).toInt + (d 4).toInt) (by omega) (by omega) (by omega)
    have e6 : ((d 0).toInt + 1 + 1 - 1).toNat = ((d 0).toInt + 1).toNat := by omega
    have e7 : ((((d 0).toInt + 1 + 1 - 1).toNat : Nat) : Int) = (d 0).toInt + 1 := by omega
    have e8 : (((d 0).toInt + 1).toNat : Int) = (d 0).toInt + 1 := by omega
    by_cases f : 16 ≤ (d 0).toInt
    ·unfold pushI at hw
     rw [if_pos f] at hw
     simp only [rollI, wI] at hw
     have cn := cuts_no (x := (d 2).ints) (o := (d 3).toInt) (t := (d 4).toInt) (i := (d 0).toInt) (n := 0) (by omega) (by omega)
     rw [show (0 : Int) + 1 = 1 from rfl] at cn
     rw [cn] at pf
     have ci := cuts_in (x := (d 2).ints) (o := (d 3).toInt) (t := (d 4).toInt) (i := (d 0).toInt + 1) (n := 0) (by omega) (by omega)
     refine ⟨tellA eC01_t1, tellA_ok (allTold'_iff.1 ?_), .inr ⟨3, eC01_h1, _, _, by decide, eC01_y1, dutiesTold_ok ?_, allTold'_iff.1 ?_, ?_⟩⟩
     ·simp only [eC01_t1, er, hw, allTold', dutiesTold, factsA, factsC, factsP, factsR, AV.facts, RW.facts, inK, and_true, Q.holds', E.i, E.s, E.n, D.nat, E.den, BO.den, UO.den, TO.den, D.toInt_int, D.toList_list, D.ints_ofInts, i64min, i64max, u8min, u8max, u16min, u16max, u32min, u32max, u64min, u64max, i32min, i32max, Om.sub, selI, ints_app, ints_cut, ints_upd, ints_rep, ints_splice, ints_seg, len_ints]
      omega
     ·simp only [eC01_d1, F20, F21, F22, cn, hw, allTold', dutiesTold, factsA, factsC, factsP, factsR, AV.facts, RW.facts, inK, and_true, Q.holds', E.i, E.s, E.n, D.nat, E.den, BO.den, UO.den, TO.den, D.toInt_int, D.toList_list, D.ints_ofInts, i64min, i64max, u8min, u8max, u16min, u16max, u32min, u32max, u64min, u64max, i32min, i32max, Om.sub, selI, ints_app, ints_cut, ints_upd, ints_rep, ints_splice, ints_seg, len_ints]
      (try simp only [hy, ints_list, List.map_cons, List.map_append, List.map_nil, map_ints, getT, ofInts0, D.toList_list, D.toInt_int, D.ints_ofInts, List.cons_append, List.append_assoc, List.nil_append, List.length_cons]); first | done | (and_intros <;> first | exact True.intro | rfl | omega | exact last_cut3 (by omega) | assumption)
     ·simp only [eC, eC00, eC01, eC10, eC11, eC01_h1_0, eC01_h1_1, eC01_h1_2, eC01_h1_3, eC01_h1_4, eC01_h1_5, eC01_h1_6, eC01_h1_7, eC01_h1_8, eC01_h1_9, eC01_h1_10, eC01_h1_11, eC01_h1_12, F9, F11, F20, F21, er, hw, e6, e8, cn, allTold', dutiesTold, factsA, factsC, factsP, factsR, AV.facts, RW.facts, inK, and_true, Q.holds', E.i, E.s, E.n, D.nat, E.den, BO.den, UO.den, TO.den, D.toInt_int, D.toList_list, D.ints_ofInts, i64min, i64max, u8min, u8max, u16min, u16max, u32min, u32max, u64min, u64max, i32min, i32max, Om.sub, selI, ints_app, ints_cut, ints_upd, ints_rep, ints_splice, ints_seg, len_ints]
      first | done | (and_intros <;> first | exact True.intro | rfl | omega | exact hr.symm | assumption)
     ·simp only [eC01_h1_0, eC01_h1_1, eC01_h1_2, eC01_h1_3, eC01_h1_4, eC01_h1_5, eC01_h1_6, eC01_h1_7, eC01_h1_8, eC01_h1_9, eC01_h1_10, eC01_h1_11, eC01_h1_12, allTold', dutiesTold, factsA, factsC, factsP, factsR, AV.facts, RW.facts, inK, and_true, Q.holds', E.i, E.s, E.n, D.nat, E.den, BO.den, UO.den, TO.den, D.toInt_int, D.toList_list, D.ints_ofInts, i64min, i64max, u8min, u8max, u16min, u16max, u32min, u32max, u64min, u64max, i32min, i32max, Om.sub, selI, ints_app, ints_cut, ints_upd, ints_rep, ints_splice, ints_seg, len_ints]
      omega
    ·unfold pushI at hw
     rw [if_neg f] at hw
     simp only [stepI, wI] at hw
     have cn := cuts_no (x := (d 2).ints) (o := (d 3).toInt) (t := (d 4).toInt) (i := (d 0).toInt) (n := 0) (by omega) (by omega)
     rw [show (0 : Int) + 1 = 1 from rfl] at cn
     rw [cn] at pf
     have ci := cuts_in (x := (d 2).ints) (o := (d 3).toInt) (t := (d 4).toInt) (i := (d 0).toInt + 1) (n := 0) (by omega) (by omega)
     refine ⟨tellA eC01_t0, tellA_ok (allTold'_iff.1 ?_), .inr ⟨3, eC01_h0, _, _, by decide, eC01_y0, dutiesTold_ok ?_, allTold'_iff.1 ?_, ?_⟩⟩
     ·simp only [eC01_t0, er, hw, allTold', dutiesTold, factsA, factsC, factsP, factsR, AV.facts, RW.facts, inK, and_true, Q.holds', E.i, E.s, E.n, D.nat, E.den, BO.den, UO.den, TO.den, D.toInt_int, D.toList_list, D.ints_ofInts, i64min, i64max, u8min, u8max, u16min, u16max, u32min, u32max, u64min, u64max, i32min, i32max, Om.sub, selI, ints_app, ints_cut, ints_upd, ints_rep, ints_splice, ints_seg, len_ints]
      omega
     ·simp only [eC01_d0, F20, F21, F22, cn, hw, allTold', dutiesTold, factsA, factsC, factsP, factsR, AV.facts, RW.facts, inK, and_true, Q.holds', E.i, E.s, E.n, D.nat, E.den, BO.den, UO.den, TO.den, D.toInt_int, D.toList_list, D.ints_ofInts, i64min, i64max, u8min, u8max, u16min, u16max, u32min, u32max, u64min, u64max, i32min, i32max, Om.sub, selI, ints_app, ints_cut, ints_upd, ints_rep, ints_splice, ints_seg, len_ints]
      (try simp only [hy, ints_list, List.map_cons, List.map_append, List.map_nil, map_ints, getT, ofInts0, D.toList_list, D.toInt_int, D.ints_ofInts, List.cons_append, List.append_assoc, List.nil_append, List.length_cons]); first | done | (and_intros <;> first | exact True.intro | rfl | omega | exact last_cut3 (by omega) | assumption)
     ·simp only [eC, eC00, eC01, eC10, eC11, eC01_h0_0, eC01_h0_1, eC01_h0_2, eC01_h0_3, eC01_h0_4, eC01_h0_5, eC01_h0_6, eC01_h0_7, eC01_h0_8, eC01_h0_9, eC01_h0_10, eC01_h0_11, eC01_h0_12, F9, F11, F20, F21, er, hw, e6, e8, cn, allTold', dutiesTold, factsA, factsC, factsP, factsR, AV.facts, RW.facts, inK, and_true, Q.holds', E.i, E.s, E.n, D.nat, E.den, BO.den, UO.den, TO.den, D.toInt_int, D.toList_list, D.ints_ofInts, i64min, i64max, u8min, u8max, u16min, u16max, u32min, u32max, u64min, u64max, i32min, i32max, Om.sub, selI, ints_app, ints_cut, ints_upd, ints_rep, ints_splice, ints_seg, len_ints]
      first | done | (and_intros <;> first | exact True.intro | rfl | omega | exact hr.symm | assumption)
     ·simp only [eC01_h0_0, eC01_h0_1, eC01_h0_2, eC01_h0_3, eC01_h0_4, eC01_h0_5, eC01_h0_6, eC01_h0_7, eC01_h0_8, eC01_h0_9, eC01_h0_10, eC01_h0_11, eC01_h0_12, allTold', dutiesTold, factsA, factsC, factsP, factsR, AV.facts, RW.facts, inK, and_true, Q.holds', E.i, E.s, E.n, D.nat, E.den, BO.den, UO.den, TO.den, D.toInt_int, D.toList_list, D.ints_ofInts, i64min, i64max, u8min, u8max, u16min, u16max, u32min, u32max, u64min, u64max, i32min, i32max, Om.sub, selI, ints_app, ints_cut, ints_upd, ints_rep, ints_splice, ints_seg, len_ints]
      omega
 | 2, _ =>
   have hp := allTold'_iff.2 hp
   simp only [eC, eC10, allTold', dutiesTold, factsA, factsC, factsP, factsR, AV.facts, RW.facts, inK, and_true, Q.holds', E.i, E.s, E.n, D.nat, E.den, BO.den, UO.den, TO.den, D.toInt_int, D.toList_list, D.ints_ofInts, i64min, i64max, u8min, u8max, u16min, u16max, u32min, u32max, u64min, u64max, i32min, i32max, Om.sub, selI, ints_app, ints_cut, ints_upd, ints_rep, ints_splice, ints_seg, len_ints] at hp hR hA
   simp only [F9, F11, F20, F21, D.toInt_int, D.ints_ofInts, UO.den] at hp
   obtain ⟨p1, p2, p3, p4, p5, p6, p7, p8, p9, p10, p11, p12, pf, pz⟩ := hp
   by_cases h : (d 4).toInt ≤ (d 0).toInt
   ·exfalso
    have ce := cuts_end (x := (d 2).ints) (o := (d 3).toInt) (n := (d 1).toInt) h
    simp only [ce, List.length_nil] at pf pz
    all_goals omega
   ·have es : ((d 0).toInt + 1 - 1).toNat = (d 0).toInt.toNat := by omega
    have et : ((((d 0).toInt + 1 - 1).toNat : Nat) : Int) = (d 0).toInt := by omega
    rw [es] at p7
    rw [et] at p9
    have er : iopI .rem .i64 (d 8).toInt 16 = (d 0).toInt % 16 := by rw [p8, rem_emod _ (by omega)]
    obtain ⟨el, hw, hr⟩ := push_all (x := (d 2).ints) (o := (d 3).toInt) (i := (d 0).toInt) (by omega) (by omega) (by omega) p7 p9
    have hy : prt (d 2).ints ((d 3).toInt + (d 0).toInt) ((d 3).toInt + (d 4).toInt) = (d 2).ints[((d 3).toInt + (d 0).toInt).toNat]?.getD 0 :: prt (d 2).ints ((d 3).toInt + ((d 0).toInt + 1)) ((d 3).toInt + (d 4).toInt) := by
     rw [prt_step (o := (d 3).toInt + (d 0).toInt) (by omega) (by omega) (by omega), Int.add_assoc]
    have hz := prt_length (x := (d 2).ints) (o := (d 3).toInt + ((d 0).toInt + 1)) (t := (d 3).toInt + (d 4).toInt) (by omega) (by omega) (by omega)
    have e6 : ((d 0).toInt + 1 + 1 - 1).toNat = ((d 0).toInt + 1).toNat := by omega
    have e7 : ((((d 0).toInt + 1 + 1 - 1).toNat : Nat) : Int) = (d 0).toInt + 1 := by omega
    have e8 : (((d 0).toInt + 1).toNat : Int) = (d 0).toInt + 1 := by omega
    by_cases q : (d 1).toInt + 1 < 64
    ·by_cases f : 16 ≤ (d 0).toInt
     ·unfold pushI at hw
      rw [if_pos f] at hw
      simp only [rollI, wI] at hw
      have cn := cuts_no (x := (d 2).ints) (o := (d 3).toInt) (t := (d 4).toInt) (i := (d 0).toInt) (n := (d 1).toInt) (by omega) (by omega)
      rw [cn] at pf pz
      have ci := cuts_in (x := (d 2).ints) (o := (d 3).toInt) (t := (d 4).toInt) (i := (d 0).toInt + 1) (n := 0) (by omega) (by omega)
      refine ⟨tellA eC10_t1, tellA_ok (allTold'_iff.1 ?_), .inr ⟨2, eC10_h1, _, _, by decide, eC10_y1, dutiesTold_ok ?_, allTold'_iff.1 ?_, ?_⟩⟩
      ·simp only [eC10_t1, er, hw, allTold', dutiesTold, factsA, factsC, factsP, factsR, AV.facts, RW.facts, inK, and_true, Q.holds', E.i, E.s, E.n, D.nat, E.den, BO.den, UO.den, TO.den, D.toInt_int, D.toList_list, D.ints_ofInts, i64min, i64max, u8min, u8max, u16min, u16max, u32min, u32max, u64min, u64max, i32min, i32max, Om.sub, selI, ints_app, ints_cut, ints_upd, ints_rep, ints_splice, ints_seg, len_ints]
       omega
      ·simp only [eC10_d1, F20, F21, F22, cn, hw, allTold', dutiesTold, factsA, factsC, factsP, factsR, AV.facts, RW.facts, inK, and_true, Q.holds', E.i, E.s, E.n, D.nat, E.den, BO.den, UO.den, TO.den, D.toInt_int, D.toList_list, D.ints_ofInts, i64min, i64max, u8min, u8max, u16min, u16max, u32min, u32max, u64min, u64max, i32min, i32max, Om.sub, selI, ints_app, ints_cut, ints_upd, ints_rep, ints_splice, ints_seg, len_ints]
       (try simp only [hy, ints_list, List.map_cons, List.map_append, List.map_nil, map_ints, getT, ofInts0, D.toList_list, D.toInt_int, D.ints_ofInts, List.cons_append, List.append_assoc, List.nil_append, List.length_cons]); first | done | (and_intros <;> first | exact True.intro | rfl | omega | exact last_cut3 (by omega) | assumption)
      ·simp only [eC, eC00, eC01, eC10, eC11, eC10_h1_0, eC10_h1_1, eC10_h1_2, eC10_h1_3, eC10_h1_4, eC10_h1_5, eC10_h1_6, eC10_h1_7, eC10_h1_8, eC10_h1_9, eC10_h1_10, F9, F11, F20, F21, er, hw, e6, e8, cn, allTold', dutiesTold, factsA, factsC, factsP, factsR, AV.facts, RW.facts, inK, and_true, Q.holds', E.i, E.s, E.n, D.nat, E.den, BO.den, UO.den, TO.den, D.toInt_int, D.toList_list, D.ints_ofInts, i64min, i64max, u8min, u8max, u16min, u16max, u32min, u32max, u64min, u64max, i32min, i32max, Om.sub, selI, ints_app, ints_cut, ints_upd, ints_rep, ints_splice, ints_seg, len_ints]
       first | done | (and_intros <;> first | exact True.intro | rfl | omega | exact hr.symm | assumption)
      ·simp only [eC10_h1_0, eC10_h1_1, eC10_h1_2, eC10_h1_3, eC10_h1_4, eC10_h1_5, eC10_h1_6, eC10_h1_7, eC10_h1_8, eC10_h1_9, eC10_h1_10, allTold', dutiesTold, factsA, factsC, factsP, factsR, AV.facts, RW.facts, inK, and_true, Q.holds', E.i, E.s, E.n, D.nat, E.den, BO.den, UO.den, TO.den, D.toInt_int, D.toList_list, D.ints_ofInts, i64min, i64max, u8min, u8max, u16min, u16max, u32min, u32max, u64min, u64max, i32min, i32max, Om.sub, selI, ints_app, ints_cut, ints_upd, ints_rep, ints_splice, ints_seg, len_ints]
       omega
     ·unfold pushI at hw
      rw [if_neg f] at hw
      simp only [stepI, wI] at hw
      have cn := cuts_no (x := (d 2).ints) (o := (d 3).toInt) (t := (d 4).toInt) (i := (d 0).toInt) (n := (d 1).toInt) (by omega) (by omega)
      rw [cn] at pf pz
      have ci := cuts_in (x := (d 2).ints) (o := (d 3).toInt) (t := (d 4).toInt) (i := (d 0).toInt + 1) (n := 0) (by omega) (by omega)
      refine ⟨tellA eC10_t0, tellA_ok (allTold'_iff.1 ?_), .inr ⟨2, eC10_h0, _, _, by decide, eC10_y0, dutiesTold_ok ?_, allTold'_iff.1 ?_, ?_⟩⟩
      ·simp only [eC10_t0, er, hw, allTold', dutiesTold, factsA, factsC, factsP, factsR, AV.facts, RW.facts, inK, and_true, Q.holds', E.i, E.s, E.n, D.nat, E.den, BO.den, UO.den, TO.den, D.toInt_int, D.toList_list, D.ints_ofInts, i64min, i64max, u8min, u8max, u16min, u16max, u32min, u32max, u64min, u64max, i32min, i32max, Om.sub, selI, ints_app, ints_cut, ints_upd, ints_rep, ints_splice, ints_seg, len_ints]
       omega
      ·simp only [eC10_d0, F20, F21, F22, cn, hw, allTold', dutiesTold, factsA, factsC, factsP, factsR, AV.facts, RW.facts, inK, and_true, Q.holds', E.i, E.s, E.n, D.nat, E.den, BO.den, UO.den, TO.den, D.toInt_int, D.toList_list, D.ints_ofInts, i64min, i64max, u8min, u8max, u16min, u16max, u32min, u32max, u64min, u64max, i32min, i32max, Om.sub, selI, ints_app, ints_cut, ints_upd, ints_rep, ints_splice, ints_seg, len_ints]
       (try simp only [hy, ints_list, List.map_cons, List.map_append, List.map_nil, map_ints, getT, ofInts0, D.toList_list, D.toInt_int, D.ints_ofInts, List.cons_append, List.append_assoc, List.nil_append, List.length_cons]); first | done | (and_intros <;> first | exact True.intro | rfl | omega | exact last_cut3 (by omega) | assumption)
      ·simp only [eC, eC00, eC01, eC10, eC11, eC10_h0_0, eC10_h0_1, eC10_h0_2, eC10_h0_3, eC10_h0_4, eC10_h0_5, eC10_h0_6, eC10_h0_7, eC10_h0_8, eC10_h0_9, eC10_h0_10, F9, F11, F20, F21, er, hw, e6, e8, cn, allTold', dutiesTold, factsA, factsC, factsP, factsR, AV.facts, RW.facts, inK, and_true, Q.holds', E.i, E.s, E.n, D.nat, E.den, BO.den, UO.den, TO.den, D.toInt_int, D.toList_list, D.ints_ofInts, i64min, i64max, u8min, u8max, u16min, u16max, u32min, u32max, u64min, u64max, i32min, i32max, Om.sub, selI, ints_app, ints_cut, ints_upd, ints_rep, ints_splice, ints_seg, len_ints]
       first | done | (and_intros <;> first | exact True.intro | rfl | omega | exact hr.symm | assumption)
      ·simp only [eC10_h0_0, eC10_h0_1, eC10_h0_2, eC10_h0_3, eC10_h0_4, eC10_h0_5, eC10_h0_6, eC10_h0_7, eC10_h0_8, eC10_h0_9, eC10_h0_10, allTold', dutiesTold, factsA, factsC, factsP, factsR, AV.facts, RW.facts, inK, and_true, Q.holds', E.i, E.s, E.n, D.nat, E.den, BO.den, UO.den, TO.den, D.toInt_int, D.toList_list, D.ints_ofInts, i64min, i64max, u8min, u8max, u16min, u16max, u32min, u32max, u64min, u64max, i32min, i32max, Om.sub, selI, ints_app, ints_cut, ints_upd, ints_rep, ints_splice, ints_seg, len_ints]
       omega
    ·have f : 16 ≤ (d 0).toInt := by omega
     unfold pushI at hw
     rw [if_pos f] at hw
     simp only [rollI, wI] at hw
     by_cases g : (d 1).toInt + 1 = 1024
     ·have cn := cuts_yes (x := (d 2).ints) (o := (d 3).toInt) (t := (d 4).toInt) (i := (d 0).toInt) (n := (d 1).toInt) (by omega) (by omega)
      rw [cn] at pf pz
      have ci := cuts_in (x := (d 2).ints) (o := (d 3).toInt) (t := (d 4).toInt) (i := (d 0).toInt + 1) (n := 0) (by omega) (by omega)
      refine ⟨tellA eC10_t4, tellA_ok (allTold'_iff.1 ?_), .inr ⟨1, eC10_h4, _, _, by decide, eC10_y4, dutiesTold_ok ?_, allTold'_iff.1 ?_, ?_⟩⟩
      ·simp only [eC10_t4, er, hw, allTold', dutiesTold, factsA, factsC, factsP, factsR, AV.facts, RW.facts, inK, and_true, Q.holds', E.i, E.s, E.n, D.nat, E.den, BO.den, UO.den, TO.den, D.toInt_int, D.toList_list, D.ints_ofInts, i64min, i64max, u8min, u8max, u16min, u16max, u32min, u32max, u64min, u64max, i32min, i32max, Om.sub, selI, ints_app, ints_cut, ints_upd, ints_rep, ints_splice, ints_seg, len_ints]
       omega
      ·simp only [eC10_d4, F20, F21, F22, cn, hw, allTold', dutiesTold, factsA, factsC, factsP, factsR, AV.facts, RW.facts, inK, and_true, Q.holds', E.i, E.s, E.n, D.nat, E.den, BO.den, UO.den, TO.den, D.toInt_int, D.toList_list, D.ints_ofInts, i64min, i64max, u8min, u8max, u16min, u16max, u32min, u32max, u64min, u64max, i32min, i32max, Om.sub, selI, ints_app, ints_cut, ints_upd, ints_rep, ints_splice, ints_seg, len_ints]
       (try simp only [hy, ints_list, List.map_cons, List.map_append, List.map_nil, map_ints, getT, ofInts0, D.toList_list, D.toInt_int, D.ints_ofInts, List.cons_append, List.append_assoc, List.nil_append, List.length_cons]); first | done | (and_intros <;> first | exact True.intro | rfl | omega | exact last_cut3 (by omega) | assumption)
      ·simp only [eC, eC00, eC01, eC10, eC11, eC10_h4_0, eC10_h4_2, eC10_h4_3, eC10_h4_4, eC10_h4_5, eC10_h4_6, eC10_h4_7, eC10_h4_8, eC10_h4_9, eC10_h4_11, eC10_h4_12, F9, F11, F20, F21, er, hw, e6, e8, cn, allTold', dutiesTold, factsA, factsC, factsP, factsR, AV.facts, RW.facts, inK, and_true, Q.holds', E.i, E.s, E.n, D.nat, E.den, BO.den, UO.den, TO.den, D.toInt_int, D.toList_list, D.ints_ofInts, i64min, i64max, u8min, u8max, u16min, u16max, u32min, u32max, u64min, u64max, i32min, i32max, Om.sub, selI, ints_app, ints_cut, ints_upd, ints_rep, ints_splice, ints_seg, len_ints]
       first | done | (and_intros <;> first | exact True.intro | rfl | omega | exact hr.symm | assumption)
      ·simp only [eC10_h4_0, eC10_h4_2, eC10_h4_3, eC10_h4_4, eC10_h4_5, eC10_h4_6, eC10_h4_7, eC10_h4_8, eC10_h4_9, eC10_h4_11, eC10_h4_12, allTold', dutiesTold, factsA, factsC, factsP, factsR, AV.facts, RW.facts, inK, and_true, Q.holds', E.i, E.s, E.n, D.nat, E.den, BO.den, UO.den, TO.den, D.toInt_int, D.toList_list, D.ints_ofInts, i64min, i64max, u8min, u8max, u16min, u16max, u32min, u32max, u64min, u64max, i32min, i32max, Om.sub, selI, ints_app, ints_cut, ints_upd, ints_rep, ints_splice, ints_seg, len_ints]
       omega
     ·by_cases w : winI (d 2).ints (d 3).toInt ((d 0).toInt + 1) < 16777216
      ·have cn := cuts_yes (x := (d 2).ints) (o := (d 3).toInt) (t := (d 4).toInt) (i := (d 0).toInt) (n := (d 1).toInt) (by omega) (by omega)
       rw [cn] at pf pz
       have ci := cuts_in (x := (d 2).ints) (o := (d 3).toInt) (t := (d 4).toInt) (i := (d 0).toInt + 1) (n := 0) (by omega) (by omega)
       refine ⟨tellA eC10_t3, tellA_ok (allTold'_iff.1 ?_), .inr ⟨1, eC10_h3, _, _, by decide, eC10_y3, dutiesTold_ok ?_, allTold'_iff.1 ?_, ?_⟩⟩
       ·simp only [eC10_t3, er, hw, allTold', dutiesTold, factsA, factsC, factsP, factsR, AV.facts, RW.facts, inK, and_true, Q.holds', E.i, E.s, E.n, D.nat, E.den, BO.den, UO.den, TO.den, D.toInt_int, D.toList_list, D.ints_ofInts, i64min, i64max, u8min, u8max, u16min, u16max, u32min, u32max, u64min, u64max, i32min, i32max, Om.sub, selI, ints_app, ints_cut, ints_upd, ints_rep, ints_splice, ints_seg, len_ints]
        omega
       ·simp only [eC10_d3, F20, F21, F22, cn, hw, allTold', dutiesTold, factsA, factsC, factsP, factsR, AV.facts, RW.facts, inK, and_true, Q.holds', E.i, E.s, E.n, D.nat, E.den, BO.den, UO.den, TO.den, D.toInt_int, D.toList_list, D.ints_ofInts, i64min, i64max, u8min, u8max, u16min, u16max, u32min, u32max, u64min, u64max, i32min, i32max, Om.sub, selI, ints_app, ints_cut, ints_upd, ints_rep, ints_splice, ints_seg, len_ints]
        (try simp only [hy, ints_list, List.map_cons, List.map_append, List.map_nil, map_ints, getT, ofInts0, D.toList_list, D.toInt_int, D.ints_ofInts, List.cons_append, List.append_assoc, List.nil_append, List.length_cons]); first | done | (and_intros <;> first | exact True.intro | rfl | omega | exact last_cut3 (by omega) | assumption)
       ·simp only [eC, eC00, eC01, eC10, eC11, eC10_h3_0, eC10_h3_2, eC10_h3_3, eC10_h3_4, eC10_h3_5, eC10_h3_6, eC10_h3_7, eC10_h3_8, eC10_h3_9, eC10_h3_11, eC10_h3_12, F9, F11, F20, F21, er, hw, e6, e8, cn, allTold', dutiesTold, factsA, factsC, factsP, factsR, AV.facts, RW.facts, inK, and_true, Q.holds', E.i, E.s, E.n, D.nat, E.den, BO.den, UO.den, TO.den, D.toInt_int, D.toList_list, D.ints_ofInts, i64min, i64max, u8min, u8max, u16min, u16max, u32min, u32max, u64min, u64max, i32min, i32max, Om.sub, selI, ints_app, ints_cut, ints_upd, ints_rep, ints_splice, ints_seg, len_ints]
        first | done | (and_intros <;> first | exact True.intro | rfl | omega | exact hr.symm | assumption)
       ·simp only [eC10_h3_0, eC10_h3_2, eC10_h3_3, eC10_h3_4, eC10_h3_5, eC10_h3_6, eC10_h3_7, eC10_h3_8, eC10_h3_9, eC10_h3_11, eC10_h3_12, allTold', dutiesTold, factsA, factsC, factsP, factsR, AV.facts, RW.facts, inK, and_true, Q.holds', E.i, E.s, E.n, D.nat, E.den, BO.den, UO.den, TO.den, D.toInt_int, D.toList_list, D.ints_ofInts, i64min, i64max, u8min, u8max, u16min, u16max, u32min, u32max, u64min, u64max, i32min, i32max, Om.sub, selI, ints_app, ints_cut, ints_upd, ints_rep, ints_splice, ints_seg, len_ints]
        omega
      ·have cn := cuts_no (x := (d 2).ints) (o := (d 3).toInt) (t := (d 4).toInt) (i := (d 0).toInt) (n := (d 1).toInt) (by omega) (by omega)
       rw [cn] at pf pz
       have ci := cuts_in (x := (d 2).ints) (o := (d 3).toInt) (t := (d 4).toInt) (i := (d 0).toInt + 1) (n := 0) (by omega) (by omega)
       refine ⟨tellA eC10_t2, tellA_ok (allTold'_iff.1 ?_), .inr ⟨2, eC10_h2, _, _, by decide, eC10_y2, dutiesTold_ok ?_, allTold'_iff.1 ?_, ?_⟩⟩
       ·simp only [eC10_t2, er, hw, allTold', dutiesTold, factsA, factsC, factsP, factsR, AV.facts, RW.facts, inK, and_true, Q.holds', E.i, E.s, E.n, D.nat, E.den, BO.den, UO.den, TO.den, D.toInt_int, D.toList_list, D.ints_ofInts, i64min, i64max, u8min, u8max, u16min, u16max, u32min, u32max, u64min, u64max, i32min, i32max, Om.sub, selI, ints_app, ints_cut, ints_upd, ints_rep, ints_splice, ints_seg, len_ints]
        omega
       ·simp only [eC10_d2, F20, F21, F22, cn, hw, allTold', dutiesTold, factsA, factsC, factsP, factsR, AV.facts, RW.facts, inK, and_true, Q.holds', E.i, E.s, E.n, D.nat, E.den, BO.den, UO.den, TO.den, D.toInt_int, D.toList_list, D.ints_ofInts, i64min, i64max, u8min, u8max, u16min, u16max, u32min, u32max, u64min, u64max, i32min, i32max, Om.sub, selI, ints_app, ints_cut, ints_upd, ints_rep, ints_splice, ints_seg, len_ints]
        (try simp only [hy, ints_list, List.map_cons, List.map_append, List.map_nil, map_ints, getT, ofInts0, D.toList_list, D.toInt_int, D.ints_ofInts, List.cons_append, List.append_assoc, List.nil_append, List.length_cons]); first | done | (and_intros <;> first | exact True.intro | rfl | omega | exact last_cut3 (by omega) | assumption)
       ·simp only [eC, eC00, eC01, eC10, eC11, eC10_h2_0, eC10_h2_1, eC10_h2_2, eC10_h2_3, eC10_h2_4, eC10_h2_5, eC10_h2_6, eC10_h2_7, eC10_h2_8, eC10_h2_9, eC10_h2_10, F9, F11, F20, F21, er, hw, e6, e8, cn, allTold', dutiesTold, factsA, factsC, factsP, factsR, AV.facts, RW.facts, inK, and_true, Q.holds', E.i, E.s, E.n, D.nat, E.den, BO.den, UO.den, TO.den, D.toInt_int, D.toList_list, D.ints_ofInts, i64min, i64max, u8min, u8max, u16min, u16max, u32min, u32max, u64min, u64max, i32min, i32max, Om.sub, selI, ints_app, ints_cut, ints_upd, ints_rep, ints_splice, ints_seg, len_ints]
        first | done | (and_intros <;> first | exact True.intro | rfl | omega | exact hr.symm | assumption)
       ·simp only [eC10_h2_0, eC10_h2_1, eC10_h2_2, eC10_h2_3, eC10_h2_4, eC10_h2_5, eC10_h2_6, eC10_h2_7, eC10_h2_8, eC10_h2_9, eC10_h2_10, allTold', dutiesTold, factsA, factsC, factsP, factsR, AV.facts, RW.facts, inK, and_true, Q.holds', E.i, E.s, E.n, D.nat, E.den, BO.den, UO.den, TO.den, D.toInt_int, D.toList_list, D.ints_ofInts, i64min, i64max, u8min, u8max, u16min, u16max, u32min, u32max, u64min, u64max, i32min, i32max, Om.sub, selI, ints_app, ints_cut, ints_upd, ints_rep, ints_splice, ints_seg, len_ints]
        omega
 | 3, _ =>
   have hp := allTold'_iff.2 hp
   simp only [eC, eC11, allTold', dutiesTold, factsA, factsC, factsP, factsR, AV.facts, RW.facts, inK, and_true, Q.holds', E.i, E.s, E.n, D.nat, E.den, BO.den, UO.den, TO.den, D.toInt_int, D.toList_list, D.ints_ofInts, i64min, i64max, u8min, u8max, u16min, u16max, u32min, u32max, u64min, u64max, i32min, i32max, Om.sub, selI, ints_app, ints_cut, ints_upd, ints_rep, ints_splice, ints_seg, len_ints] at hp hR hA
   simp only [F9, F11, F20, F21, D.toInt_int, D.ints_ofInts, UO.den] at hp
   obtain ⟨p1, p2, p3, p4, p5, p6, p7, p8, p9, p10, p11, p12, p13, p14, pf⟩ := hp
   by_cases h : (d 4).toInt ≤ (d 0).toInt
   ·have ce := cuts_end (x := (d 2).ints) (o := (d 3).toInt) (n := (d 1).toInt) h
    have i4 : (d 0).toInt = (d 4).toInt := by omega
    rw [← i4] at ce
    refine ⟨tellA eC11_t5, tellA_ok (allTold'_iff.1 ?_), .inl ⟨_, _, _, eC11_y5, dutiesTold_ok ?_⟩⟩
    ·simp only [eC11_t5, allTold', dutiesTold, factsA, factsC, factsP, factsR, AV.facts, RW.facts, inK, and_true, Q.holds', E.i, E.s, E.n, D.nat, E.den, BO.den, UO.den, TO.den, D.toInt_int, D.toList_list, D.ints_ofInts, i64min, i64max, u8min, u8max, u16min, u16max, u32min, u32max, u64min, u64max, i32min, i32max, Om.sub, selI, ints_app, ints_cut, ints_upd, ints_rep, ints_splice, ints_seg, len_ints]
     omega
    ·simp only [eC11_d5, F9, F11, F20, F21, F22, allTold', dutiesTold, factsA, factsC, factsP, factsR, AV.facts, RW.facts, inK, and_true, Q.holds', E.i, E.s, E.n, D.nat, E.den, BO.den, UO.den, TO.den, D.toInt_int, D.toList_list, D.ints_ofInts, i64min, i64max, u8min, u8max, u16min, u16max, u32min, u32max, u64min, u64max, i32min, i32max, Om.sub, selI, ints_app, ints_cut, ints_upd, ints_rep, ints_splice, ints_seg, len_ints]
     (try simp only [← i4, ce, p7, Int.natCast_zero, Int.add_zero, prt_nil (x := (d 2).ints) (o := (d 3).toInt + (d 0).toInt) (t := (d 3).toInt + (d 0).toInt) (by omega) (by omega), List.append_nil, List.length_nil, D.ints_ofInts]); first | done | (and_intros <;> first | exact True.intro | rfl | omega | exact (last_all (by omega)).symm | assumption)
   ·have es : ((d 0).toInt + 1 - 1).toNat = (d 0).toInt.toNat := by omega
    have et : ((((d 0).toInt + 1 - 1).toNat : Nat) : Int) = (d 0).toInt := by omega
    rw [es] at p7
    rw [et] at p9
    have er : iopI .rem .i64 (d 8).toInt 16 = (d 0).toInt % 16 := by rw [p8, rem_emod _ (by omega)]
    obtain ⟨el, hw, hr⟩ := push_all (x := (d 2).ints) (o := (d 3).toInt) (i := (d 0).toInt) (by omega) (by omega) (by omega) p7 p9
    have hy : prt (d 2).ints ((d 3).toInt + (d 0).toInt) ((d 3).toInt + (d 4).toInt) = (d 2).ints[((d 3).toInt + (d 0).toInt).toNat]?.getD 0 :: prt (d 2).ints ((d 3).toInt + ((d 0).toInt + 1)) ((d 3).toInt + (d 4).toInt) := by
     rw [prt_step (o := (d 3).toInt + (d 0).toInt) (by omega) (by omega) (by omega), Int.add_assoc]
    have hz := prt_length (x := (d 2).ints) (o := (d 3).toInt + ((d 0).toInt + 1)) (t := (d 3).toInt + (d 4).toInt) (by omega) (by omega) (by omega)
    have e6 : ((d 0).toInt + 1 + 1 - 1).toNat = ((d 0).toInt + 1).toNat := by omega
    have e7 : ((((d 0).toInt + 1 + 1 - 1).toNat : Nat) : Int) = (d 0).toInt + 1 := by omega
    have e8 : (((d 0).toInt + 1).toNat : Int) = (d 0).toInt + 1 := by omega
    by_cases q : (d 1).toInt + 1 < 64
    ·by_cases f : 16 ≤ (d 0).toInt
     ·unfold pushI at hw
      rw [if_pos f] at hw
      simp only [rollI, wI] at hw
      have cn := cuts_no (x := (d 2).ints) (o := (d 3).toInt) (t := (d 4).toInt) (i := (d 0).toInt) (n := (d 1).toInt) (by omega) (by omega)
      rw [cn] at pf
      have ci := cuts_in (x := (d 2).ints) (o := (d 3).toInt) (t := (d 4).toInt) (i := (d 0).toInt + 1) (n := 0) (by omega) (by omega)
      refine ⟨tellA eC11_t1, tellA_ok (allTold'_iff.1 ?_), .inr ⟨3, eC11_h1, _, _, by decide, eC11_y1, dutiesTold_ok ?_, allTold'_iff.1 ?_, ?_⟩⟩
      ·simp only [eC11_t1, er, hw, allTold', dutiesTold, factsA, factsC, factsP, factsR, AV.facts, RW.facts, inK, and_true, Q.holds', E.i, E.s, E.n, D.nat, E.den, BO.den, UO.den, TO.den, D.toInt_int, D.toList_list, D.ints_ofInts, i64min, i64max, u8min, u8max, u16min, u16max, u32min, u32max, u64min, u64max, i32min, i32max, Om.sub, selI, ints_app, ints_cut, ints_upd, ints_rep, ints_splice, ints_seg, len_ints]
       omega
      ·simp only [eC11_d1, F20, F21, F22, cn, hw, allTold', dutiesTold, factsA, factsC, factsP, factsR, AV.facts, RW.facts, inK, and_true, Q.holds', E.i, E.s, E.n, D.nat, E.den, BO.den, UO.den, TO.den, D.toInt_int, D.toList_list, D.ints_ofInts, i64min, i64max, u8min, u8max, u16min, u16max, u32min, u32max, u64min, u64max, i32min, i32max, Om.sub, selI, ints_app, ints_cut, ints_upd, ints_rep, ints_splice, ints_seg, len_ints]
       (try simp only [hy, ints_list, List.map_cons, List.map_append, List.map_nil, map_ints, getT, ofInts0, D.toList_list, D.toInt_int, D.ints_ofInts, List.cons_append, List.append_assoc, List.nil_append, List.length_cons]); first | done | (and_intros <;> first | exact True.intro | rfl | omega | exact last_cut3 (by omega) | assumption)
      ·simp only [eC, eC00, eC01, eC10, eC11, eC11_h1_0, eC11_h1_1, eC11_h1_2, eC11_h1_3, eC11_h1_4, eC11_h1_5, eC11_h1_6, eC11_h1_7, eC11_h1_8, eC11_h1_9, eC11_h1_10, eC11_h1_11, eC11_h1_12, F9, F11, F20, F21, er, hw, e6, e8, cn, allTold', dutiesTold, factsA, factsC, factsP, factsR, AV.facts, RW.facts, inK, and_true, Q.holds', E.i, E.s, E.n, D.nat, E.den, BO.den, UO.den, TO.den, D.toInt_int, D.toList_list, D.ints_ofInts, i64min, i64max, u8min, u8max, u16min, u16max, u32min, u32max, u64min, u64max, i32min, i32max, Om.sub, selI, ints_app, ints_cut, ints_upd, ints_rep, ints_splice, ints_seg, len_ints]
       first | done | (and_intros <;> first | exact True.intro | rfl | omega | exact hr.symm | assumption)
      ·simp only [eC11_h1_0, eC11_h1_1, eC11_h1_2, eC11_h1_3, eC11_h1_4, eC11_h1_5, eC11_h1_6, eC11_h1_7, eC11_h1_8, eC11_h1_9, eC11_h1_10, eC11_h1_11, eC11_h1_12, allTold', dutiesTold, factsA, factsC, factsP, factsR, AV.facts, RW.facts, inK, and_true, Q.holds', E.i, E.s, E.n, D.nat, E.den, BO.den, UO.den, TO.den, D.toInt_int, D.toList_list, D.ints_ofInts, i64min, i64max, u8min, u8max, u16min, u16max, u32min, u32max, u64min, u64max, i32min, i32max, Om.sub, selI, ints_app, ints_cut, ints_upd, ints_rep, ints_splice, ints_seg, len_ints]
       omega
     ·unfold pushI at hw
      rw [if_neg f] at hw
      simp only [stepI, wI] at hw
      have cn := cuts_no (x := (d 2).ints) (o := (d 3).toInt) (t := (d 4).toInt) (i := (d 0).toInt) (n := (d 1).toInt) (by omega) (by omega)
      rw [cn] at pf
      have ci := cuts_in (x := (d 2).ints) (o := (d 3).toInt) (t := (d 4).toInt) (i := (d 0).toInt + 1) (n := 0) (by omega) (by omega)
      refine ⟨tellA eC11_t0, tellA_ok (allTold'_iff.1 ?_), .inr ⟨3, eC11_h0, _, _, by decide, eC11_y0, dutiesTold_ok ?_, allTold'_iff.1 ?_, ?_⟩⟩
      ·simp only [eC11_t0, er, hw, allTold', dutiesTold, factsA, factsC, factsP, factsR, AV.facts, RW.facts, inK, and_true, Q.holds', E.i, E.s, E.n, D.nat, E.den, BO.den, UO.den, TO.den, D.toInt_int, D.toList_list, D.ints_ofInts, i64min, i64max, u8min, u8max, u16min, u16max, u32min, u32max, u64min, u64max, i32min, i32max, Om.sub, selI, ints_app, ints_cut, ints_upd, ints_rep, ints_splice, ints_seg, len_ints]
       omega
      ·simp only [eC11_d0, F20, F21, F22, cn, hw, allTold', dutiesTold, factsA, factsC, factsP, factsR, AV.facts, RW.facts, inK, and_true, Q.holds', E.i, E.s, E.n, D.nat, E.den, BO.den, UO.den, TO.den, D.toInt_int, D.toList_list, D.ints_ofInts, i64min, i64max, u8min, u8max, u16min, u16max, u32min, u32max, u64min, u64max, i32min, i32max, Om.sub, selI, ints_app, ints_cut, ints_upd, ints_rep, ints_splice, ints_seg, len_ints]
       (try simp only [hy, ints_list, List.map_cons, List.map_append, List.map_nil, map_ints, getT, ofInts0, D.toList_list, D.toInt_int, D.ints_ofInts, List.cons_append, List.append_assoc, List.nil_append, List.length_cons]); first | done | (and_intros <;> first | exact True.intro | rfl | omega | exact last_cut3 (by omega) | assumption)
      ·simp only [eC, eC00, eC01, eC10, eC11, eC11_h0_0, eC11_h0_1, eC11_h0_2, eC11_h0_3, eC11_h0_4, eC11_h0_5, eC11_h0_6, eC11_h0_7, eC11_h0_8, eC11_h0_9, eC11_h0_10, eC11_h0_11, eC11_h0_12, F9, F11, F20, F21, er, hw, e6, e8, cn, allTold', dutiesTold, factsA, factsC, factsP, factsR, AV.facts, RW.facts, inK, and_true, Q.holds', E.i, E.s, E.n, D.nat, E.den, BO.den, UO.den, TO.den, D.toInt_int, D.toList_list, D.ints_ofInts, i64min, i64max, u8min, u8max, u16min, u16max, u32min, u32max, u64min, u64max, i32min, i32max, Om.sub, selI, ints_app, ints_cut, ints_upd, ints_rep, ints_splice, ints_seg, len_ints]
       first | done | (and_intros <;> first | exact True.intro | rfl | omega | exact hr.symm | assumption)
      ·simp only [eC11_h0_0, eC11_h0_1, eC11_h0_2, eC11_h0_3, eC11_h0_4, eC11_h0_5, eC11_h0_6, eC11_h0_7, eC11_h0_8, eC11_h0_9, eC11_h0_10, eC11_h0_11, eC11_h0_12, allTold', dutiesTold, factsA, factsC, factsP, factsR, AV.facts, RW.facts, inK, and_true, Q.holds', E.i, E.s, E.n, D.nat, E.den, BO.den, UO.den, TO.den, D.toInt_int, D.toList_list, D.ints_ofInts, i64min, i64max, u8min, u8max, u16min, u16max, u32min, u32max, u64min, u64max, i32min, i32max, Om.sub, selI, ints_app, ints_cut, ints_upd, ints_rep, ints_splice, ints_seg, len_ints]
       omega
    ·have f : 16 ≤ (d 0).toInt := by omega
     unfold pushI at hw
     rw [if_pos f] at hw
     simp only [rollI, wI] at hw
     by_cases g : (d 1).toInt + 1 = 1024
     ·have cn := cuts_yes (x := (d 2).ints) (o := (d 3).toInt) (t := (d 4).toInt) (i := (d 0).toInt) (n := (d 1).toInt) (by omega) (by omega)
      rw [cn] at pf
      have ci := cuts_in (x := (d 2).ints) (o := (d 3).toInt) (t := (d 4).toInt) (i := (d 0).toInt + 1) (n := 0) (by omega) (by omega)
      refine ⟨tellA eC11_t4, tellA_ok (allTold'_iff.1 ?_), .inr ⟨1, eC11_h4, _, _, by decide, eC11_y4, dutiesTold_ok ?_, allTold'_iff.1 ?_, ?_⟩⟩
      ·simp only [eC11_t4, er, hw, allTold', dutiesTold, factsA, factsC, factsP, factsR, AV.facts, RW.facts, inK, and_true, Q.holds', E.i, E.s, E.n, D.nat, E.den, BO.den, UO.den, TO.den, D.toInt_int, D.toList_list, D.ints_ofInts, i64min, i64max, u8min, u8max, u16min, u16max, u32min, u32max, u64min, u64max, i32min, i32max, Om.sub, selI, ints_app, ints_cut, ints_upd, ints_rep, ints_splice, ints_seg, len_ints]
       omega
      ·simp only [eC11_d4, F20, F21, F22, cn, hw, allTold', dutiesTold, factsA, factsC, factsP, factsR, AV.facts, RW.facts, inK, and_true, Q.holds', E.i, E.s, E.n, D.nat, E.den, BO.den, UO.den, TO.den, D.toInt_int, D.toList_list, D.ints_ofInts, i64min, i64max, u8min, u8max, u16min, u16max, u32min, u32max, u64min, u64max, i32min, i32max, Om.sub, selI, ints_app, ints_cut, ints_upd, ints_rep, ints_splice, ints_seg, len_ints]
       (try simp only [hy, ints_list, List.map_cons, List.map_append, List.map_nil, map_ints, getT, ofInts0, D.toList_list, D.toInt_int, D.ints_ofInts, List.cons_append, List.append_assoc, List.nil_append, List.length_cons]); first | done | (and_intros <;> first | exact True.intro | rfl | omega | exact last_cut3 (by omega) | assumption)
      ·simp only [eC, eC00, eC01, eC10, eC11, eC11_h4_0, eC11_h4_2, eC11_h4_3, eC11_h4_4, eC11_h4_5, eC11_h4_6, eC11_h4_7, eC11_h4_8, eC11_h4_9, eC11_h4_11, eC11_h4_12, F9, F11, F20, F21, er, hw, e6, e8, cn, allTold', dutiesTold, factsA, factsC, factsP, factsR, AV.facts, RW.facts, inK, and_true, Q.holds', E.i, E.s, E.n, D.nat, E.den, BO.den, UO.den, TO.den, D.toInt_int, D.toList_list, D.ints_ofInts, i64min, i64max, u8min, u8max, u16min, u16max, u32min, u32max, u64min, u64max, i32min, i32max, Om.sub, selI, ints_app, ints_cut, ints_upd, ints_rep, ints_splice, ints_seg, len_ints]
       first | done | (and_intros <;> first | exact True.intro | rfl | omega | exact hr.symm | assumption)
      ·simp only [eC11_h4_0, eC11_h4_2, eC11_h4_3, eC11_h4_4, eC11_h4_5, eC11_h4_6, eC11_h4_7, eC11_h4_8, eC11_h4_9, eC11_h4_11, eC11_h4_12, allTold', dutiesTold, factsA, factsC, factsP, factsR, AV.facts, RW.facts, inK, and_true, Q.holds', E.i, E.s, E.n, D.nat, E.den, BO.den, UO.den, TO.den, D.toInt_int, D.toList_list, D.ints_ofInts, i64min, i64max, u8min, u8max, u16min, u16max, u32min, u32max, u64min, u64max, i32min, i32max, Om.sub, selI, ints_app, ints_cut, ints_upd, ints_rep, ints_splice, ints_seg, len_ints]
       omega
     ·by_cases w : winI (d 2).ints (d 3).toInt ((d 0).toInt + 1) < 16777216
      ·have cn := cuts_yes (x := (d 2).ints) (o := (d 3).toInt) (t := (d 4).toInt) (i := (d 0).toInt) (n := (d 1).toInt) (by omega) (by omega)
       rw [cn] at pf
       have ci := cuts_in (x := (d 2).ints) (o := (d 3).toInt) (t := (d 4).toInt) (i := (d 0).toInt + 1) (n := 0) (by omega) (by omega)
       refine ⟨tellA eC11_t3, tellA_ok (allTold'_iff.1 ?_), .inr ⟨1, eC11_h3, _, _, by decide, eC11_y3, dutiesTold_ok ?_, allTold'_iff.1 ?_, ?_⟩⟩
       ·simp only [eC11_t3, er, hw, allTold', dutiesTold, factsA, factsC, factsP, factsR, AV.facts, RW.facts, inK, and_true, Q.holds', E.i, E.s, E.n, D.nat, E.den, BO.den, UO.den, TO.den, D.toInt_int, D.toList_list, D.ints_ofInts, i64min, i64max, u8min, u8max, u16min, u16max, u32min, u32max, u64min, u64max, i32min, i32max, Om.sub, selI, ints_app, ints_cut, ints_upd, ints_rep, ints_splice, ints_seg, len_ints]
        omega
       ·simp only [eC11_d3, F20, F21, F22, cn, hw, allTold', dutiesTold, factsA, factsC, factsP, factsR, AV.facts, RW.facts, inK, and_true, Q.holds', E.i, E.s, E.n, D.nat, E.den, BO.den, UO.den, TO.den, D.toInt_int, D.toList_list, D.ints_ofInts, i64min, i64max, u8min, u8max, u16min, u16max, u32min, u32max, u64min, u64max, i32min, i32max, Om.sub, selI, ints_app, ints_cut, ints_upd, ints_rep, ints_splice, ints_seg, len_ints]
        (try simp only [hy, ints_list, List.map_cons, List.map_append, List.map_nil, map_ints, getT, ofInts0, D.toList_list, D.toInt_int, D.ints_ofInts, List.cons_append, List.append_assoc, List.nil_append, List.length_cons]); first | done | (and_intros <;> first | exact True.intro | rfl | omega | exact last_cut3 (by omega) | assumption)
       ·simp only [eC, eC00, eC01, eC10, eC11, eC11_h3_0, eC11_h3_2, eC11_h3_3, eC11_h3_4, eC11_h3_5, eC11_h3_6, eC11_h3_7, eC11_h3_8, eC11_h3_9, eC11_h3_11, eC11_h3_12, F9, F11, F20, F21, er, hw, e6, e8, cn, allTold', dutiesTold, factsA, factsC, factsP, factsR, AV.facts, RW.facts, inK, and_true, Q.holds', E.i, E.s, E.n, D.nat, E.den, BO.den, UO.den, TO.den, D.toInt_int, D.toList_list, D.ints_ofInts, i64min, i64max, u8min, u8max, u16min, u16max, u32min, u32max, u64min, u64max, i32min, i32max, Om.sub, selI, ints_app, ints_cut, ints_upd, ints_rep, ints_splice, ints_seg, len_ints]
        first | done | (and_intros <;> first | exact True.intro | rfl | omega | exact hr.symm | assumption)
       ·simp only [eC11_h3_0, eC11_h3_2, eC11_h3_3, eC11_h3_4, eC11_h3_5, eC11_h3_6, eC11_h3_7, eC11_h3_8, eC11_h3_9, eC11_h3_11, eC11_h3_12, allTold', dutiesTold, factsA, factsC, factsP, factsR, AV.facts, RW.facts, inK, and_true, Q.holds', E.i, E.s, E.n, D.nat, E.den, BO.den, UO.den, TO.den, D.toInt_int, D.toList_list, D.ints_ofInts, i64min, i64max, u8min, u8max, u16min, u16max, u32min, u32max, u64min, u64max, i32min, i32max, Om.sub, selI, ints_app, ints_cut, ints_upd, ints_rep, ints_splice, ints_seg, len_ints]
        omega
      ·have cn := cuts_no (x := (d 2).ints) (o := (d 3).toInt) (t := (d 4).toInt) (i := (d 0).toInt) (n := (d 1).toInt) (by omega) (by omega)
       rw [cn] at pf
       have ci := cuts_in (x := (d 2).ints) (o := (d 3).toInt) (t := (d 4).toInt) (i := (d 0).toInt + 1) (n := 0) (by omega) (by omega)
       refine ⟨tellA eC11_t2, tellA_ok (allTold'_iff.1 ?_), .inr ⟨3, eC11_h2, _, _, by decide, eC11_y2, dutiesTold_ok ?_, allTold'_iff.1 ?_, ?_⟩⟩
       ·simp only [eC11_t2, er, hw, allTold', dutiesTold, factsA, factsC, factsP, factsR, AV.facts, RW.facts, inK, and_true, Q.holds', E.i, E.s, E.n, D.nat, E.den, BO.den, UO.den, TO.den, D.toInt_int, D.toList_list, D.ints_ofInts, i64min, i64max, u8min, u8max, u16min, u16max, u32min, u32max, u64min, u64max, i32min, i32max, Om.sub, selI, ints_app, ints_cut, ints_upd, ints_rep, ints_splice, ints_seg, len_ints]
        omega
       ·simp only [eC11_d2, F20, F21, F22, cn, hw, allTold', dutiesTold, factsA, factsC, factsP, factsR, AV.facts, RW.facts, inK, and_true, Q.holds', E.i, E.s, E.n, D.nat, E.den, BO.den, UO.den, TO.den, D.toInt_int, D.toList_list, D.ints_ofInts, i64min, i64max, u8min, u8max, u16min, u16max, u32min, u32max, u64min, u64max, i32min, i32max, Om.sub, selI, ints_app, ints_cut, ints_upd, ints_rep, ints_splice, ints_seg, len_ints]
        (try simp only [hy, ints_list, List.map_cons, List.map_append, List.map_nil, map_ints, getT, ofInts0, D.toList_list, D.toInt_int, D.ints_ofInts, List.cons_append, List.append_assoc, List.nil_append, List.length_cons]); first | done | (and_intros <;> first | exact True.intro | rfl | omega | exact last_cut3 (by omega) | assumption)
       ·simp only [eC, eC00, eC01, eC10, eC11, eC11_h2_0, eC11_h2_1, eC11_h2_2, eC11_h2_3, eC11_h2_4, eC11_h2_5, eC11_h2_6, eC11_h2_7, eC11_h2_8, eC11_h2_9, eC11_h2_10, eC11_h2_11, eC11_h2_12, F9, F11, F20, F21, er, hw, e6, e8, cn, allTold', dutiesTold, factsA, factsC, factsP, factsR, AV.facts, RW.facts, inK, and_true, Q.holds', E.i, E.s, E.n, D.nat, E.den, BO.den, UO.den, TO.den, D.toInt_int, D.toList_list, D.ints_ofInts, i64min, i64max, u8min, u8max, u16min, u16max, u32min, u32max, u64min, u64max, i32min, i32max, Om.sub, selI, ints_app, ints_cut, ints_upd, ints_rep, ints_splice, ints_seg, len_ints]
        first | done | (and_intros <;> first | exact True.intro | rfl | omega | exact hr.symm | assumption)
       ·simp only [eC11_h2_0, eC11_h2_1, eC11_h2_2, eC11_h2_3, eC11_h2_4, eC11_h2_5, eC11_h2_6, eC11_h2_7, eC11_h2_8, eC11_h2_9, eC11_h2_10, eC11_h2_11, eC11_h2_12, allTold', dutiesTold, factsA, factsC, factsP, factsR, AV.facts, RW.facts, inK, and_true, Q.holds', E.i, E.s, E.n, D.nat, E.den, BO.den, UO.den, TO.den, D.toInt_int, D.toList_list, D.ints_ofInts, i64min, i64max, u8min, u8max, u16min, u16max, u32min, u32max, u64min, u64max, i32min, i32max, Om.sub, selI, ints_app, ints_cut, ints_upd, ints_rep, ints_splice, ints_seg, len_ints]
        omega
theorem eC00_holds : LHolds Try.prog (loopAt Try.prog 34 [4, 1]) eC00 F := eC_holds 0 (by decide)
theorem eC01_holds : LHolds Try.prog (loopAt Try.prog 34 [4, 1]) eC01 F := eC_holds 1 (by decide)
theorem eC10_holds : LHolds Try.prog (loopAt Try.prog 34 [4, 1]) eC10 F := eC_holds 2 (by decide)
theorem eC11_holds : LHolds Try.prog (loopAt Try.prog 34 [4, 1]) eC11 F := eC_holds 3 (by decide)

end Go.Proofs.Ytlfehhmkpppajaa.Za
