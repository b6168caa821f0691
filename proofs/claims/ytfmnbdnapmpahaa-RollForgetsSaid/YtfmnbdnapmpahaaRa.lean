/-
  Contracts of this seat: what loops and calls leave, for all inputs. No condition.
-/
import Derived.Test.YtfmnbdnapmpahaaSylm
import Derived.Test.YtfmnbdnapmpahaaCo
set_option linter.unusedSimpArgs false
set_option linter.unusedVariables false
namespace Go.Proofs.Ytfmnbdnapmpahaa.Ra
open Go.RowKit Go.Ev Go.Proofs.Ytfmnbdnapmpahaa.Co


def wI (c : Int) : Int := iopI .mul .u32 (iopI .add .u32 (iopI .mul .u32 2 c) 1) 2654435761
def stepI (n c : Int) : Int := iopI .add .u32 (iopI .mul .u32 3 n) (wI c)
def sumN (n : Int) (l : List Int) : Int := l.foldl stepI n
/-- Three times, again and again. -/
def tripI : Nat → Int → Int
  | 0, n => n
  | k + 1, n => tripI k (3 * n % 4294967296)
/-- The ring behind n bytes, x[o..). -/
def ringN (x : List Int) (o : Int) : Nat → List Int
  | 0 => List.replicate 16 0
  | n + 1 => (ringN x o n).set (n % 16) ((x[(o + n).toNat]?).getD 0)
/-- The sum of the last sixteen of n bytes. -/
def winI (x : List Int) (o n : Int) : Int := sumN 0 (prt x (if n ≤ 16 then o else o + n - 16) (o + n))
/-- A ring behind all bytes of a list; the sum of its last sixteen. -/
def ringL (l : List Int) : List Int := ringN l 0 l.length
def winL (l : List Int) : Int := winI l 0 l.length
def rollI (s o c : Int) : Int := iopI .add .u32 (iopI .mul .u32 3 (iopI .sub .u32 s (iopI .mul .u32 (wI o) 14348907))) (wI c)
/-- The sum behind a push. -/
def pushI (s n : Int) (r : List Int) (c : Int) : Int := if 16 ≤ n then rollI s ((r[(n % 16).toNat]?).getD 0) c else stepI s c
def twoI (x : List Int) (o n : Int) (y : List Int) (p m : Int) : List Int := prt x o (o + n) ++ prt y p (p + m)
def markI (i : Int) : Int := 160 + i % 90
def lentI (l : List Int) : List Int := l ++ [markI l.length, markI (l.length + 1), markI (l.length + 2)]
/-- 1: the sum of bytes behind some with sum n. 2: from 0. 6: bytes with three marks behind them. 7: remainders. 8: three times, from i up to t. 9: the ring ahead of round i. 10: how many came. 11: their sum. 12, 13: ring and sum behind two parts. 15: the sum behind a push. -/
def F : Nat → D → D
  | 1 => fun a => .int (sumN (argD a 0).toInt (prt (argD a 1).ints (argD a 2).toInt (argD a 3).toInt))
  | 2 => fun a => .int (sumN 0 (prt (argD a 0).ints (argD a 1).toInt (argD a 2).toInt))
  | 6 => fun a => D.ofInts (lentI (prt (argD a 0).ints (argD a 1).toInt (argD a 2).toInt))
  | 7 => fun a => .int ((argD a 0).toInt % (argD a 1).toInt)
  | 8 => fun a => .int (tripI ((argD a 1).toInt - (argD a 0).toInt).toNat (argD a 2).toInt)
  | 9 => fun a => D.ofInts (ringN (argD a 0).ints (argD a 1).toInt ((argD a 2).toInt - 1).toNat)
  | 10 => fun a => .int ((argD a 0).toInt - 1).toNat
  | 11 => fun a => .int (winI (argD a 0).ints (argD a 1).toInt (((argD a 2).toInt - 1).toNat : Nat))
  | 12 => fun a => D.ofInts (ringL (twoI (argD a 0).ints (argD a 1).toInt (argD a 2).toInt (argD a 3).ints (argD a 4).toInt (argD a 5).toInt))
  | 13 => fun a => .int (winL (twoI (argD a 0).ints (argD a 1).toInt (argD a 2).toInt (argD a 3).ints (argD a 4).toInt (argD a 5).toInt))
  | 15 => fun a => .int (pushI (argD a 0).toInt (argD a 1).toInt (argD a 2).ints (argD a 3).toInt)
  | _ => fun x => x

theorem F1 (n x o t : D) : F 1 (.list [n, .list [x, .list [o, .list [t, .int 0]]]]) = .int (sumN n.toInt (prt x.ints o.toInt t.toInt)) := rfl
theorem F2 (x o t : D) : F 2 (.list [x, .list [o, .list [t, .int 0]]]) = .int (sumN 0 (prt x.ints o.toInt t.toInt)) := rfl
theorem F6 (x o t : D) : F 6 (.list [x, .list [o, .list [t, .int 0]]]) = D.ofInts (lentI (prt x.ints o.toInt t.toInt)) := rfl
theorem wrap32 (x : Int) : IntKind.u32.wrap x = x % 4294967296 := by simp [IntKind.wrap, IntKind.signed, IntKind.bits]
theorem add32 (x y : Int) : iopI .add .u32 x y = (x + y) % 4294967296 := wrap32 _
theorem sub32 (x y : Int) : iopI .sub .u32 x y = (x - y) % 4294967296 := wrap32 _
theorem mul32 (x y : Int) : iopI .mul .u32 x y = (x * y) % 4294967296 := wrap32 _
theorem wI_eq (c : Int) : wI c = ((2 * c) % 4294967296 + 1) % 4294967296 * 2654435761 % 4294967296 := by
  unfold wI; rw [mul32, mul32, add32]
theorem step_eq (n c : Int) : stepI n c = (3 * n % 4294967296 + wI c) % 4294967296 := by
  unfold stepI; rw [add32, mul32]
theorem step_in (n c : Int) : 0 ≤ stepI n c ∧ stepI n c ≤ 4294967295 := add_in .u32 _ _
theorem wI_in (c : Int) : 0 ≤ wI c ∧ wI c ≤ 4294967295 := mul_in .u32 _ _
theorem sum_in : ∀ (l : List Int) (n : Int), (0 ≤ n ∧ n ≤ 4294967295) → 0 ≤ sumN n l ∧ sumN n l ≤ 4294967295
  | [], n, h => h
  | c :: l, n, _ => sum_in l (stepI n c) (step_in n c)
theorem sum_app (n : Int) (l m : List Int) : sumN n (l ++ m) = sumN (sumN n l) m := List.foldl_append
theorem trip_add : ∀ (k : Nat) (a b : Int), tripI k ((a + b) % 4294967296) % 4294967296 = (tripI k a + tripI k b) % 4294967296
  | 0, a, b => by simp only [tripI]; omega
  | k + 1, a, b => by
    have h := trip_add k (3 * a % 4294967296) (3 * b % 4294967296)
    simp only [tripI]
    rw [← h, show 3 * ((a + b) % 4294967296) % 4294967296 = (3 * a % 4294967296 + 3 * b % 4294967296) % 4294967296 by omega]
theorem trip0 : ∀ k, tripI k 0 = 0
  | 0 => rfl
  | k + 1 => by simpa [tripI] using trip0 k
theorem cancelM {u v n m : Int} (huv : u * v % 4294967296 = 1) (h : u * n % 4294967296 = u * m % 4294967296) : n % 4294967296 = m % 4294967296 := by
  have h1 : v * (u * n) % 4294967296 = v * (u * m) % 4294967296 := by rw [Int.mul_emod, h, ← Int.mul_emod]
  have e : ∀ x : Int, v * (u * x) % 4294967296 = x % 4294967296 := fun x => by
    rw [← Int.mul_assoc, Int.mul_comm v u, Int.mul_emod, huv, Int.one_mul, Int.emod_emod_of_dvd _ (Int.dvd_refl _)]
  rw [e, e] at h1
  exact h1
theorem inj3 {n m : Int} (hn : 0 ≤ n ∧ n ≤ 4294967295) (hm : 0 ≤ m ∧ m ≤ 4294967295) (h : 3 * n % 4294967296 = 3 * m % 4294967296) : n = m := by
  have := cancelM (v := 2863311531) (by omega) h
  clear h
  omega
theorem injF {c d : Int} (hn : 0 ≤ c ∧ c ≤ 255) (hm : 0 ≤ d ∧ d ≤ 255) (h : (2 * c + 1) * 2654435761 % 4294967296 = (2 * d + 1) * 2654435761 % 4294967296) : c = d := by
  rw [Int.mul_comm, Int.mul_comm (2 * d + 1)] at h
  have := cancelM (v := 244002641) (by omega) h
  clear h
  omega
theorem step_injN {n m c : Int} (hn : 0 ≤ n ∧ n ≤ 4294967295) (hm : 0 ≤ m ∧ m ≤ 4294967295) (h : stepI n c = stepI m c) : n = m := by
  rw [step_eq, step_eq] at h
  refine inj3 hn hm ?_
  have h2 := Int.emod_nonneg (3 * n) (show (4294967296 : Int) ≠ 0 by decide)
  have h3 := Int.emod_lt_of_pos (3 * n) (show (0 : Int) < 4294967296 by decide)
  have h4 := Int.emod_nonneg (3 * m) (show (4294967296 : Int) ≠ 0 by decide)
  have h5 := Int.emod_lt_of_pos (3 * m) (show (0 : Int) < 4294967296 by decide)
  generalize 3 * n % 4294967296 = a at *
  generalize 3 * m % 4294967296 = b at *
  have := wI_in c
  generalize wI c = w at *
  omega
theorem wI_eq' {c : Int} (hc : 0 ≤ c ∧ c ≤ 255) : wI c = (2 * c + 1) * 2654435761 % 4294967296 := by
  rw [wI_eq, show (2 * c) % 4294967296 = 2 * c by omega, show (2 * c + 1) % 4294967296 = 2 * c + 1 by omega]
theorem wI_inj {c d : Int} (hc : 0 ≤ c ∧ c ≤ 255) (hd : 0 ≤ d ∧ d ≤ 255) (h : wI c = wI d) : c = d := by
  rw [wI_eq' hc, wI_eq' hd] at h
  exact injF hc hd h
theorem wI_odd {c : Int} (hc : 0 ≤ c ∧ c ≤ 255) : wI c % 2 = 1 := by
  rw [wI_eq' hc]; omega
theorem step_injC {n c d : Int} (hc : 0 ≤ c ∧ c ≤ 255) (hd : 0 ≤ d ∧ d ≤ 255) (h : stepI n c = stepI n d) : c = d := by
  refine wI_inj hc hd ?_
  rw [step_eq, step_eq] at h; have := wI_in c; have := wI_in d; omega
theorem sum_inj : ∀ (l : List Int) (n m : Int), (0 ≤ n ∧ n ≤ 4294967295) → (0 ≤ m ∧ m ≤ 4294967295) → sumN n l = sumN m l → n = m
  | [], n, m, _, _, h => h
  | c :: l, n, m, hn, hm, h => step_injN hn hm (sum_inj l (stepI n c) (stepI m c) (step_in _ _) (step_in _ _) h)
theorem sum_set {l : List Int} {k : Nat} {c : Int} (hk : k < l.length) (hl : ∀ x ∈ l, 0 ≤ x ∧ x ≤ 255) (hc : 0 ≤ c ∧ c ≤ 255) (h : sumN 0 (l.set k c) = sumN 0 l) : (l[k]?).getD 0 = c := by
  have e1 : l = l.take k ++ l[k] :: l.drop (k + 1) := by rw [← List.drop_eq_getElem_cons hk, List.take_append_drop]
  have e2 : l.set k c = l.take k ++ c :: l.drop (k + 1) := by rw [List.set_eq_take_append_cons_drop, if_pos hk]
  rw [e2] at h
  conv at h => rhs; rw [e1]
  rw [sum_app, sum_app] at h
  have h2 := sum_inj (l.drop (k + 1)) (stepI (sumN 0 (l.take k)) c) (stepI (sumN 0 (l.take k)) l[k]) (step_in _ _) (step_in _ _) h
  have h3 := step_injC hc (hl _ (List.getElem_mem hk)) h2
  rw [List.getElem?_eq_getElem hk, h3]; rfl
theorem set_same {l : List Int} {k : Nat} {c : Int} (hk : k < l.length) (h : (l[k]?).getD 0 = c) : l.set k c = l := by
  rw [List.getElem?_eq_getElem hk] at h
  have h : l[k] = c := h
  rw [← h]; exact List.set_getElem_self hk
theorem trip_mod (k : Nat) (a : Int) : tripI k (a % 4294967296) % 4294967296 = tripI k a % 4294967296 := by
  have h := trip_add k a 0
  have h0 : ∀ k, tripI k 0 = 0 := fun k => by induction k with
    | zero => rfl
    | succ k ih => simpa [tripI] using ih
  rw [h0, Int.add_zero, Int.add_zero] at h
  exact h
/-- The sum behind another one. -/
theorem sum_trip : ∀ (l : List Int) (n : Int), sumN n l % 4294967296 = (tripI l.length n + sumN 0 l) % 4294967296
  | [], n => by simp [sumN, tripI]
  | c :: l, n => by
    show sumN (stepI n c) l % _ = (tripI l.length (3 * n % 4294967296) + sumN (stepI 0 c) l) % _
    have h1 := sum_trip l (stepI n c)
    have h2 := sum_trip l (stepI 0 c)
    have e : stepI n c = (3 * n % 4294967296 + stepI 0 c) % 4294967296 := by rw [step_eq, step_eq]; omega
    have h3 := trip_add l.length (3 * n % 4294967296) (stepI 0 c)
    rw [← e] at h3
    omega
theorem trip15 (a : Int) : tripI 15 a % 4294967296 = a * 14348907 % 4294967296 := by
  simp only [tripI]; omega
theorem step0 (c : Int) : stepI 0 c = wI c := by rw [step_eq]; have := wI_in c; omega
/-- To roll is to sum anew. -/
theorem roll_sum (o c : Int) (l : List Int) (h : l.length = 15) : rollI (sumN 0 (o :: l)) o c = sumN 0 (l ++ [c]) := by
  rw [sum_app]
  show _ = stepI (sumN 0 l) c
  have h1 : sumN 0 (o :: l) = sumN (stepI 0 o) l := rfl
  have h2 := sum_trip l (stepI 0 o)
  have h3 := trip15 (wI o)
  rw [h, step0] at h2
  rw [step0] at h1
  rw [h1, step_eq]
  unfold rollI
  rw [add32, mul32, sub32, mul32]
  omega
theorem F8 (i t n : D) : F 8 (.list [i, .list [t, .list [n, .int 0]]]) = .int (tripI (t.toInt - i.toInt).toNat n.toInt) := rfl
theorem F9 (x o i : D) : F 9 (.list [x, .list [o, .list [i, .int 0]]]) = D.ofInts (ringN x.ints o.toInt (i.toInt - 1).toNat) := rfl
theorem F10 (i : D) : F 10 (.list [i, .int 0]) = .int ((i.toInt - 1).toNat : Nat) := rfl
theorem F11 (x o i : D) : F 11 (.list [x, .list [o, .list [i, .int 0]]]) = .int (winI x.ints o.toInt ((i.toInt - 1).toNat : Nat)) := rfl
theorem ring_len (x : List Int) (o : Int) : ∀ n, (ringN x o n).length = 16
  | 0 => by simp [ringN]
  | n + 1 => by simp [ringN, ring_len x o n]
theorem ring_get (x : List Int) (o : Int) : ∀ n j, j < n → n ≤ j + 16 → ((ringN x o n)[j % 16]?).getD 0 = (x[(o + j).toNat]?).getD 0
  | 0, j, h, _ => by omega
  | n + 1, j, h, g => by
    simp only [ringN]
    by_cases e : j = n
    · subst e
      rw [List.getElem?_set_self (by rw [ring_len]; omega)]; rfl
    · rw [List.getElem?_set_ne (by omega)]
      exact ring_get x o n j (by omega) (by omega)
/-- One byte more, while there are fewer than sixteen. -/
theorem win_push {x : List Int} {o i : Int} (ho : 0 ≤ o) (h1 : 1 ≤ i) (h2 : i ≤ 16) (hx : o + i ≤ x.length) : stepI (winI x o ((i - 1).toNat : Nat)) ((x[(o + (i - 1)).toNat]?).getD 0) = sumN 0 (prt x o (o + i)) := by
  unfold winI
  rw [if_pos (by omega), show (((i - 1).toNat : Nat) : Int) = i - 1 by omega, prt_app (m := o + (i - 1)) (t := o + i) ho (by omega) (by omega) hx, sum_app, prt_step (o := o + (i - 1)) (by omega) (by omega) hx, prt_nil (o := o + (i - 1) + 1) (by omega) (by omega)]
  rfl
theorem win_roll {x : List Int} {o i : Int} (ho : 0 ≤ o) (h2 : 16 < i) (hx : o + i ≤ x.length) : rollI (winI x o ((i - 1).toNat : Nat)) (((ringN x o (i - 1).toNat)[((i - 1) % 16).toNat]?).getD 0) ((x[(o + (i - 1)).toNat]?).getD 0) = sumN 0 (prt x (o + (i - 16)) (o + i)) := by
  have hr := ring_get x o (i - 1).toNat ((i - 1).toNat - 16) (by omega) (by omega)
  rw [show ((i - 1).toNat - 16) % 16 = ((i - 1) % 16).toNat by omega] at hr
  rw [hr, show (o + (((i - 1).toNat - 16 : Nat) : Int)).toNat = (o + (i - 17)).toNat by omega]
  have e1 : winI x o ((i - 1).toNat : Nat) = sumN 0 (((x[(o + (i - 17)).toNat]?).getD 0) :: prt x (o + (i - 16)) (o + (i - 1))) := by
    unfold winI
    congr 1
    rw [show (((i - 1).toNat : Nat) : Int) = i - 1 by omega]
    split
    · rw [prt_step (o := o) ho (by omega) (by omega), show o + (i - 17) = o by omega, show o + (i - 16) = o + 1 by omega]
    · rw [prt_step (by omega) (by omega) (by omega), show o + (i - 1) - 16 = o + (i - 17) by omega, show o + (i - 17) + 1 = o + (i - 16) by omega]
  have e2 : prt x (o + (i - 16)) (o + i) = prt x (o + (i - 16)) (o + (i - 1)) ++ [((x[(o + (i - 1)).toNat]?).getD 0)] := by
    rw [prt_app (m := o + (i - 1)) (by omega) (by omega) (by omega) (by omega), prt_step (o := o + (i - 1)) (by omega) (by omega) (by omega), prt_nil (o := o + (i - 1) + 1) (by omega) (by omega)]
  have e3 := prt_length (x := x) (o := o + (i - 16)) (t := o + (i - 1)) (by omega) (by omega) (by omega)
  rw [e1, e2]
  exact roll_sum _ _ _ (by omega)
theorem F12 (x o n y p m : D) : F 12 (.list [x, .list [o, .list [n, .list [y, .list [p, .list [m, .int 0]]]]]]) = D.ofInts (ringL (twoI x.ints o.toInt n.toInt y.ints p.toInt m.toInt)) := rfl
theorem F13 (x o n y p m : D) : F 13 (.list [x, .list [o, .list [n, .list [y, .list [p, .list [m, .int 0]]]]]]) = .int (winL (twoI x.ints o.toInt n.toInt y.ints p.toInt m.toInt)) := rfl
theorem F15 (s n r c : D) : F 15 (.list [s, .list [n, .list [r, .list [c, .int 0]]]]) = .int (pushI s.toInt n.toInt r.ints c.toInt) := rfl
theorem ring_congr {x y : List Int} {o p : Int} : ∀ n, (∀ k : Nat, k < n → (x[(o + k).toNat]?).getD 0 = (y[(p + k).toNat]?).getD 0) → ringN x o n = ringN y p n
  | 0, _ => rfl
  | n + 1, h => by
    simp only [ringN]
    rw [ring_congr n fun k hk => h k (by omega), h n (by omega)]
theorem prt_get {x : List Int} {o t : Int} {k : Nat} (ho : 0 ≤ o) (h : o + k < t) : (prt x o t)[k]? = x[(o + k).toNat]? := by
  unfold prt
  rw [List.getElem?_drop, List.getElem?_take, if_pos (by omega)]
  congr 1; omega
theorem ringL_prt {x : List Int} {o n : Int} (ho : 0 ≤ o) (hn : 0 ≤ n) (hx : o + n ≤ x.length) : ringN x o n.toNat = ringL (prt x o (o + n)) := by
  unfold ringL
  have hl := prt_length (x := x) (o := o) (t := o + n) ho (by omega) hx
  rw [show (prt x o (o + n)).length = n.toNat by omega]
  refine ring_congr _ fun k hk => ?_
  rw [show ((0 : Int) + k).toNat = k by omega, prt_get ho (by omega)]
theorem winL_prt {x : List Int} {o n : Int} (ho : 0 ≤ o) (hn : 0 ≤ n) (hx : o + n ≤ x.length) : winI x o n = winL (prt x o (o + n)) := by
  have hl := prt_length (x := x) (o := o) (t := o + n) ho (by omega) hx
  unfold winL winI
  rw [hl]
  have e : ∀ a : Int, o ≤ a → prt x a (o + n) = prt (prt x o (o + n)) (a - o) n := by
    intro a ha
    have : prt (prt x o (o + n)) (a - o) n = (prt x o (o + n)).drop (a - o).toNat := by
      unfold prt
      rw [List.take_of_length_le (by simp; omega)]
    rw [this]
    unfold prt
    rw [List.drop_drop]
    congr 1; omega
  rw [show o + n - o = n by omega]
  simp only [Int.zero_add]
  split
  · exact congrArg _ ((e o (by omega)).trans (by rw [show o - o = 0 by omega]))
  · exact congrArg _ ((e (o + n - 16) (by omega)).trans (by rw [show o + n - 16 - o = n - 16 by omega]))
theorem ringL_snoc (l : List Int) (c : Int) : ringL (l ++ [c]) = (ringL l).set (l.length % 16) c := by
  unfold ringL
  rw [List.length_append, List.length_singleton]
  simp only [ringN]
  rw [ring_congr (x := l ++ [c]) (y := l) (o := 0) (p := 0) l.length fun k hk => by
    rw [List.getElem?_append_left (by omega)]]
  rw [List.getElem?_append_right (by omega)]
  simp
theorem winL_snoc (l : List Int) (c : Int) : pushI (winL l) l.length (ringL l) c = winL (l ++ [c]) := by
  have hx : (0 : Int) + ((l.length : Int) + 1) ≤ ((l ++ [c]).length : Nat) := by simp
  have hc : ((l ++ [c])[((0 : Int) + ((l.length : Int) + 1 - 1)).toNat]?).getD 0 = c := by
    rw [List.getElem?_append_right (by omega)]; simp
  have hw : winI (l ++ [c]) 0 (((l.length : Int) + 1 - 1).toNat : Nat) = winL l := by
    unfold winL winI
    rw [show ((((l.length : Int) + 1 - 1).toNat : Nat) : Int) = l.length by omega]
    have : ∀ a : Int, 0 ≤ a → prt (l ++ [c]) a (0 + l.length) = prt l a (0 + l.length) := by
      intro a _
      unfold prt
      rw [List.take_append_of_le_length (by omega)]
    split
    · rw [this _ (by omega)]
    · rw [this _ (by omega)]
  unfold pushI
  split
  · have h := win_roll (x := l ++ [c]) (o := 0) (i := (l.length : Int) + 1) (by omega) (by omega) hx
    rw [hc, hw] at h
    have hr : ringN (l ++ [c]) 0 ((l.length : Int) + 1 - 1).toNat = ringL l := by
      unfold ringL
      rw [show ((l.length : Int) + 1 - 1).toNat = l.length by omega]
      exact ring_congr _ fun k hk => by rw [List.getElem?_append_left (by omega)]
    rw [hr, show (((l.length : Int) + 1 - 1) % 16) = (l.length : Int) % 16 by omega] at h
    rw [h]
    unfold winL winI
    rw [if_neg (by simp; omega)]
    congr 2
    · first | (simp; done) | (simp; omega)
    · first | (simp; done) | (simp; omega)
  · have h := win_push (x := l ++ [c]) (o := 0) (i := (l.length : Int) + 1) (by omega) (by omega) (by omega) hx
    rw [hc, hw] at h
    rw [h]
    unfold winL winI
    rw [if_pos (by simp; omega)]
    congr 2
    simp
theorem two_step {x y : List Int} {o n p m : Int} (hp : 0 ≤ p) (hm : 0 ≤ m) (hy : p + (m + 1) ≤ y.length) : twoI x o n y p (m + 1) = twoI x o n y p m ++ [(y[(p + m).toNat]?).getD 0] := by
  unfold twoI
  rw [List.append_assoc, prt_app (m := p + m) (t := p + (m + 1)) hp (by omega) (by omega) hy, prt_step (o := p + m) (by omega) (by omega) hy, prt_nil (o := p + m + 1) (by omega) (by omega)]
theorem two_len {x y : List Int} {o n p m : Int} (ho : 0 ≤ o) (hn : 0 ≤ n) (hx : o + n ≤ x.length) (hp : 0 ≤ p) (hm : 0 ≤ m) (hy : p + m ≤ y.length) : ((twoI x o n y p m).length : Int) = n + m := by
  unfold twoI
  have h1 := prt_length (x := x) (o := o) (t := o + n) ho (by omega) hx
  have h2 := prt_length (x := y) (o := p) (t := p + m) hp (by omega) hy
  rw [List.length_append]; omega
theorem ringL_len (l : List Int) : (ringL l).length = 16 := ring_len _ _ _
/-- Behind sixteen bytes the sum is theirs. -/
theorem win_two {x y : List Int} {o n p m : Int} (ho : 0 ≤ o) (hn : 0 ≤ n) (hx : o + n ≤ x.length) (hp : 0 ≤ p) (hm : 16 ≤ m) (hy : p + m ≤ y.length) : winL (twoI x o n y p m) = sumN 0 (prt y (p + m - 16) (p + m)) := by
  have hl := two_len ho hn hx hp (by omega) hy
  have h1 := prt_length (x := x) (o := o) (t := o + n) ho (by omega) hx
  have h2 := prt_length (x := y) (o := p) (t := p + m) hp (by omega) hy
  unfold winL winI
  rw [hl]
  have e : prt (twoI x o n y p m) (n + m - 16) (n + m) = prt y (p + m - 16) (p + m) := by
    unfold twoI
    generalize prt x o (o + n) = A at *
    show ((A ++ prt y p (p + m)).take (n + m).toNat).drop (n + m - 16).toNat = _
    rw [List.take_of_length_le (by rw [List.length_append]; omega), List.drop_append, List.drop_eq_nil_of_le (by omega), List.nil_append]
    unfold prt
    rw [List.drop_drop]
    congr 1
    omega
  split
  · rw [← e]; congr 2 <;> omega
  · rw [← e]; congr 2 <;> omega
theorem F7 (x n : D) : F 7 (.list [x, .list [n, .int 0]]) = .int (x.toInt % n.toInt) := rfl

def sumL : LSpec := { n := 17, next := 2, pat := [(8, .sint .i64 (.var 0)), (3, .sint .u32 (.var 1)), (6, .sslice 3 (.var 4) (.var 5) (.var 6) false), (7, .sint .i64 (.var 5))], rows := [(3, .eseq ⟨.u8, .var 3, .var 2⟩)], pre := [(.le (.int 0) (.var 0), true), (.le (.var 0) (.var 5), true), (.le (.bi .add (.var 4) (.var 5)) (.var 3), true), (.le (.var 5) (.int 1000000), true)], x := 0, fin := [(3, .sint .u32 (.fn 1 (argsE [.var 1, .var 2, .bi .add (.var 4) (.var 0), .bi .add (.var 4) (.var 5)])))], frows := [], same := [], chg := [3, 5, 6, 7, 8, 9, 10, 11, 12, 13, 14, 15] }
def sumL_t0 : List (Q × Bool) := [((.le (.var 5) (.var 0)), false),
  ((.le (.int 0) (.var 0)), true),
  ((.le (.int 0) (.bi .add (.var 4) (.var 0))), true),
  ((.le (.var 3) (.bi .add (.var 4) (.var 0))), false),
  ((.fit .i64 (.bi .add (.var 0) (.int 1))), true)]
def sumL_d0 : List Duty := [(true, (.fn 1 (.bi .pair (.bi (.iop .add .u32) (.bi (.iop .mul .u32) (.int 3) (.var 1)) (.bi (.iop .mul .u32) (.bi (.iop .add .u32) (.bi (.iop .mul .u32) (.int 2) (.bi .sel (.var 2) (.bi .add (.var 4) (.var 0)))) (.int 1)) (.int 2654435761))) (.bi .pair (.var 2) (.bi .pair (.bi .add (.var 4) (.bi .add (.var 0) (.int 1))) (.bi .pair (.bi .add (.var 4) (.var 5)) (.int 0)))))), (.fn 1 (.bi .pair (.var 1) (.bi .pair (.var 2) (.bi .pair (.bi .add (.var 4) (.var 0)) (.bi .pair (.bi .add (.var 4) (.var 5)) (.int 0)))))))]
def sumL_h0 : List (Nat × E) := [(3, (.var 3)), (2, (.var 2)), (4, (.var 4)), (5, (.var 5)), (6, (.var 6)), (1, (.bi (.iop .add .u32) (.bi (.iop .mul .u32) (.int 3) (.var 1)) (.bi (.iop .mul .u32) (.bi (.iop .add .u32) (.bi (.iop .mul .u32) (.int 2) (.bi .sel (.var 2) (.bi .add (.var 4) (.var 0)))) (.int 1)) (.int 2654435761)))), (0, (.bi .add (.var 0) (.int 1)))]
theorem sumL_h0_0 : lookE sumL_h0 0 = (.bi .add (.var 0) (.int 1)) := rfl
theorem sumL_h0_1 : lookE sumL_h0 1 = (.bi (.iop .add .u32) (.bi (.iop .mul .u32) (.int 3) (.var 1)) (.bi (.iop .mul .u32) (.bi (.iop .add .u32) (.bi (.iop .mul .u32) (.int 2) (.bi .sel (.var 2) (.bi .add (.var 4) (.var 0)))) (.int 1)) (.int 2654435761))) := rfl
theorem sumL_h0_2 : lookE sumL_h0 2 = (.var 2) := rfl
theorem sumL_h0_3 : lookE sumL_h0 3 = (.var 3) := rfl
theorem sumL_h0_4 : lookE sumL_h0 4 = (.var 4) := rfl
theorem sumL_h0_5 : lookE sumL_h0 5 = (.var 5) := rfl
theorem sumL_h0_6 : lookE sumL_h0 6 = (.var 6) := rfl
theorem sumL_y0 : nextD sumL sumL_h0 [(3, 3)] (roundC Try.prog [] [] [] 3000 40 14 [4, 1, 0, 1, 1] (tellA sumL_t0) sumL) = some sumL_d0 := by kernel_rfl
def sumL_t1 : List (Q × Bool) := [((.le (.var 5) (.var 0)), true)]
def sumL_d1 : List Duty := [(true, (.var 1), (.fn 1 (.bi .pair (.var 1) (.bi .pair (.var 2) (.bi .pair (.bi .add (.var 4) (.var 0)) (.bi .pair (.bi .add (.var 4) (.var 5)) (.int 0)))))))]
theorem sumL_y1 : endD sumL [(3, 3)] 1000 (roundC Try.prog [] [] [] 3000 40 14 [4, 1, 0, 1, 1] (tellA sumL_t1) sumL) = some sumL_d1 := by kernel_rfl
theorem sumL_holds : LHolds Try.prog (loopAt Try.prog 14 [4, 1, 0, 1, 1]) sumL F := by
  refine loop_roundsC sound (tableNil _ _) (specsNil _ _) (oversNil _ _) (fuel := 3000) (depth := 40) (by kernel_rfl) (by kernel_rfl) (by kernel_rfl) (fun d => ((d 5).toInt - (d 0).toInt).toNat) fun d hp hR hA => ?_
  have hp := allTold'_iff.2 hp
  simp only [sumL, allTold', dutiesTold, factsA, factsP, factsR, AV.facts, RW.facts, inK, and_true, Q.holds', E.i, E.s, E.n, D.nat, E.den, BO.den, UO.den, TO.den, D.toInt_int, D.toList_list, D.ints_ofInts, i64min, i64max, u8min, u8max, u16min, u16max, u32min, u32max, u64min, u64max, i32min, i32max, Om.sub, selI, ints_app, ints_cut, ints_upd, ints_rep, ints_splice, len_ints] at hp hR hA
  by_cases h : (d 5).toInt ≤ (d 0).toInt
  · refine ⟨tellA sumL_t1, tellA_ok (allTold'_iff.1 ?_), .inl ⟨_, _, _, sumL_y1, dutiesTold_ok ?_⟩⟩
    · simp only [sumL_t1, allTold', dutiesTold, factsA, factsP, factsR, AV.facts, RW.facts, inK, and_true, Q.holds', E.i, E.s, E.n, D.nat, E.den, BO.den, UO.den, TO.den, D.toInt_int, D.toList_list, D.ints_ofInts, i64min, i64max, u8min, u8max, u16min, u16max, u32min, u32max, u64min, u64max, i32min, i32max, Om.sub, selI, ints_app, ints_cut, ints_upd, ints_rep, ints_splice, len_ints]
      omega
    · simp only [sumL_d1, F1, allTold', dutiesTold, factsA, factsP, factsR, AV.facts, RW.facts, inK, and_true, Q.holds', E.i, E.s, E.n, D.nat, E.den, BO.den, UO.den, TO.den, D.toInt_int, D.toList_list, D.ints_ofInts, i64min, i64max, u8min, u8max, u16min, u16max, u32min, u32max, u64min, u64max, i32min, i32max, Om.sub, selI, ints_app, ints_cut, ints_upd, ints_rep, ints_splice, len_ints]
      rw [prt_nil (by omega) (by omega)]
      rfl
  · refine ⟨tellA sumL_t0, tellA_ok (allTold'_iff.1 ?_), .inr ⟨sumL_h0, _, _, sumL_y0, dutiesTold_ok ?_, allTold'_iff.1 ?_, ?_⟩⟩
    · simp only [sumL_t0, allTold', dutiesTold, factsA, factsP, factsR, AV.facts, RW.facts, inK, and_true, Q.holds', E.i, E.s, E.n, D.nat, E.den, BO.den, UO.den, TO.den, D.toInt_int, D.toList_list, D.ints_ofInts, i64min, i64max, u8min, u8max, u16min, u16max, u32min, u32max, u64min, u64max, i32min, i32max, Om.sub, selI, ints_app, ints_cut, ints_upd, ints_rep, ints_splice, len_ints]
      omega
    · simp only [sumL_d0, F1, allTold', dutiesTold, factsA, factsP, factsR, AV.facts, RW.facts, inK, and_true, Q.holds', E.i, E.s, E.n, D.nat, E.den, BO.den, UO.den, TO.den, D.toInt_int, D.toList_list, D.ints_ofInts, i64min, i64max, u8min, u8max, u16min, u16max, u32min, u32max, u64min, u64max, i32min, i32max, Om.sub, selI, ints_app, ints_cut, ints_upd, ints_rep, ints_splice, len_ints]
      rw [prt_step (x := (d 2).ints) (o := (d 4).toInt + (d 0).toInt) (by omega) (by omega) (by omega), Int.add_assoc]
      rfl
    · simp only [sumL, sumL_h0_0, sumL_h0_1, sumL_h0_2, sumL_h0_3, sumL_h0_4, sumL_h0_5, sumL_h0_6, allTold', dutiesTold, factsA, factsP, factsR, AV.facts, RW.facts, inK, and_true, Q.holds', E.i, E.s, E.n, D.nat, E.den, BO.den, UO.den, TO.den, D.toInt_int, D.toList_list, D.ints_ofInts, i64min, i64max, u8min, u8max, u16min, u16max, u32min, u32max, u64min, u64max, i32min, i32max, Om.sub, selI, ints_app, ints_cut, ints_upd, ints_rep, ints_splice, len_ints]
      omega
    · simp only [sumL_h0_0, sumL_h0_1, sumL_h0_2, sumL_h0_3, sumL_h0_4, sumL_h0_5, sumL_h0_6, allTold', dutiesTold, factsA, factsP, factsR, AV.facts, RW.facts, inK, and_true, Q.holds', E.i, E.s, E.n, D.nat, E.den, BO.den, UO.den, TO.den, D.toInt_int, D.toList_list, D.ints_ofInts, i64min, i64max, u8min, u8max, u16min, u16max, u32min, u32max, u64min, u64max, i32min, i32max, Om.sub, selI, ints_app, ints_cut, ints_upd, ints_rep, ints_splice, len_ints]
      omega

def sumLO : LSpec := { n := 17, next := 2, pat := [(8, .sint .i64 (.var 0)), (3, .sint .u32 (.var 1)), (6, .sslice 3 (.var 4) (.var 5) (.var 6) true), (7, .sint .i64 (.var 5))], rows := [(3, .eseq ⟨.u8, .var 3, .var 2⟩)], pre := [(.le (.int 0) (.var 0), true), (.le (.var 0) (.var 5), true), (.le (.bi .add (.var 4) (.var 5)) (.var 3), true), (.le (.var 5) (.int 1000000), true)], x := 0, fin := [(3, .sint .u32 (.fn 1 (argsE [.var 1, .var 2, .bi .add (.var 4) (.var 0), .bi .add (.var 4) (.var 5)])))], frows := [], same := [], chg := [3, 5, 6, 7, 8, 9, 10, 11, 12, 13, 14, 15] }
def sumLO_t0 : List (Q × Bool) := [((.le (.var 5) (.var 0)), false),
  ((.le (.int 0) (.var 0)), true),
  ((.le (.int 0) (.bi .add (.var 4) (.var 0))), true),
  ((.le (.var 3) (.bi .add (.var 4) (.var 0))), false),
  ((.fit .i64 (.bi .add (.var 0) (.int 1))), true)]
def sumLO_d0 : List Duty := [(true, (.fn 1 (.bi .pair (.bi (.iop .add .u32) (.bi (.iop .mul .u32) (.int 3) (.var 1)) (.bi (.iop .mul .u32) (.bi (.iop .add .u32) (.bi (.iop .mul .u32) (.int 2) (.bi .sel (.var 2) (.bi .add (.var 4) (.var 0)))) (.int 1)) (.int 2654435761))) (.bi .pair (.var 2) (.bi .pair (.bi .add (.var 4) (.bi .add (.var 0) (.int 1))) (.bi .pair (.bi .add (.var 4) (.var 5)) (.int 0)))))), (.fn 1 (.bi .pair (.var 1) (.bi .pair (.var 2) (.bi .pair (.bi .add (.var 4) (.var 0)) (.bi .pair (.bi .add (.var 4) (.var 5)) (.int 0)))))))]
def sumLO_h0 : List (Nat × E) := [(3, (.var 3)), (2, (.var 2)), (4, (.var 4)), (5, (.var 5)), (6, (.var 6)), (1, (.bi (.iop .add .u32) (.bi (.iop .mul .u32) (.int 3) (.var 1)) (.bi (.iop .mul .u32) (.bi (.iop .add .u32) (.bi (.iop .mul .u32) (.int 2) (.bi .sel (.var 2) (.bi .add (.var 4) (.var 0)))) (.int 1)) (.int 2654435761)))), (0, (.bi .add (.var 0) (.int 1)))]
theorem sumLO_h0_0 : lookE sumLO_h0 0 = (.bi .add (.var 0) (.int 1)) := rfl
theorem sumLO_h0_1 : lookE sumLO_h0 1 = (.bi (.iop .add .u32) (.bi (.iop .mul .u32) (.int 3) (.var 1)) (.bi (.iop .mul .u32) (.bi (.iop .add .u32) (.bi (.iop .mul .u32) (.int 2) (.bi .sel (.var 2) (.bi .add (.var 4) (.var 0)))) (.int 1)) (.int 2654435761))) := rfl
theorem sumLO_h0_2 : lookE sumLO_h0 2 = (.var 2) := rfl
theorem sumLO_h0_3 : lookE sumLO_h0 3 = (.var 3) := rfl
theorem sumLO_h0_4 : lookE sumLO_h0 4 = (.var 4) := rfl
theorem sumLO_h0_5 : lookE sumLO_h0 5 = (.var 5) := rfl
theorem sumLO_h0_6 : lookE sumLO_h0 6 = (.var 6) := rfl
theorem sumLO_y0 : nextD sumLO sumLO_h0 [(3, 3)] (roundC Try.prog [⟨14, [4, 1, 0, 1, 1], sumL⟩] [] [] 3000 40 14 [4, 1, 0, 1, 1] (tellA sumLO_t0) sumLO) = some sumLO_d0 := by kernel_rfl
def sumLO_t1 : List (Q × Bool) := [((.le (.var 5) (.var 0)), true)]
def sumLO_d1 : List Duty := [(true, (.var 1), (.fn 1 (.bi .pair (.var 1) (.bi .pair (.var 2) (.bi .pair (.bi .add (.var 4) (.var 0)) (.bi .pair (.bi .add (.var 4) (.var 5)) (.int 0)))))))]
theorem sumLO_y1 : endD sumLO [(3, 3)] 1000 (roundC Try.prog [⟨14, [4, 1, 0, 1, 1], sumL⟩] [] [] 3000 40 14 [4, 1, 0, 1, 1] (tellA sumLO_t1) sumLO) = some sumLO_d1 := by kernel_rfl
theorem sumLO_holds : LHolds Try.prog (loopAt Try.prog 14 [4, 1, 0, 1, 1]) sumLO F := by
  refine loop_roundsC sound (tableCons sumL_holds (tableNil _ _)) (specsNil _ _) (oversNil _ _) (fuel := 3000) (depth := 40) (by kernel_rfl) (by kernel_rfl) (by kernel_rfl) (fun d => ((d 5).toInt - (d 0).toInt).toNat) fun d hp hR hA => ?_
  have hp := allTold'_iff.2 hp
  simp only [sumLO, allTold', dutiesTold, factsA, factsP, factsR, AV.facts, RW.facts, inK, and_true, Q.holds', E.i, E.s, E.n, D.nat, E.den, BO.den, UO.den, TO.den, D.toInt_int, D.toList_list, D.ints_ofInts, i64min, i64max, u8min, u8max, u16min, u16max, u32min, u32max, u64min, u64max, i32min, i32max, Om.sub, selI, ints_app, ints_cut, ints_upd, ints_rep, ints_splice, len_ints] at hp hR hA
  by_cases h : (d 5).toInt ≤ (d 0).toInt
  · refine ⟨tellA sumLO_t1, tellA_ok (allTold'_iff.1 ?_), .inl ⟨_, _, _, sumLO_y1, dutiesTold_ok ?_⟩⟩
    · simp only [sumLO_t1, allTold', dutiesTold, factsA, factsP, factsR, AV.facts, RW.facts, inK, and_true, Q.holds', E.i, E.s, E.n, D.nat, E.den, BO.den, UO.den, TO.den, D.toInt_int, D.toList_list, D.ints_ofInts, i64min, i64max, u8min, u8max, u16min, u16max, u32min, u32max, u64min, u64max, i32min, i32max, Om.sub, selI, ints_app, ints_cut, ints_upd, ints_rep, ints_splice, len_ints]
      omega
    · simp only [sumLO_d1, F1, allTold', dutiesTold, factsA, factsP, factsR, AV.facts, RW.facts, inK, and_true, Q.holds', E.i, E.s, E.n, D.nat, E.den, BO.den, UO.den, TO.den, D.toInt_int, D.toList_list, D.ints_ofInts, i64min, i64max, u8min, u8max, u16min, u16max, u32min, u32max, u64min, u64max, i32min, i32max, Om.sub, selI, ints_app, ints_cut, ints_upd, ints_rep, ints_splice, len_ints]
      rw [prt_nil (by omega) (by omega)]
      rfl
  · refine ⟨tellA sumLO_t0, tellA_ok (allTold'_iff.1 ?_), .inr ⟨sumLO_h0, _, _, sumLO_y0, dutiesTold_ok ?_, allTold'_iff.1 ?_, ?_⟩⟩
    · simp only [sumLO_t0, allTold', dutiesTold, factsA, factsP, factsR, AV.facts, RW.facts, inK, and_true, Q.holds', E.i, E.s, E.n, D.nat, E.den, BO.den, UO.den, TO.den, D.toInt_int, D.toList_list, D.ints_ofInts, i64min, i64max, u8min, u8max, u16min, u16max, u32min, u32max, u64min, u64max, i32min, i32max, Om.sub, selI, ints_app, ints_cut, ints_upd, ints_rep, ints_splice, len_ints]
      omega
    · simp only [sumLO_d0, F1, allTold', dutiesTold, factsA, factsP, factsR, AV.facts, RW.facts, inK, and_true, Q.holds', E.i, E.s, E.n, D.nat, E.den, BO.den, UO.den, TO.den, D.toInt_int, D.toList_list, D.ints_ofInts, i64min, i64max, u8min, u8max, u16min, u16max, u32min, u32max, u64min, u64max, i32min, i32max, Om.sub, selI, ints_app, ints_cut, ints_upd, ints_rep, ints_splice, len_ints]
      rw [prt_step (x := (d 2).ints) (o := (d 4).toInt + (d 0).toInt) (by omega) (by omega) (by omega), Int.add_assoc]
      rfl
    · simp only [sumLO, sumLO_h0_0, sumLO_h0_1, sumLO_h0_2, sumLO_h0_3, sumLO_h0_4, sumLO_h0_5, sumLO_h0_6, allTold', dutiesTold, factsA, factsP, factsR, AV.facts, RW.facts, inK, and_true, Q.holds', E.i, E.s, E.n, D.nat, E.den, BO.den, UO.den, TO.den, D.toInt_int, D.toList_list, D.ints_ofInts, i64min, i64max, u8min, u8max, u16min, u16max, u32min, u32max, u64min, u64max, i32min, i32max, Om.sub, selI, ints_app, ints_cut, ints_upd, ints_rep, ints_splice, len_ints]
      omega
    · simp only [sumLO_h0_0, sumLO_h0_1, sumLO_h0_2, sumLO_h0_3, sumLO_h0_4, sumLO_h0_5, sumLO_h0_6, allTold', dutiesTold, factsA, factsP, factsR, AV.facts, RW.facts, inK, and_true, Q.holds', E.i, E.s, E.n, D.nat, E.den, BO.den, UO.den, TO.den, D.toInt_int, D.toList_list, D.ints_ofInts, i64min, i64max, u8min, u8max, u16min, u16max, u32min, u32max, u64min, u64max, i32min, i32max, Om.sub, selI, ints_app, ints_cut, ints_upd, ints_rep, ints_splice, len_ints]
      omega

def sumC : CSpec := { args := [.sslice 3 (.var 1) (.var 2) (.var 3) false], next := 2, rows := [(3, .eseq ⟨.u8, .var 4, .var 5⟩)], pre := [(.le (.bi .add (.var 1) (.var 2)) (.var 4), true), (.le (.var 2) (.int 1000000), true)], res := .sint .u32 (.fn 2 (argsE [.var 5, .var 1, .bi .add (.var 1) (.var 2)])), frows := [], same := [] }
def sumC_t0 : List (Q × Bool) := [((.fit .i64 (.var 2)), true),
  ((.le (.int 0) (.var 2)), true),
  ((.le (.bi .add (.var 1) (.var 2)) (.var 4)), true),
  ((.le (.var 2) (.int 1000000)), true)]
def sumC_d0 : List Duty := [(true, (.fn 1 (.bi .pair (.int 0) (.bi .pair (.var 5) (.bi .pair (.bi .add (.var 1) (.int 0)) (.bi .pair (.bi .add (.var 1) (.var 2)) (.int 0)))))), (.fn 2 (.bi .pair (.var 5) (.bi .pair (.var 1) (.bi .pair (.bi .add (.var 1) (.var 2)) (.int 0))))))]
theorem sumC_y0 : endC sumC [] 1000 (callC Try.prog (tellA sumC_t0) [⟨14, [4, 1, 0, 1, 1], sumL⟩, ⟨14, [4, 1, 0, 1, 1], sumLO⟩] [] [] 3000 40 14 sumC) = some sumC_d0 := by kernel_rfl
theorem sumC_holds : CHolds Try.prog 14 sumC F := by
  refine cholds_of sound (tableCons sumL_holds (tableCons sumLO_holds (tableNil _ _))) (specsNil _ _) (oversNil _ _) (fuel := 3000) (depth := 40) (by kernel_rfl) fun d hp hR hA => ?_
  have hp := allTold'_iff.2 hp
  simp only [sumC, allTold', dutiesTold, factsA, factsP, factsR, AV.facts, RW.facts, inK, and_true, Q.holds', E.i, E.s, E.n, D.nat, E.den, BO.den, UO.den, TO.den, D.toInt_int, D.toList_list, D.ints_ofInts, i64min, i64max, u8min, u8max, u16min, u16max, u32min, u32max, u64min, u64max, i32min, i32max, Om.sub, selI, ints_app, ints_cut, ints_upd, ints_rep, ints_splice, len_ints] at hp hR hA
  refine ⟨tellA sumC_t0, _, _, _, tellA_ok (allTold'_iff.1 ?_), sumC_y0, dutiesTold_ok ?_⟩
  · simp only [sumC_t0, allTold', dutiesTold, factsA, factsP, factsR, AV.facts, RW.facts, inK, and_true, Q.holds', E.i, E.s, E.n, D.nat, E.den, BO.den, UO.den, TO.den, D.toInt_int, D.toList_list, D.ints_ofInts, i64min, i64max, u8min, u8max, u16min, u16max, u32min, u32max, u64min, u64max, i32min, i32max, Om.sub, selI, ints_app, ints_cut, ints_upd, ints_rep, ints_splice, len_ints]
    omega
  · simp only [sumC_d0, F1, F2, Int.add_zero, allTold', dutiesTold, factsA, factsP, factsR, AV.facts, RW.facts, inK, and_true, Q.holds', E.i, E.s, E.n, D.nat, E.den, BO.den, UO.den, TO.den, D.toInt_int, D.toList_list, D.ints_ofInts, i64min, i64max, u8min, u8max, u16min, u16max, u32min, u32max, u64min, u64max, i32min, i32max, Om.sub, selI, ints_app, ints_cut, ints_upd, ints_rep, ints_splice, len_ints]
    try rfl

def sumCO : CSpec := { args := [.sslice 3 (.var 1) (.var 2) (.var 3) true], next := 2, rows := [(3, .eseq ⟨.u8, .var 4, .var 5⟩)], pre := [(.le (.bi .add (.var 1) (.var 2)) (.var 4), true), (.le (.var 2) (.int 1000000), true)], res := .sint .u32 (.fn 2 (argsE [.var 5, .var 1, .bi .add (.var 1) (.var 2)])), frows := [], same := [] }
def sumCO_t0 : List (Q × Bool) := [((.fit .i64 (.var 2)), true),
  ((.le (.int 0) (.var 2)), true),
  ((.le (.bi .add (.var 1) (.var 2)) (.var 4)), true),
  ((.le (.var 2) (.int 1000000)), true)]
def sumCO_d0 : List Duty := [(true, (.fn 1 (.bi .pair (.int 0) (.bi .pair (.var 5) (.bi .pair (.bi .add (.var 1) (.int 0)) (.bi .pair (.bi .add (.var 1) (.var 2)) (.int 0)))))), (.fn 2 (.bi .pair (.var 5) (.bi .pair (.var 1) (.bi .pair (.bi .add (.var 1) (.var 2)) (.int 0))))))]
theorem sumCO_y0 : endC sumCO [] 1000 (callC Try.prog (tellA sumCO_t0) [⟨14, [4, 1, 0, 1, 1], sumL⟩, ⟨14, [4, 1, 0, 1, 1], sumLO⟩] [(14, sumC)] [] 3000 40 14 sumCO) = some sumCO_d0 := by kernel_rfl
theorem sumCO_holds : CHolds Try.prog 14 sumCO F := by
  refine cholds_of sound (tableCons sumL_holds (tableCons sumLO_holds (tableNil _ _))) (specsCons sumC_holds (specsNil _ _)) (oversNil _ _) (fuel := 3000) (depth := 40) (by kernel_rfl) fun d hp hR hA => ?_
  have hp := allTold'_iff.2 hp
  simp only [sumCO, allTold', dutiesTold, factsA, factsP, factsR, AV.facts, RW.facts, inK, and_true, Q.holds', E.i, E.s, E.n, D.nat, E.den, BO.den, UO.den, TO.den, D.toInt_int, D.toList_list, D.ints_ofInts, i64min, i64max, u8min, u8max, u16min, u16max, u32min, u32max, u64min, u64max, i32min, i32max, Om.sub, selI, ints_app, ints_cut, ints_upd, ints_rep, ints_splice, len_ints] at hp hR hA
  refine ⟨tellA sumCO_t0, _, _, _, tellA_ok (allTold'_iff.1 ?_), sumCO_y0, dutiesTold_ok ?_⟩
  · simp only [sumCO_t0, allTold', dutiesTold, factsA, factsP, factsR, AV.facts, RW.facts, inK, and_true, Q.holds', E.i, E.s, E.n, D.nat, E.den, BO.den, UO.den, TO.den, D.toInt_int, D.toList_list, D.ints_ofInts, i64min, i64max, u8min, u8max, u16min, u16max, u32min, u32max, u64min, u64max, i32min, i32max, Om.sub, selI, ints_app, ints_cut, ints_upd, ints_rep, ints_splice, len_ints]
    omega
  · simp only [sumCO_d0, F1, F2, Int.add_zero, allTold', dutiesTold, factsA, factsP, factsR, AV.facts, RW.facts, inK, and_true, Q.holds', E.i, E.s, E.n, D.nat, E.den, BO.den, UO.den, TO.den, D.toInt_int, D.toList_list, D.ints_ofInts, i64min, i64max, u8min, u8max, u16min, u16max, u32min, u32max, u64min, u64max, i32min, i32max, Om.sub, selI, ints_app, ints_cut, ints_upd, ints_rep, ints_splice, len_ints]
    try rfl

def rsumL : LSpec := { n := 20, next := 2, pat := [(4, .sint .i64 (.var 0)), (3, .sint .u32 (.var 1)), (0, .sslice 3 (.var 4) (.var 5) (.var 6) false)], rows := [(3, .eseq ⟨.u8, .var 3, .var 2⟩)], pre := [(.le (.int 0) (.var 0), true), (.le (.var 0) (.var 5), true), (.le (.bi .add (.var 4) (.var 5)) (.var 3), true), (.le (.var 5) (.int 1000000), true)], x := 0, fin := [(3, .sint .u32 (.fn 1 (argsE [.var 1, .var 2, .bi .add (.var 4) (.var 0), .bi .add (.var 4) (.var 5)])))], frows := [], same := [], chg := [0, 3, 4, 5, 6, 7, 8, 9, 10, 11, 12, 13, 14, 15, 16, 17, 18] }
def rsumL_t0 : List (Q × Bool) := [((.fit .i64 (.var 5)), true),
  ((.le (.var 5) (.var 0)), false),
  ((.le (.int 0) (.var 0)), true),
  ((.le (.int 0) (.bi .add (.var 4) (.var 0))), true),
  ((.le (.var 3) (.bi .add (.var 4) (.var 0))), false),
  ((.fit .i64 (.bi .add (.var 0) (.int 1))), true)]
def rsumL_d0 : List Duty := [(true, (.fn 1 (.bi .pair (.bi (.iop .add .u32) (.bi (.iop .mul .u32) (.int 3) (.var 1)) (.bi (.iop .mul .u32) (.bi (.iop .add .u32) (.bi (.iop .mul .u32) (.int 2) (.bi .sel (.var 2) (.bi .add (.var 4) (.var 0)))) (.int 1)) (.int 2654435761))) (.bi .pair (.var 2) (.bi .pair (.bi .add (.var 4) (.bi .add (.var 0) (.int 1))) (.bi .pair (.bi .add (.var 4) (.var 5)) (.int 0)))))), (.fn 1 (.bi .pair (.var 1) (.bi .pair (.var 2) (.bi .pair (.bi .add (.var 4) (.var 0)) (.bi .pair (.bi .add (.var 4) (.var 5)) (.int 0)))))))]
def rsumL_h0 : List (Nat × E) := [(3, (.var 3)), (2, (.var 2)), (4, (.var 4)), (5, (.var 5)), (6, (.var 6)), (1, (.bi (.iop .add .u32) (.bi (.iop .mul .u32) (.int 3) (.var 1)) (.bi (.iop .mul .u32) (.bi (.iop .add .u32) (.bi (.iop .mul .u32) (.int 2) (.bi .sel (.var 2) (.bi .add (.var 4) (.var 0)))) (.int 1)) (.int 2654435761)))), (0, (.bi .add (.var 0) (.int 1)))]
theorem rsumL_h0_0 : lookE rsumL_h0 0 = (.bi .add (.var 0) (.int 1)) := rfl
theorem rsumL_h0_1 : lookE rsumL_h0 1 = (.bi (.iop .add .u32) (.bi (.iop .mul .u32) (.int 3) (.var 1)) (.bi (.iop .mul .u32) (.bi (.iop .add .u32) (.bi (.iop .mul .u32) (.int 2) (.bi .sel (.var 2) (.bi .add (.var 4) (.var 0)))) (.int 1)) (.int 2654435761))) := rfl
theorem rsumL_h0_2 : lookE rsumL_h0 2 = (.var 2) := rfl
theorem rsumL_h0_3 : lookE rsumL_h0 3 = (.var 3) := rfl
theorem rsumL_h0_4 : lookE rsumL_h0 4 = (.var 4) := rfl
theorem rsumL_h0_5 : lookE rsumL_h0 5 = (.var 5) := rfl
theorem rsumL_h0_6 : lookE rsumL_h0 6 = (.var 6) := rfl
theorem rsumL_y0 : nextD rsumL rsumL_h0 [(3, 3)] (roundC Try.prog [⟨14, [4, 1, 0, 1, 1], sumL⟩, ⟨14, [4, 1, 0, 1, 1], sumLO⟩] [(14, sumC), (14, sumCO)] [] 3000 40 15 [4, 1, 0, 1, 1] (tellA rsumL_t0) rsumL) = some rsumL_d0 := by kernel_rfl
def rsumL_t1 : List (Q × Bool) := [((.fit .i64 (.var 5)), true),
  ((.le (.var 5) (.var 0)), true)]
def rsumL_d1 : List Duty := [(true, (.var 1), (.fn 1 (.bi .pair (.var 1) (.bi .pair (.var 2) (.bi .pair (.bi .add (.var 4) (.var 0)) (.bi .pair (.bi .add (.var 4) (.var 5)) (.int 0)))))))]
theorem rsumL_y1 : endD rsumL [(3, 3)] 1000 (roundC Try.prog [⟨14, [4, 1, 0, 1, 1], sumL⟩, ⟨14, [4, 1, 0, 1, 1], sumLO⟩] [(14, sumC), (14, sumCO)] [] 3000 40 15 [4, 1, 0, 1, 1] (tellA rsumL_t1) rsumL) = some rsumL_d1 := by kernel_rfl
theorem rsumL_holds : LHolds Try.prog (loopAt Try.prog 15 [4, 1, 0, 1, 1]) rsumL F := by
  refine loop_roundsC sound (tableCons sumL_holds (tableCons sumLO_holds (tableNil _ _))) (specsCons sumC_holds (specsCons sumCO_holds (specsNil _ _))) (oversNil _ _) (fuel := 3000) (depth := 40) (by kernel_rfl) (by kernel_rfl) (by kernel_rfl) (fun d => ((d 5).toInt - (d 0).toInt).toNat) fun d hp hR hA => ?_
  have hp := allTold'_iff.2 hp
  simp only [rsumL, allTold', dutiesTold, factsA, factsP, factsR, AV.facts, RW.facts, inK, and_true, Q.holds', E.i, E.s, E.n, D.nat, E.den, BO.den, UO.den, TO.den, D.toInt_int, D.toList_list, D.ints_ofInts, i64min, i64max, u8min, u8max, u16min, u16max, u32min, u32max, u64min, u64max, i32min, i32max, Om.sub, selI, ints_app, ints_cut, ints_upd, ints_rep, ints_splice, len_ints] at hp hR hA
  by_cases h : (d 5).toInt ≤ (d 0).toInt
  · refine ⟨tellA rsumL_t1, tellA_ok (allTold'_iff.1 ?_), .inl ⟨_, _, _, rsumL_y1, dutiesTold_ok ?_⟩⟩
    · simp only [rsumL_t1, allTold', dutiesTold, factsA, factsP, factsR, AV.facts, RW.facts, inK, and_true, Q.holds', E.i, E.s, E.n, D.nat, E.den, BO.den, UO.den, TO.den, D.toInt_int, D.toList_list, D.ints_ofInts, i64min, i64max, u8min, u8max, u16min, u16max, u32min, u32max, u64min, u64max, i32min, i32max, Om.sub, selI, ints_app, ints_cut, ints_upd, ints_rep, ints_splice, len_ints]
      omega
    · simp only [rsumL_d1, F1, allTold', dutiesTold, factsA, factsP, factsR, AV.facts, RW.facts, inK, and_true, Q.holds', E.i, E.s, E.n, D.nat, E.den, BO.den, UO.den, TO.den, D.toInt_int, D.toList_list, D.ints_ofInts, i64min, i64max, u8min, u8max, u16min, u16max, u32min, u32max, u64min, u64max, i32min, i32max, Om.sub, selI, ints_app, ints_cut, ints_upd, ints_rep, ints_splice, len_ints]
      rw [prt_nil (by omega) (by omega)]
      rfl
  · refine ⟨tellA rsumL_t0, tellA_ok (allTold'_iff.1 ?_), .inr ⟨rsumL_h0, _, _, rsumL_y0, dutiesTold_ok ?_, allTold'_iff.1 ?_, ?_⟩⟩
    · simp only [rsumL_t0, allTold', dutiesTold, factsA, factsP, factsR, AV.facts, RW.facts, inK, and_true, Q.holds', E.i, E.s, E.n, D.nat, E.den, BO.den, UO.den, TO.den, D.toInt_int, D.toList_list, D.ints_ofInts, i64min, i64max, u8min, u8max, u16min, u16max, u32min, u32max, u64min, u64max, i32min, i32max, Om.sub, selI, ints_app, ints_cut, ints_upd, ints_rep, ints_splice, len_ints]
      omega
    · simp only [rsumL_d0, F1, allTold', dutiesTold, factsA, factsP, factsR, AV.facts, RW.facts, inK, and_true, Q.holds', E.i, E.s, E.n, D.nat, E.den, BO.den, UO.den, TO.den, D.toInt_int, D.toList_list, D.ints_ofInts, i64min, i64max, u8min, u8max, u16min, u16max, u32min, u32max, u64min, u64max, i32min, i32max, Om.sub, selI, ints_app, ints_cut, ints_upd, ints_rep, ints_splice, len_ints]
      rw [prt_step (x := (d 2).ints) (o := (d 4).toInt + (d 0).toInt) (by omega) (by omega) (by omega), Int.add_assoc]
      rfl
    · simp only [rsumL, rsumL_h0_0, rsumL_h0_1, rsumL_h0_2, rsumL_h0_3, rsumL_h0_4, rsumL_h0_5, rsumL_h0_6, allTold', dutiesTold, factsA, factsP, factsR, AV.facts, RW.facts, inK, and_true, Q.holds', E.i, E.s, E.n, D.nat, E.den, BO.den, UO.den, TO.den, D.toInt_int, D.toList_list, D.ints_ofInts, i64min, i64max, u8min, u8max, u16min, u16max, u32min, u32max, u64min, u64max, i32min, i32max, Om.sub, selI, ints_app, ints_cut, ints_upd, ints_rep, ints_splice, len_ints]
      omega
    · simp only [rsumL_h0_0, rsumL_h0_1, rsumL_h0_2, rsumL_h0_3, rsumL_h0_4, rsumL_h0_5, rsumL_h0_6, allTold', dutiesTold, factsA, factsP, factsR, AV.facts, RW.facts, inK, and_true, Q.holds', E.i, E.s, E.n, D.nat, E.den, BO.den, UO.den, TO.den, D.toInt_int, D.toList_list, D.ints_ofInts, i64min, i64max, u8min, u8max, u16min, u16max, u32min, u32max, u64min, u64max, i32min, i32max, Om.sub, selI, ints_app, ints_cut, ints_upd, ints_rep, ints_splice, len_ints]
      omega

def rsumLO : LSpec := { n := 20, next := 2, pat := [(4, .sint .i64 (.var 0)), (3, .sint .u32 (.var 1)), (0, .sslice 3 (.var 4) (.var 5) (.var 6) true)], rows := [(3, .eseq ⟨.u8, .var 3, .var 2⟩)], pre := [(.le (.int 0) (.var 0), true), (.le (.var 0) (.var 5), true), (.le (.bi .add (.var 4) (.var 5)) (.var 3), true), (.le (.var 5) (.int 1000000), true)], x := 0, fin := [(3, .sint .u32 (.fn 1 (argsE [.var 1, .var 2, .bi .add (.var 4) (.var 0), .bi .add (.var 4) (.var 5)])))], frows := [], same := [], chg := [0, 3, 4, 5, 6, 7, 8, 9, 10, 11, 12, 13, 14, 15, 16, 17, 18] }
def rsumLO_t0 : List (Q × Bool) := [((.fit .i64 (.var 5)), true),
  ((.le (.var 5) (.var 0)), false),
  ((.le (.int 0) (.var 0)), true),
  ((.le (.int 0) (.bi .add (.var 4) (.var 0))), true),
  ((.le (.var 3) (.bi .add (.var 4) (.var 0))), false),
  ((.fit .i64 (.bi .add (.var 0) (.int 1))), true)]
def rsumLO_d0 : List Duty := [(true, (.fn 1 (.bi .pair (.bi (.iop .add .u32) (.bi (.iop .mul .u32) (.int 3) (.var 1)) (.bi (.iop .mul .u32) (.bi (.iop .add .u32) (.bi (.iop .mul .u32) (.int 2) (.bi .sel (.var 2) (.bi .add (.var 4) (.var 0)))) (.int 1)) (.int 2654435761))) (.bi .pair (.var 2) (.bi .pair (.bi .add (.var 4) (.bi .add (.var 0) (.int 1))) (.bi .pair (.bi .add (.var 4) (.var 5)) (.int 0)))))), (.fn 1 (.bi .pair (.var 1) (.bi .pair (.var 2) (.bi .pair (.bi .add (.var 4) (.var 0)) (.bi .pair (.bi .add (.var 4) (.var 5)) (.int 0)))))))]
def rsumLO_h0 : List (Nat × E) := [(3, (.var 3)), (2, (.var 2)), (4, (.var 4)), (5, (.var 5)), (6, (.var 6)), (1, (.bi (.iop .add .u32) (.bi (.iop .mul .u32) (.int 3) (.var 1)) (.bi (.iop .mul .u32) (.bi (.iop .add .u32) (.bi (.iop .mul .u32) (.int 2) (.bi .sel (.var 2) (.bi .add (.var 4) (.var 0)))) (.int 1)) (.int 2654435761)))), (0, (.bi .add (.var 0) (.int 1)))]
theorem rsumLO_h0_0 : lookE rsumLO_h0 0 = (.bi .add (.var 0) (.int 1)) := rfl
theorem rsumLO_h0_1 : lookE rsumLO_h0 1 = (.bi (.iop .add .u32) (.bi (.iop .mul .u32) (.int 3) (.var 1)) (.bi (.iop .mul .u32) (.bi (.iop .add .u32) (.bi (.iop .mul .u32) (.int 2) (.bi .sel (.var 2) (.bi .add (.var 4) (.var 0)))) (.int 1)) (.int 2654435761))) := rfl
theorem rsumLO_h0_2 : lookE rsumLO_h0 2 = (.var 2) := rfl
theorem rsumLO_h0_3 : lookE rsumLO_h0 3 = (.var 3) := rfl
theorem rsumLO_h0_4 : lookE rsumLO_h0 4 = (.var 4) := rfl
theorem rsumLO_h0_5 : lookE rsumLO_h0 5 = (.var 5) := rfl
theorem rsumLO_h0_6 : lookE rsumLO_h0 6 = (.var 6) := rfl
theorem rsumLO_y0 : nextD rsumLO rsumLO_h0 [(3, 3)] (roundC Try.prog [⟨14, [4, 1, 0, 1, 1], sumL⟩, ⟨14, [4, 1, 0, 1, 1], sumLO⟩, ⟨15, [4, 1, 0, 1, 1], rsumL⟩] [(14, sumC), (14, sumCO)] [] 3000 40 15 [4, 1, 0, 1, 1] (tellA rsumLO_t0) rsumLO) = some rsumLO_d0 := by kernel_rfl
def rsumLO_t1 : List (Q × Bool) := [((.fit .i64 (.var 5)), true),
  ((.le (.var 5) (.var 0)), true)]
def rsumLO_d1 : List Duty := [(true, (.var 1), (.fn 1 (.bi .pair (.var 1) (.bi .pair (.var 2) (.bi .pair (.bi .add (.var 4) (.var 0)) (.bi .pair (.bi .add (.var 4) (.var 5)) (.int 0)))))))]
theorem rsumLO_y1 : endD rsumLO [(3, 3)] 1000 (roundC Try.prog [⟨14, [4, 1, 0, 1, 1], sumL⟩, ⟨14, [4, 1, 0, 1, 1], sumLO⟩, ⟨15, [4, 1, 0, 1, 1], rsumL⟩] [(14, sumC), (14, sumCO)] [] 3000 40 15 [4, 1, 0, 1, 1] (tellA rsumLO_t1) rsumLO) = some rsumLO_d1 := by kernel_rfl
theorem rsumLO_holds : LHolds Try.prog (loopAt Try.prog 15 [4, 1, 0, 1, 1]) rsumLO F := by
  refine loop_roundsC sound (tableCons sumL_holds (tableCons sumLO_holds (tableCons rsumL_holds (tableNil _ _)))) (specsCons sumC_holds (specsCons sumCO_holds (specsNil _ _))) (oversNil _ _) (fuel := 3000) (depth := 40) (by kernel_rfl) (by kernel_rfl) (by kernel_rfl) (fun d => ((d 5).toInt - (d 0).toInt).toNat) fun d hp hR hA => ?_
  have hp := allTold'_iff.2 hp
  simp only [rsumLO, allTold', dutiesTold, factsA, factsP, factsR, AV.facts, RW.facts, inK, and_true, Q.holds', E.i, E.s, E.n, D.nat, E.den, BO.den, UO.den, TO.den, D.toInt_int, D.toList_list, D.ints_ofInts, i64min, i64max, u8min, u8max, u16min, u16max, u32min, u32max, u64min, u64max, i32min, i32max, Om.sub, selI, ints_app, ints_cut, ints_upd, ints_rep, ints_splice, len_ints] at hp hR hA
  by_cases h : (d 5).toInt ≤ (d 0).toInt
  · refine ⟨tellA rsumLO_t1, tellA_ok (allTold'_iff.1 ?_), .inl ⟨_, _, _, rsumLO_y1, dutiesTold_ok ?_⟩⟩
    · simp only [rsumLO_t1, allTold', dutiesTold, factsA, factsP, factsR, AV.facts, RW.facts, inK, and_true, Q.holds', E.i, E.s, E.n, D.nat, E.den, BO.den, UO.den, TO.den, D.toInt_int, D.toList_list, D.ints_ofInts, i64min, i64max, u8min, u8max, u16min, u16max, u32min, u32max, u64min, u64max, i32min, i32max, Om.sub, selI, ints_app, ints_cut, ints_upd, ints_rep, ints_splice, len_ints]
      omega
    · simp only [rsumLO_d1, F1, allTold', dutiesTold, factsA, factsP, factsR, AV.facts, RW.facts, inK, and_true, Q.holds', E.i, E.s, E.n, D.nat, E.den, BO.den, UO.den, TO.den, D.toInt_int, D.toList_list, D.ints_ofInts, i64min, i64max, u8min, u8max, u16min, u16max, u32min, u32max, u64min, u64max, i32min, i32max, Om.sub, selI, ints_app, ints_cut, ints_upd, ints_rep, ints_splice, len_ints]
      rw [prt_nil (by omega) (by omega)]
      rfl
  · refine ⟨tellA rsumLO_t0, tellA_ok (allTold'_iff.1 ?_), .inr ⟨rsumLO_h0, _, _, rsumLO_y0, dutiesTold_ok ?_, allTold'_iff.1 ?_, ?_⟩⟩
    · simp only [rsumLO_t0, allTold', dutiesTold, factsA, factsP, factsR, AV.facts, RW.facts, inK, and_true, Q.holds', E.i, E.s, E.n, D.nat, E.den, BO.den, UO.den, TO.den, D.toInt_int, D.toList_list, D.ints_ofInts, i64min, i64max, u8min, u8max, u16min, u16max, u32min, u32max, u64min, u64max, i32min, i32max, Om.sub, selI, ints_app, ints_cut, ints_upd, ints_rep, ints_splice, len_ints]
      omega
    · simp only [rsumLO_d0, F1, allTold', dutiesTold, factsA, factsP, factsR, AV.facts, RW.facts, inK, and_true, Q.holds', E.i, E.s, E.n, D.nat, E.den, BO.den, UO.den, TO.den, D.toInt_int, D.toList_list, D.ints_ofInts, i64min, i64max, u8min, u8max, u16min, u16max, u32min, u32max, u64min, u64max, i32min, i32max, Om.sub, selI, ints_app, ints_cut, ints_upd, ints_rep, ints_splice, len_ints]
      rw [prt_step (x := (d 2).ints) (o := (d 4).toInt + (d 0).toInt) (by omega) (by omega) (by omega), Int.add_assoc]
      rfl
    · simp only [rsumLO, rsumLO_h0_0, rsumLO_h0_1, rsumLO_h0_2, rsumLO_h0_3, rsumLO_h0_4, rsumLO_h0_5, rsumLO_h0_6, allTold', dutiesTold, factsA, factsP, factsR, AV.facts, RW.facts, inK, and_true, Q.holds', E.i, E.s, E.n, D.nat, E.den, BO.den, UO.den, TO.den, D.toInt_int, D.toList_list, D.ints_ofInts, i64min, i64max, u8min, u8max, u16min, u16max, u32min, u32max, u64min, u64max, i32min, i32max, Om.sub, selI, ints_app, ints_cut, ints_upd, ints_rep, ints_splice, len_ints]
      omega
    · simp only [rsumLO_h0_0, rsumLO_h0_1, rsumLO_h0_2, rsumLO_h0_3, rsumLO_h0_4, rsumLO_h0_5, rsumLO_h0_6, allTold', dutiesTold, factsA, factsP, factsR, AV.facts, RW.facts, inK, and_true, Q.holds', E.i, E.s, E.n, D.nat, E.den, BO.den, UO.den, TO.den, D.toInt_int, D.toList_list, D.ints_ofInts, i64min, i64max, u8min, u8max, u16min, u16max, u32min, u32max, u64min, u64max, i32min, i32max, Om.sub, selI, ints_app, ints_cut, ints_upd, ints_rep, ints_splice, len_ints]
      omega

def rsumC : CSpec := { args := [.sslice 3 (.var 1) (.var 2) (.var 3) false], next := 2, rows := [(3, .eseq ⟨.u8, .var 4, .var 5⟩)], pre := [(.le (.bi .add (.var 1) (.var 2)) (.var 4), true), (.le (.var 2) (.int 1000000), true)], res := .sint .u32 (.fn 2 (argsE [.var 5, .var 1, .bi .add (.var 1) (.var 2)])), frows := [], same := [] }
def rsumC_t0 : List (Q × Bool) := [((.le (.int 0) (.var 2)), true),
  ((.le (.bi .add (.var 1) (.var 2)) (.var 4)), true),
  ((.le (.var 2) (.int 1000000)), true)]
def rsumC_d0 : List Duty := [(true, (.fn 1 (.bi .pair (.int 0) (.bi .pair (.var 5) (.bi .pair (.bi .add (.var 1) (.int 0)) (.bi .pair (.bi .add (.var 1) (.var 2)) (.int 0)))))), (.fn 2 (.bi .pair (.var 5) (.bi .pair (.var 1) (.bi .pair (.bi .add (.var 1) (.var 2)) (.int 0))))))]
theorem rsumC_y0 : endC rsumC [] 1000 (callC Try.prog (tellA rsumC_t0) [⟨14, [4, 1, 0, 1, 1], sumL⟩, ⟨14, [4, 1, 0, 1, 1], sumLO⟩, ⟨15, [4, 1, 0, 1, 1], rsumL⟩, ⟨15, [4, 1, 0, 1, 1], rsumLO⟩] [(14, sumC), (14, sumCO)] [] 3000 40 15 rsumC) = some rsumC_d0 := by kernel_rfl
theorem rsumC_holds : CHolds Try.prog 15 rsumC F := by
  refine cholds_of sound (tableCons sumL_holds (tableCons sumLO_holds (tableCons rsumL_holds (tableCons rsumLO_holds (tableNil _ _))))) (specsCons sumC_holds (specsCons sumCO_holds (specsNil _ _))) (oversNil _ _) (fuel := 3000) (depth := 40) (by kernel_rfl) fun d hp hR hA => ?_
  have hp := allTold'_iff.2 hp
  simp only [rsumC, allTold', dutiesTold, factsA, factsP, factsR, AV.facts, RW.facts, inK, and_true, Q.holds', E.i, E.s, E.n, D.nat, E.den, BO.den, UO.den, TO.den, D.toInt_int, D.toList_list, D.ints_ofInts, i64min, i64max, u8min, u8max, u16min, u16max, u32min, u32max, u64min, u64max, i32min, i32max, Om.sub, selI, ints_app, ints_cut, ints_upd, ints_rep, ints_splice, len_ints] at hp hR hA
  refine ⟨tellA rsumC_t0, _, _, _, tellA_ok (allTold'_iff.1 ?_), rsumC_y0, dutiesTold_ok ?_⟩
  · simp only [rsumC_t0, allTold', dutiesTold, factsA, factsP, factsR, AV.facts, RW.facts, inK, and_true, Q.holds', E.i, E.s, E.n, D.nat, E.den, BO.den, UO.den, TO.den, D.toInt_int, D.toList_list, D.ints_ofInts, i64min, i64max, u8min, u8max, u16min, u16max, u32min, u32max, u64min, u64max, i32min, i32max, Om.sub, selI, ints_app, ints_cut, ints_upd, ints_rep, ints_splice, len_ints]
    omega
  · simp only [rsumC_d0, F1, F2, Int.add_zero, allTold', dutiesTold, factsA, factsP, factsR, AV.facts, RW.facts, inK, and_true, Q.holds', E.i, E.s, E.n, D.nat, E.den, BO.den, UO.den, TO.den, D.toInt_int, D.toList_list, D.ints_ofInts, i64min, i64max, u8min, u8max, u16min, u16max, u32min, u32max, u64min, u64max, i32min, i32max, Om.sub, selI, ints_app, ints_cut, ints_upd, ints_rep, ints_splice, len_ints]
    try rfl

def rsumCO : CSpec := { args := [.sslice 3 (.var 1) (.var 2) (.var 3) true], next := 2, rows := [(3, .eseq ⟨.u8, .var 4, .var 5⟩)], pre := [(.le (.bi .add (.var 1) (.var 2)) (.var 4), true), (.le (.var 2) (.int 1000000), true)], res := .sint .u32 (.fn 2 (argsE [.var 5, .var 1, .bi .add (.var 1) (.var 2)])), frows := [], same := [] }
def rsumCO_t0 : List (Q × Bool) := [((.le (.int 0) (.var 2)), true),
  ((.le (.bi .add (.var 1) (.var 2)) (.var 4)), true),
  ((.le (.var 2) (.int 1000000)), true)]
def rsumCO_d0 : List Duty := [(true, (.fn 1 (.bi .pair (.int 0) (.bi .pair (.var 5) (.bi .pair (.bi .add (.var 1) (.int 0)) (.bi .pair (.bi .add (.var 1) (.var 2)) (.int 0)))))), (.fn 2 (.bi .pair (.var 5) (.bi .pair (.var 1) (.bi .pair (.bi .add (.var 1) (.var 2)) (.int 0))))))]
theorem rsumCO_y0 : endC rsumCO [] 1000 (callC Try.prog (tellA rsumCO_t0) [⟨14, [4, 1, 0, 1, 1], sumL⟩, ⟨14, [4, 1, 0, 1, 1], sumLO⟩, ⟨15, [4, 1, 0, 1, 1], rsumL⟩, ⟨15, [4, 1, 0, 1, 1], rsumLO⟩] [(14, sumC), (14, sumCO), (15, rsumC)] [] 3000 40 15 rsumCO) = some rsumCO_d0 := by kernel_rfl
theorem rsumCO_holds : CHolds Try.prog 15 rsumCO F := by
  refine cholds_of sound (tableCons sumL_holds (tableCons sumLO_holds (tableCons rsumL_holds (tableCons rsumLO_holds (tableNil _ _))))) (specsCons sumC_holds (specsCons sumCO_holds (specsCons rsumC_holds (specsNil _ _)))) (oversNil _ _) (fuel := 3000) (depth := 40) (by kernel_rfl) fun d hp hR hA => ?_
  have hp := allTold'_iff.2 hp
  simp only [rsumCO, allTold', dutiesTold, factsA, factsP, factsR, AV.facts, RW.facts, inK, and_true, Q.holds', E.i, E.s, E.n, D.nat, E.den, BO.den, UO.den, TO.den, D.toInt_int, D.toList_list, D.ints_ofInts, i64min, i64max, u8min, u8max, u16min, u16max, u32min, u32max, u64min, u64max, i32min, i32max, Om.sub, selI, ints_app, ints_cut, ints_upd, ints_rep, ints_splice, len_ints] at hp hR hA
  refine ⟨tellA rsumCO_t0, _, _, _, tellA_ok (allTold'_iff.1 ?_), rsumCO_y0, dutiesTold_ok ?_⟩
  · simp only [rsumCO_t0, allTold', dutiesTold, factsA, factsP, factsR, AV.facts, RW.facts, inK, and_true, Q.holds', E.i, E.s, E.n, D.nat, E.den, BO.den, UO.den, TO.den, D.toInt_int, D.toList_list, D.ints_ofInts, i64min, i64max, u8min, u8max, u16min, u16max, u32min, u32max, u64min, u64max, i32min, i32max, Om.sub, selI, ints_app, ints_cut, ints_upd, ints_rep, ints_splice, len_ints]
    omega
  · simp only [rsumCO_d0, F1, F2, Int.add_zero, allTold', dutiesTold, factsA, factsP, factsR, AV.facts, RW.facts, inK, and_true, Q.holds', E.i, E.s, E.n, D.nat, E.den, BO.den, UO.den, TO.den, D.toInt_int, D.toList_list, D.ints_ofInts, i64min, i64max, u8min, u8max, u16min, u16max, u32min, u32max, u64min, u64max, i32min, i32max, Om.sub, selI, ints_app, ints_cut, ints_upd, ints_rep, ints_splice, len_ints]
    try rfl

def lentC : CSpec := { args := [.sslice 3 (.var 1) (.var 2) (.var 3) false], next := 2, rows := [(3, .eseq ⟨.u8, .var 4, .var 5⟩)], pre := [(.le (.bi .add (.var 1) (.var 2)) (.var 4), true), (.le (.var 2) (.int 1000000), true)], res := .sslice 5 (.int 0) (.var 2) (.bi .add (.var 2) (.int 3)) false, frows := [(5, .seq ⟨5, .u8, .bi .add (.var 2) (.int 3), .fn 6 (argsE [.var 5, .var 1, .bi .add (.var 1) (.var 2)]), false, false⟩)], same := [] }
def lentC_t0 : List (Q × Bool) := [((.fit .i64 (.var 2)), true),
  ((.fit .i64 (.bi .add (.var 2) (.int 3))), true),
  ((.le (.int 0) (.bi .add (.var 2) (.int 3))), true),
  ((.le (.bi .add (.var 2) (.int 3)) (.int 281474976710656)), true),
  ((.le (.bi .add (.var 2) (.int 3)) (.int 9223372036854775807)), true),
  ((.le (.bi .add (.var 1) (.var 2)) (.var 4)), true),
  ((.le (.var 2) (.bi .add (.var 2) (.int 3))), true),
  ((.le (.bi .add (.var 2) (.int 3)) (.var 2)), false),
  ((.fit .i64 (.bi .add (.bi (.iop .rem .i64) (.var 2) (.int 90)) (.int 160))), true),
  ((.le (.int 0) (.var 2)), true),
  ((.fit .i64 (.bi .add (.var 2) (.int 1))), true),
  ((.le (.bi .add (.var 2) (.int 3)) (.bi .add (.var 2) (.int 1))), false),
  ((.fit .i64 (.bi .add (.bi (.iop .rem .i64) (.bi .add (.var 2) (.int 1)) (.int 90)) (.int 160))), true),
  ((.le (.int 0) (.bi .add (.var 2) (.int 1))), true),
  ((.fit .i64 (.bi .add (.var 2) (.int 2))), true),
  ((.le (.bi .add (.var 2) (.int 3)) (.bi .add (.var 2) (.int 2))), false),
  ((.fit .i64 (.bi .add (.bi (.iop .rem .i64) (.bi .add (.var 2) (.int 2)) (.int 90)) (.int 160))), true),
  ((.le (.int 0) (.bi .add (.var 2) (.int 2))), true)]
def lentC_d0 : List Duty := [(false, (.tr .upd (.tr .upd (.tr .upd (.tr .splice (.bi .rep (.bi .add (.var 2) (.int 3)) (.int 0)) (.int 0) (.tr .cut (.var 5) (.var 1) (.bi .add (.var 1) (.var 2)))) (.var 2) (.un (.wrap .u8) (.bi .add (.bi (.iop .rem .i64) (.var 2) (.int 90)) (.int 160)))) (.bi .add (.var 2) (.int 1)) (.un (.wrap .u8) (.bi .add (.bi (.iop .rem .i64) (.bi .add (.var 2) (.int 1)) (.int 90)) (.int 160)))) (.bi .add (.var 2) (.int 2)) (.un (.wrap .u8) (.bi .add (.bi (.iop .rem .i64) (.bi .add (.var 2) (.int 2)) (.int 90)) (.int 160)))), (.fn 6 (.bi .pair (.var 5) (.bi .pair (.var 1) (.bi .pair (.bi .add (.var 1) (.var 2)) (.int 0))))))]
theorem lentC_y0 : endC lentC [(5, 5)] 1000 (callC Try.prog (tellA lentC_t0) [⟨14, [4, 1, 0, 1, 1], sumL⟩, ⟨14, [4, 1, 0, 1, 1], sumLO⟩, ⟨15, [4, 1, 0, 1, 1], rsumL⟩, ⟨15, [4, 1, 0, 1, 1], rsumLO⟩] [(14, sumC), (14, sumCO), (15, rsumC), (15, rsumCO)] [] 3000 40 11 lentC) = some lentC_d0 := by kernel_rfl
theorem lentC_holds : CHolds Try.prog 11 lentC F := by
  refine cholds_of sound (tableCons sumL_holds (tableCons sumLO_holds (tableCons rsumL_holds (tableCons rsumLO_holds (tableNil _ _))))) (specsCons sumC_holds (specsCons sumCO_holds (specsCons rsumC_holds (specsCons rsumCO_holds (specsNil _ _))))) (oversNil _ _) (fuel := 3000) (depth := 40) (by kernel_rfl) fun d hp hR hA => ?_
  have hp := allTold'_iff.2 hp
  simp only [lentC, allTold', dutiesTold, factsA, factsP, factsR, AV.facts, RW.facts, inK, and_true, Q.holds', E.i, E.s, E.n, D.nat, E.den, BO.den, UO.den, TO.den, D.toInt_int, D.toList_list, D.ints_ofInts, i64min, i64max, u8min, u8max, u16min, u16max, u32min, u32max, u64min, u64max, i32min, i32max, Om.sub, selI, ints_app, ints_cut, ints_upd, ints_rep, ints_splice, len_ints] at hp hR hA
  refine ⟨tellA lentC_t0, _, _, _, tellA_ok (allTold'_iff.1 ?_), lentC_y0, dutiesTold_ok ?_⟩
  · simp only [lentC_t0, allTold', dutiesTold, factsA, factsP, factsR, AV.facts, RW.facts, inK, and_true, Q.holds', E.i, E.s, E.n, D.nat, E.den, BO.den, UO.den, TO.den, D.toInt_int, D.toList_list, D.ints_ofInts, i64min, i64max, u8min, u8max, u16min, u16max, u32min, u32max, u64min, u64max, i32min, i32max, Om.sub, selI, ints_app, ints_cut, ints_upd, ints_rep, ints_splice, len_ints]
    rw [rem_emod _ (by omega), rem_emod _ (by omega), rem_emod _ (by omega)]
    omega
  · simp only [lentC_d0, F6, ints_list, List.map_set, List.map_append, List.map_drop, List.map_take, List.map_replicate, List.length_drop, map_ints, allTold', dutiesTold, factsA, factsP, factsR, AV.facts, RW.facts, inK, and_true, Q.holds', E.i, E.s, E.n, D.nat, E.den, BO.den, UO.den, TO.den, D.toInt_int, D.toList_list, D.ints_ofInts, i64min, i64max, u8min, u8max, u16min, u16max, u32min, u32max, u64min, u64max, i32min, i32max, Om.sub, selI, ints_app, ints_cut, ints_upd, ints_rep, ints_splice, len_ints]
    rw [rem_emod _ (by omega), rem_emod _ (by omega), rem_emod _ (by omega)]
    obtain ⟨n, hn⟩ := Int.eq_ofNat_of_zero_le hA.1
    rw [hn] at hp hA ⊢
    have hl := prt_length (x := (d 5).ints) (o := (d 1).toInt) (t := (d 1).toInt + n) (by omega) (by omega) (by omega)
    have e1 : (List.drop (d 1).toInt.toNat (List.take ((d 1).toInt + n).toNat (d 5).ints)) = prt (d 5).ints (d 1).toInt ((d 1).toInt + n) := rfl
    have e2 : (List.take ((d 1).toInt + n).toNat (d 5).toList).length - (d 1).toInt.toNat = (prt (d 5).ints (d 1).toInt ((d 1).toInt + n)).length := by
      rw [← e1]; simp [D.ints]
    have h3 := lent_set (List.replicate (n + 3) 0) (prt (d 5).ints (d 1).toInt ((d 1).toInt + n)) n (by omega)
    rw [show ((n : Int) + 3).toNat = n + 3 by omega, show ((n : Int) + 2).toNat = n + 2 by omega, show ((n : Int) + 1).toNat = n + 1 by omega, show ((n : Int)).toNat = n by omega, show Int.toNat 0 = 0 from rfl, e1, e2, h3]
    unfold lentI markI
    rw [wrap_fit (by simp only [u8min, u8max]; omega), wrap_fit (by simp only [u8min, u8max]; omega), wrap_fit (by simp only [u8min, u8max]; omega)]
    rw [show ((prt (d 5).ints (d 1).toInt ((d 1).toInt + n)).length : Int) = n by omega]
    simp only [Int.add_comm]

def keptC : CSpec := { args := [.sslice 5 (.int 0) (.var 2) (.bi .add (.var 2) (.int 3)) false, .sslice 3 (.var 1) (.var 2) (.var 3) false], next := 3, rows := [(3, .eseq ⟨.u8, .var 4, .var 5⟩), (5, .eseq ⟨.u8, .bi .add (.var 2) (.int 3), .fn 6 (argsE [.var 5, .var 1, .bi .add (.var 1) (.var 2)])⟩)], pre := [(.le (.bi .add (.var 1) (.var 2)) (.var 4), true), (.le (.var 2) (.int 1000000), true)], res := .bool true, frows := [], same := [] }
def keptC_t0 : List (Q × Bool) := [((.fit .i64 (.var 2)), true),
  ((.fit .i64 (.bi .add (.var 2) (.int 3))), true),
  ((.le (.int 0) (.bi .add (.var 2) (.int 3))), true),
  ((.le (.bi .add (.var 1) (.var 2)) (.var 4)), true),
  ((.le (.var 2) (.int 1000000)), true)]
def keptC_d0 : List Duty := []
theorem keptC_y0 : endC keptC [] 1000 (callC Try.prog (tellA keptC_t0) [⟨14, [4, 1, 0, 1, 1], sumL⟩, ⟨14, [4, 1, 0, 1, 1], sumLO⟩, ⟨15, [4, 1, 0, 1, 1], rsumL⟩, ⟨15, [4, 1, 0, 1, 1], rsumLO⟩] [(14, sumC), (14, sumCO), (15, rsumC), (15, rsumCO), (11, lentC)] [] 3000 40 18 keptC) = some keptC_d0 := by kernel_rfl
theorem keptC_holds : CHolds Try.prog 18 keptC F := by
  refine cholds_of sound (tableCons sumL_holds (tableCons sumLO_holds (tableCons rsumL_holds (tableCons rsumLO_holds (tableNil _ _))))) (specsCons sumC_holds (specsCons sumCO_holds (specsCons rsumC_holds (specsCons rsumCO_holds (specsCons lentC_holds (specsNil _ _)))))) (oversNil _ _) (fuel := 3000) (depth := 40) (by kernel_rfl) fun d hp hR hA => ?_
  have hp := allTold'_iff.2 hp
  simp only [keptC, allTold', dutiesTold, factsA, factsP, factsR, AV.facts, RW.facts, inK, and_true, Q.holds', E.i, E.s, E.n, D.nat, E.den, BO.den, UO.den, TO.den, D.toInt_int, D.toList_list, D.ints_ofInts, i64min, i64max, u8min, u8max, u16min, u16max, u32min, u32max, u64min, u64max, i32min, i32max, Om.sub, selI, ints_app, ints_cut, ints_upd, ints_rep, ints_splice, len_ints] at hp hR hA
  refine ⟨tellA keptC_t0, _, _, _, tellA_ok (allTold'_iff.1 ?_), keptC_y0, dutiesTold_ok ?_⟩
  · simp only [keptC_t0, allTold', dutiesTold, factsA, factsP, factsR, AV.facts, RW.facts, inK, and_true, Q.holds', E.i, E.s, E.n, D.nat, E.den, BO.den, UO.den, TO.den, D.toInt_int, D.toList_list, D.ints_ofInts, i64min, i64max, u8min, u8max, u16min, u16max, u32min, u32max, u64min, u64max, i32min, i32max, Om.sub, selI, ints_app, ints_cut, ints_upd, ints_rep, ints_splice, len_ints]
    omega
  · simp only [keptC_d0, allTold', dutiesTold, factsA, factsP, factsR, AV.facts, RW.facts, inK, and_true, Q.holds', E.i, E.s, E.n, D.nat, E.den, BO.den, UO.den, TO.den, D.toInt_int, D.toList_list, D.ints_ofInts, i64min, i64max, u8min, u8max, u16min, u16max, u32min, u32max, u64min, u64max, i32min, i32max, Om.sub, selI, ints_app, ints_cut, ints_upd, ints_rep, ints_splice, len_ints]

def pickC : CSpec := { args := [.sint .i64 (.var 0), .sint .i64 (.var 1)], next := 0, rows := [], pre := [(.le (.int 1) (.var 1), true)], res := .sint .i64 (.fn 7 (argsE [.var 0, .var 1])), frows := [], same := [] }
def pickC_t0 : List (Q × Bool) := [((.le (.int 1) (.var 1)), true),
  ((.eq (.var 1) (.int 0)), false),
  ((.le (.int 0) (.bi (.iop .rem .i64) (.var 0) (.var 1))), true)]
def pickC_d0 : List Duty := [(true, (.bi (.iop .rem .i64) (.var 0) (.var 1)), (.fn 7 (.bi .pair (.var 0) (.bi .pair (.var 1) (.int 0)))))]
theorem pickC_y0 : endC pickC [] 1000 (callC Try.prog (tellA pickC_t0) [] [] [] 3000 40 25 pickC) = some pickC_d0 := by kernel_rfl
def pickC_t1 : List (Q × Bool) := [((.le (.int 1) (.var 1)), true),
  ((.eq (.var 1) (.int 0)), false),
  ((.le (.int 0) (.bi (.iop .rem .i64) (.var 0) (.var 1))), false),
  ((.fit .i64 (.bi .add (.bi (.iop .rem .i64) (.var 0) (.var 1)) (.var 1))), true)]
def pickC_d1 : List Duty := [(true, (.bi .add (.bi (.iop .rem .i64) (.var 0) (.var 1)) (.var 1)), (.fn 7 (.bi .pair (.var 0) (.bi .pair (.var 1) (.int 0)))))]
theorem pickC_y1 : endC pickC [] 1000 (callC Try.prog (tellA pickC_t1) [] [] [] 3000 40 25 pickC) = some pickC_d1 := by kernel_rfl
theorem pickC_holds : CHolds Try.prog 25 pickC F := by
  refine cholds_of sound (tableNil _ _) (specsNil _ _) (oversNil _ _) (fuel := 3000) (depth := 40) (by kernel_rfl) fun d hp hR hA => ?_
  have hp := allTold'_iff.2 hp
  simp only [pickC, allTold', dutiesTold, factsA, factsP, factsR, AV.facts, RW.facts, inK, and_true, Q.holds', E.i, E.s, E.n, D.nat, E.den, BO.den, UO.den, TO.den, D.toInt_int, D.toList_list, D.ints_ofInts, i64min, i64max, u8min, u8max, u16min, u16max, u32min, u32max, u64min, u64max, i32min, i32max, Om.sub, selI, ints_app, ints_cut, ints_upd, ints_rep, ints_splice, len_ints] at hp hR hA
  have e1 := emod_in (x := (d 0).toInt) hp
  have e2 := tmod_or .i64 (x := (d 0).toInt) hp
  by_cases h : 0 ≤ iopI .rem .i64 (d 0).toInt (d 1).toInt
  · refine ⟨tellA pickC_t0, _, _, _, tellA_ok (allTold'_iff.1 ?_), pickC_y0, dutiesTold_ok ?_⟩
    · simp only [pickC_t0, allTold', dutiesTold, factsA, factsP, factsR, AV.facts, RW.facts, inK, and_true, Q.holds', E.i, E.s, E.n, D.nat, E.den, BO.den, UO.den, TO.den, D.toInt_int, D.toList_list, D.ints_ofInts, i64min, i64max, u8min, u8max, u16min, u16max, u32min, u32max, u64min, u64max, i32min, i32max, Om.sub, selI, ints_app, ints_cut, ints_upd, ints_rep, ints_splice, len_ints]
      omega
    · simp only [pickC_d0, F7, allTold', dutiesTold, factsA, factsP, factsR, AV.facts, RW.facts, inK, and_true, Q.holds', E.i, E.s, E.n, D.nat, E.den, BO.den, UO.den, TO.den, D.toInt_int, D.toList_list, D.ints_ofInts, i64min, i64max, u8min, u8max, u16min, u16max, u32min, u32max, u64min, u64max, i32min, i32max, Om.sub, selI, ints_app, ints_cut, ints_upd, ints_rep, ints_splice, len_ints]
      omega
  · refine ⟨tellA pickC_t1, _, _, _, tellA_ok (allTold'_iff.1 ?_), pickC_y1, dutiesTold_ok ?_⟩
    · simp only [pickC_t1, allTold', dutiesTold, factsA, factsP, factsR, AV.facts, RW.facts, inK, and_true, Q.holds', E.i, E.s, E.n, D.nat, E.den, BO.den, UO.den, TO.den, D.toInt_int, D.toList_list, D.ints_ofInts, i64min, i64max, u8min, u8max, u16min, u16max, u32min, u32max, u64min, u64max, i32min, i32max, Om.sub, selI, ints_app, ints_cut, ints_upd, ints_rep, ints_splice, len_ints]
      omega
    · simp only [pickC_d1, F7, allTold', dutiesTold, factsA, factsP, factsR, AV.facts, RW.facts, inK, and_true, Q.holds', E.i, E.s, E.n, D.nat, E.den, BO.den, UO.den, TO.den, D.toInt_int, D.toList_list, D.ints_ofInts, i64min, i64max, u8min, u8max, u16min, u16max, u32min, u32max, u64min, u64max, i32min, i32max, Om.sub, selI, ints_app, ints_cut, ints_upd, ints_rep, ints_splice, len_ints]
      omega

def awakeC : CSpec := { args := [], next := 0, rows := [], pre := [], res := .bool true, frows := [], same := [] }
def awakeC_t0 : List (Q × Bool) := []
def awakeC_d0 : List Duty := []
theorem awakeC_y0 : endC awakeC [] 1000 (callC Try.prog (tellA awakeC_t0) [] [] [] 3000 40 19 awakeC) = some awakeC_d0 := by kernel_rfl
theorem awakeC_holds : CHolds Try.prog 19 awakeC F := by
  refine cholds_of sound (tableNil _ _) (specsNil _ _) (oversNil _ _) (fuel := 3000) (depth := 40) (by kernel_rfl) fun d hp hR hA => ?_
  refine ⟨tellA awakeC_t0, _, _, _, tellA_ok (allTold'_iff.1 ?_), awakeC_y0, dutiesTold_ok ?_⟩
  · trivial
  · trivial

def alongL : LSpec := { n := 47, next := 2, pat := [(5, .sint .i64 (.var 0)), (4, .sint .u32 (.var 1)), (0, .sslice 3 (.var 4) (.var 5) (.var 6) false)], rows := [(3, .eseq ⟨.u8, .var 3, .var 2⟩)], pre := [(.le (.int 16) (.var 0), true), (.le (.var 0) (.var 5), true), (.le (.bi .add (.var 4) (.var 5)) (.var 3), true), (.le (.var 5) (.int 1000), true), (.eq (.var 1) (.fn 2 (.bi .pair (.var 2) (.bi .pair (.bi .sub (.bi .add (.var 4) (.var 0)) (.int 16)) (.bi .pair (.bi .add (.var 4) (.var 0)) (.int 0))))), true)], x := 0, fin := [], frows := [], same := [], chg := [0, 4, 5, 19, 20, 21, 22, 23, 24, 25, 26, 27, 28, 29, 30, 31, 32, 33, 34, 35, 36, 37, 38, 39, 40, 41, 42, 43, 44, 45] }
def alongL_t0 : List (Q × Bool) := [((.fit .i64 (.var 5)), true),
  ((.le (.var 5) (.var 0)), false),
  ((.fit .i64 (.bi .add (.var 0) (.int (-16)))), true),
  ((.le (.int 0) (.bi .add (.var 0) (.int (-16)))), true),
  ((.le (.var 5) (.bi .add (.var 0) (.int (-16)))), false),
  ((.le (.int 0) (.bi .add (.var 4) (.bi .add (.var 0) (.int (-16))))), true),
  ((.le (.var 3) (.bi .add (.var 4) (.bi .add (.var 0) (.int (-16))))), false),
  ((.le (.int 0) (.var 0)), true),
  ((.le (.int 0) (.bi .add (.var 4) (.var 0))), true),
  ((.le (.var 3) (.bi .add (.var 4) (.var 0))), false),
  ((.fit .i64 (.bi .add (.var 0) (.int 1))), true),
  ((.fit .i64 (.bi .add (.var 0) (.int (-15)))), true),
  ((.le (.int 0) (.bi .add (.var 0) (.int (-15)))), true),
  ((.le (.bi .add (.var 0) (.int (-15))) (.bi .add (.var 0) (.int 1))), true),
  ((.le (.bi .add (.var 0) (.int 1)) (.var 6)), true),
  ((.le (.bi .add (.bi .add (.var 4) (.bi .add (.var 0) (.int (-15)))) (.bi .sub (.bi .add (.var 0) (.int 1)) (.bi .add (.var 0) (.int (-15))))) (.var 3)), true),
  ((.le (.bi .sub (.bi .add (.var 0) (.int 1)) (.bi .add (.var 0) (.int (-15)))) (.int 1000000)), true),
  ((.eq (.bi (.iop .add .u32) (.bi (.iop .mul .u32) (.int 3) (.bi (.iop .sub .u32) (.var 1) (.bi (.iop .mul .u32) (.bi (.iop .mul .u32) (.bi (.iop .add .u32) (.bi (.iop .mul .u32) (.int 2) (.bi .sel (.var 2) (.bi .add (.var 4) (.bi .add (.var 0) (.int (-16)))))) (.int 1)) (.int 2654435761)) (.int 14348907)))) (.bi (.iop .mul .u32) (.bi (.iop .add .u32) (.bi (.iop .mul .u32) (.int 2) (.bi .sel (.var 2) (.bi .add (.var 4) (.var 0)))) (.int 1)) (.int 2654435761))) (.fn 2 (.bi .pair (.var 2) (.bi .pair (.bi .add (.var 4) (.bi .add (.var 0) (.int (-15)))) (.bi .pair (.bi .add (.bi .add (.var 4) (.bi .add (.var 0) (.int (-15)))) (.bi .sub (.bi .add (.var 0) (.int 1)) (.bi .add (.var 0) (.int (-15))))) (.int 0)))))), true)]
def alongL_d0 : List Duty := []
def alongL_h0 : List (Nat × E) := [(3, (.var 3)), (2, (.var 2)), (4, (.var 4)), (5, (.var 5)), (6, (.var 6)), (1, (.bi (.iop .add .u32) (.bi (.iop .mul .u32) (.int 3) (.bi (.iop .sub .u32) (.var 1) (.bi (.iop .mul .u32) (.bi (.iop .mul .u32) (.bi (.iop .add .u32) (.bi (.iop .mul .u32) (.int 2) (.bi .sel (.var 2) (.bi .add (.var 4) (.bi .add (.var 0) (.int (-16)))))) (.int 1)) (.int 2654435761)) (.int 14348907)))) (.bi (.iop .mul .u32) (.bi (.iop .add .u32) (.bi (.iop .mul .u32) (.int 2) (.bi .sel (.var 2) (.bi .add (.var 4) (.var 0)))) (.int 1)) (.int 2654435761)))), (0, (.bi .add (.var 0) (.int 1)))]
theorem alongL_h0_0 : lookE alongL_h0 0 = (.bi .add (.var 0) (.int 1)) := rfl
theorem alongL_h0_1 : lookE alongL_h0 1 = (.bi (.iop .add .u32) (.bi (.iop .mul .u32) (.int 3) (.bi (.iop .sub .u32) (.var 1) (.bi (.iop .mul .u32) (.bi (.iop .mul .u32) (.bi (.iop .add .u32) (.bi (.iop .mul .u32) (.int 2) (.bi .sel (.var 2) (.bi .add (.var 4) (.bi .add (.var 0) (.int (-16)))))) (.int 1)) (.int 2654435761)) (.int 14348907)))) (.bi (.iop .mul .u32) (.bi (.iop .add .u32) (.bi (.iop .mul .u32) (.int 2) (.bi .sel (.var 2) (.bi .add (.var 4) (.var 0)))) (.int 1)) (.int 2654435761))) := rfl
theorem alongL_h0_2 : lookE alongL_h0 2 = (.var 2) := rfl
theorem alongL_h0_3 : lookE alongL_h0 3 = (.var 3) := rfl
theorem alongL_h0_4 : lookE alongL_h0 4 = (.var 4) := rfl
theorem alongL_h0_5 : lookE alongL_h0 5 = (.var 5) := rfl
theorem alongL_h0_6 : lookE alongL_h0 6 = (.var 6) := rfl
theorem alongL_y0 : nextD alongL alongL_h0 [(3, 3)] (roundC Try.prog [⟨14, [4, 1, 0, 1, 1], sumL⟩, ⟨14, [4, 1, 0, 1, 1], sumLO⟩, ⟨15, [4, 1, 0, 1, 1], rsumL⟩, ⟨15, [4, 1, 0, 1, 1], rsumLO⟩] [(14, sumC), (14, sumCO), (15, rsumC), (15, rsumCO), (11, lentC), (18, keptC), (25, pickC), (19, awakeC)] [] 3000 40 6 [4, 1, 0, 1, 1, 1, 1] (tellA alongL_t0) alongL) = some alongL_d0 := by kernel_rfl
def alongL_t1 : List (Q × Bool) := [((.fit .i64 (.var 5)), true),
  ((.le (.var 5) (.var 0)), true)]
def alongL_d1 : List Duty := []
theorem alongL_y1 : endD alongL [(3, 3)] 1000 (roundC Try.prog [⟨14, [4, 1, 0, 1, 1], sumL⟩, ⟨14, [4, 1, 0, 1, 1], sumLO⟩, ⟨15, [4, 1, 0, 1, 1], rsumL⟩, ⟨15, [4, 1, 0, 1, 1], rsumLO⟩] [(14, sumC), (14, sumCO), (15, rsumC), (15, rsumCO), (11, lentC), (18, keptC), (25, pickC), (19, awakeC)] [] 3000 40 6 [4, 1, 0, 1, 1, 1, 1] (tellA alongL_t1) alongL) = some alongL_d1 := by kernel_rfl
theorem alongL_holds : LHolds Try.prog (loopAt Try.prog 6 [4, 1, 0, 1, 1, 1, 1]) alongL F := by
  refine loop_roundsC sound (tableCons sumL_holds (tableCons sumLO_holds (tableCons rsumL_holds (tableCons rsumLO_holds (tableNil _ _))))) (specsCons sumC_holds (specsCons sumCO_holds (specsCons rsumC_holds (specsCons rsumCO_holds (specsCons lentC_holds (specsCons keptC_holds (specsCons pickC_holds (specsCons awakeC_holds (specsNil _ _))))))))) (oversNil _ _) (fuel := 3000) (depth := 40) (by kernel_rfl) (by kernel_rfl) (by kernel_rfl) (fun d => ((d 5).toInt - (d 0).toInt).toNat) fun d hp hR hA => ?_
  have hp := allTold'_iff.2 hp
  simp only [alongL, allTold', dutiesTold, factsA, factsP, factsR, AV.facts, RW.facts, inK, and_true, Q.holds', E.i, E.s, E.n, D.nat, E.den, BO.den, UO.den, TO.den, D.toInt_int, D.toList_list, D.ints_ofInts, i64min, i64max, u8min, u8max, u16min, u16max, u32min, u32max, u64min, u64max, i32min, i32max, Om.sub, selI, ints_app, ints_cut, ints_upd, ints_rep, ints_splice, len_ints] at hp hR hA
  by_cases h : (d 5).toInt ≤ (d 0).toInt
  · refine ⟨tellA alongL_t1, tellA_ok (allTold'_iff.1 ?_), .inl ⟨_, _, _, alongL_y1, dutiesTold_ok ?_⟩⟩
    · simp only [alongL_t1, allTold', dutiesTold, factsA, factsP, factsR, AV.facts, RW.facts, inK, and_true, Q.holds', E.i, E.s, E.n, D.nat, E.den, BO.den, UO.den, TO.den, D.toInt_int, D.toList_list, D.ints_ofInts, i64min, i64max, u8min, u8max, u16min, u16max, u32min, u32max, u64min, u64max, i32min, i32max, Om.sub, selI, ints_app, ints_cut, ints_upd, ints_rep, ints_splice, len_ints]
      omega
    · simp only [alongL_d1, allTold', dutiesTold, factsA, factsP, factsR, AV.facts, RW.facts, inK, and_true, Q.holds', E.i, E.s, E.n, D.nat, E.den, BO.den, UO.den, TO.den, D.toInt_int, D.toList_list, D.ints_ofInts, i64min, i64max, u8min, u8max, u16min, u16max, u32min, u32max, u64min, u64max, i32min, i32max, Om.sub, selI, ints_app, ints_cut, ints_upd, ints_rep, ints_splice, len_ints]
  · simp only [F2, D.toInt_int] at hp
    have key : rollI (d 1).toInt (((d 2).ints[((d 4).toInt + ((d 0).toInt + -16)).toNat]?).getD 0) (((d 2).ints[((d 4).toInt + (d 0).toInt).toNat]?).getD 0) = sumN 0 (prt (d 2).ints ((d 4).toInt + ((d 0).toInt + -15)) ((d 4).toInt + ((d 0).toInt + 1))) := by
      have e1 : prt (d 2).ints ((d 4).toInt + (d 0).toInt - 16) ((d 4).toInt + (d 0).toInt) = (((d 2).ints[((d 4).toInt + ((d 0).toInt + -16)).toNat]?).getD 0) :: prt (d 2).ints ((d 4).toInt + ((d 0).toInt + -15)) ((d 4).toInt + (d 0).toInt) := by
        rw [prt_step (by omega) (by omega) (by omega), show (d 4).toInt + (d 0).toInt - 16 + 1 = (d 4).toInt + ((d 0).toInt + -15) by omega, show (d 4).toInt + (d 0).toInt - 16 = (d 4).toInt + ((d 0).toInt + -16) by omega]
      have e2 : prt (d 2).ints ((d 4).toInt + ((d 0).toInt + -15)) ((d 4).toInt + ((d 0).toInt + 1)) = prt (d 2).ints ((d 4).toInt + ((d 0).toInt + -15)) ((d 4).toInt + (d 0).toInt) ++ [((d 2).ints[((d 4).toInt + (d 0).toInt).toNat]?).getD 0] := by
        rw [prt_app (m := (d 4).toInt + (d 0).toInt) (by omega) (by omega) (by omega) (by omega), prt_step (o := (d 4).toInt + (d 0).toInt) (by omega) (by omega) (by omega), prt_nil (o := (d 4).toInt + (d 0).toInt + 1) (by omega) (by omega)]
      have e3 := prt_length (x := (d 2).ints) (o := (d 4).toInt + ((d 0).toInt + -15)) (t := (d 4).toInt + (d 0).toInt) (by omega) (by omega) (by omega)
      rw [hp.2.2.2.2, e1, e2]
      exact roll_sum _ _ _ (by omega)
    unfold rollI wI at key
    refine ⟨tellA alongL_t0, tellA_ok (allTold'_iff.1 ?_), .inr ⟨alongL_h0, _, _, alongL_y0, dutiesTold_ok ?_, allTold'_iff.1 ?_, ?_⟩⟩
    · simp only [alongL_t0, F2, allTold', dutiesTold, factsA, factsP, factsR, AV.facts, RW.facts, inK, and_true, Q.holds', E.i, E.s, E.n, D.nat, E.den, BO.den, UO.den, TO.den, D.toInt_int, D.toList_list, D.ints_ofInts, i64min, i64max, u8min, u8max, u16min, u16max, u32min, u32max, u64min, u64max, i32min, i32max, Om.sub, selI, ints_app, ints_cut, ints_upd, ints_rep, ints_splice, len_ints]
      rw [show (d 4).toInt + ((d 0).toInt + -15) + ((d 0).toInt + 1 - ((d 0).toInt + -15)) = (d 4).toInt + ((d 0).toInt + 1) by omega, key]
      omega
    · simp only [alongL_d0, allTold', dutiesTold, factsA, factsP, factsR, AV.facts, RW.facts, inK, and_true, Q.holds', E.i, E.s, E.n, D.nat, E.den, BO.den, UO.den, TO.den, D.toInt_int, D.toList_list, D.ints_ofInts, i64min, i64max, u8min, u8max, u16min, u16max, u32min, u32max, u64min, u64max, i32min, i32max, Om.sub, selI, ints_app, ints_cut, ints_upd, ints_rep, ints_splice, len_ints]
    · simp only [alongL, alongL_h0_0, alongL_h0_1, alongL_h0_2, alongL_h0_3, alongL_h0_4, alongL_h0_5, alongL_h0_6, F2, allTold', dutiesTold, factsA, factsP, factsR, AV.facts, RW.facts, inK, and_true, Q.holds', E.i, E.s, E.n, D.nat, E.den, BO.den, UO.den, TO.den, D.toInt_int, D.toList_list, D.ints_ofInts, i64min, i64max, u8min, u8max, u16min, u16max, u32min, u32max, u64min, u64max, i32min, i32max, Om.sub, selI, ints_app, ints_cut, ints_upd, ints_rep, ints_splice, len_ints]
      rw [key, show (d 4).toInt + ((d 0).toInt + 1) - 16 = (d 4).toInt + ((d 0).toInt + -15) by omega]
      omega
    · simp only [alongL_h0_0, alongL_h0_1, alongL_h0_2, alongL_h0_3, alongL_h0_4, alongL_h0_5, alongL_h0_6, allTold', dutiesTold, factsA, factsP, factsR, AV.facts, RW.facts, inK, and_true, Q.holds', E.i, E.s, E.n, D.nat, E.den, BO.den, UO.den, TO.den, D.toInt_int, D.toList_list, D.ints_ofInts, i64min, i64max, u8min, u8max, u16min, u16max, u32min, u32max, u64min, u64max, i32min, i32max, Om.sub, selI, ints_app, ints_cut, ints_upd, ints_rep, ints_splice, len_ints]
      omega

def joinsL : LSpec := { n := 41, next := 2, pat := [(7, .sint .i64 (.var 0)), (6, .sint .u32 (.var 1)), (1, .sslice 3 (.var 4) (.var 5) (.var 6) false)], rows := [(3, .eseq ⟨.u8, .var 3, .var 2⟩)], pre := [(.le (.int 0) (.var 0), true), (.le (.var 0) (.var 5), true), (.le (.bi .add (.var 4) (.var 5)) (.var 3), true), (.le (.var 5) (.int 1000), true)], x := 0, fin := [(6, .sint .u32 (.fn 8 (argsE [.var 0, .var 5, .var 1]))), (1, .sslice 3 (.var 4) (.var 5) (.var 6) false)], frows := [], same := [3], chg := [1, 6, 7, 20, 21, 22, 23, 24, 25, 26, 27] }
def joinsL_t0 : List (Q × Bool) := [((.fit .i64 (.var 5)), true),
  ((.le (.var 5) (.var 0)), false),
  ((.fit .i64 (.bi .add (.var 0) (.int 1))), true)]
def joinsL_d0 : List Duty := [(true, (.fn 8 (.bi .pair (.bi .add (.var 0) (.int 1)) (.bi .pair (.var 5) (.bi .pair (.bi (.iop .mul .u32) (.int 3) (.var 1)) (.int 0))))), (.fn 8 (.bi .pair (.var 0) (.bi .pair (.var 5) (.bi .pair (.var 1) (.int 0))))))]
def joinsL_h0 : List (Nat × E) := [(3, (.var 3)), (2, (.var 2)), (4, (.var 4)), (5, (.var 5)), (6, (.var 6)), (1, (.bi (.iop .mul .u32) (.int 3) (.var 1))), (0, (.bi .add (.var 0) (.int 1)))]
theorem joinsL_h0_0 : lookE joinsL_h0 0 = (.bi .add (.var 0) (.int 1)) := rfl
theorem joinsL_h0_1 : lookE joinsL_h0 1 = (.bi (.iop .mul .u32) (.int 3) (.var 1)) := rfl
theorem joinsL_h0_2 : lookE joinsL_h0 2 = (.var 2) := rfl
theorem joinsL_h0_3 : lookE joinsL_h0 3 = (.var 3) := rfl
theorem joinsL_h0_4 : lookE joinsL_h0 4 = (.var 4) := rfl
theorem joinsL_h0_5 : lookE joinsL_h0 5 = (.var 5) := rfl
theorem joinsL_h0_6 : lookE joinsL_h0 6 = (.var 6) := rfl
theorem joinsL_y0 : nextD joinsL joinsL_h0 [(3, 3)] (roundC Try.prog [⟨14, [4, 1, 0, 1, 1], sumL⟩, ⟨14, [4, 1, 0, 1, 1], sumLO⟩, ⟨15, [4, 1, 0, 1, 1], rsumL⟩, ⟨15, [4, 1, 0, 1, 1], rsumLO⟩, ⟨6, [4, 1, 0, 1, 1, 1, 1], alongL⟩] [(14, sumC), (14, sumCO), (15, rsumC), (15, rsumCO), (11, lentC), (18, keptC), (25, pickC), (19, awakeC)] [] 3000 40 9 [4, 1, 0, 1, 1, 1, 1] (tellA joinsL_t0) joinsL) = some joinsL_d0 := by kernel_rfl
def joinsL_t1 : List (Q × Bool) := [((.fit .i64 (.var 5)), true),
  ((.le (.var 5) (.var 0)), true)]
def joinsL_d1 : List Duty := [(true, (.var 1), (.fn 8 (.bi .pair (.var 0) (.bi .pair (.var 5) (.bi .pair (.var 1) (.int 0))))))]
theorem joinsL_y1 : endD joinsL [(3, 3)] 1000 (roundC Try.prog [⟨14, [4, 1, 0, 1, 1], sumL⟩, ⟨14, [4, 1, 0, 1, 1], sumLO⟩, ⟨15, [4, 1, 0, 1, 1], rsumL⟩, ⟨15, [4, 1, 0, 1, 1], rsumLO⟩, ⟨6, [4, 1, 0, 1, 1, 1, 1], alongL⟩] [(14, sumC), (14, sumCO), (15, rsumC), (15, rsumCO), (11, lentC), (18, keptC), (25, pickC), (19, awakeC)] [] 3000 40 9 [4, 1, 0, 1, 1, 1, 1] (tellA joinsL_t1) joinsL) = some joinsL_d1 := by kernel_rfl
theorem joinsL_holds : LHolds Try.prog (loopAt Try.prog 9 [4, 1, 0, 1, 1, 1, 1]) joinsL F := by
  refine loop_roundsC sound (tableCons sumL_holds (tableCons sumLO_holds (tableCons rsumL_holds (tableCons rsumLO_holds (tableCons alongL_holds (tableNil _ _)))))) (specsCons sumC_holds (specsCons sumCO_holds (specsCons rsumC_holds (specsCons rsumCO_holds (specsCons lentC_holds (specsCons keptC_holds (specsCons pickC_holds (specsCons awakeC_holds (specsNil _ _))))))))) (oversNil _ _) (fuel := 3000) (depth := 40) (by kernel_rfl) (by kernel_rfl) (by kernel_rfl) (fun d => ((d 5).toInt - (d 0).toInt).toNat) fun d hp hR hA => ?_
  have hp := allTold'_iff.2 hp
  simp only [joinsL, allTold', dutiesTold, factsA, factsP, factsR, AV.facts, RW.facts, inK, and_true, Q.holds', E.i, E.s, E.n, D.nat, E.den, BO.den, UO.den, TO.den, D.toInt_int, D.toList_list, D.ints_ofInts, i64min, i64max, u8min, u8max, u16min, u16max, u32min, u32max, u64min, u64max, i32min, i32max, Om.sub, selI, ints_app, ints_cut, ints_upd, ints_rep, ints_splice, len_ints] at hp hR hA
  by_cases h : (d 5).toInt ≤ (d 0).toInt
  · refine ⟨tellA joinsL_t1, tellA_ok (allTold'_iff.1 ?_), .inl ⟨_, _, _, joinsL_y1, dutiesTold_ok ?_⟩⟩
    · simp only [joinsL_t1, allTold', dutiesTold, factsA, factsP, factsR, AV.facts, RW.facts, inK, and_true, Q.holds', E.i, E.s, E.n, D.nat, E.den, BO.den, UO.den, TO.den, D.toInt_int, D.toList_list, D.ints_ofInts, i64min, i64max, u8min, u8max, u16min, u16max, u32min, u32max, u64min, u64max, i32min, i32max, Om.sub, selI, ints_app, ints_cut, ints_upd, ints_rep, ints_splice, len_ints]
      omega
    · simp only [joinsL_d1, F8, allTold', dutiesTold, factsA, factsP, factsR, AV.facts, RW.facts, inK, and_true, Q.holds', E.i, E.s, E.n, D.nat, E.den, BO.den, UO.den, TO.den, D.toInt_int, D.toList_list, D.ints_ofInts, i64min, i64max, u8min, u8max, u16min, u16max, u32min, u32max, u64min, u64max, i32min, i32max, Om.sub, selI, ints_app, ints_cut, ints_upd, ints_rep, ints_splice, len_ints]
      rw [show ((d 5).toInt - (d 0).toInt).toNat = 0 by omega]
      rfl
  · refine ⟨tellA joinsL_t0, tellA_ok (allTold'_iff.1 ?_), .inr ⟨joinsL_h0, _, _, joinsL_y0, dutiesTold_ok ?_, allTold'_iff.1 ?_, ?_⟩⟩
    · simp only [joinsL_t0, allTold', dutiesTold, factsA, factsP, factsR, AV.facts, RW.facts, inK, and_true, Q.holds', E.i, E.s, E.n, D.nat, E.den, BO.den, UO.den, TO.den, D.toInt_int, D.toList_list, D.ints_ofInts, i64min, i64max, u8min, u8max, u16min, u16max, u32min, u32max, u64min, u64max, i32min, i32max, Om.sub, selI, ints_app, ints_cut, ints_upd, ints_rep, ints_splice, len_ints]
      omega
    · simp only [joinsL_d0, F8, allTold', dutiesTold, factsA, factsP, factsR, AV.facts, RW.facts, inK, and_true, Q.holds', E.i, E.s, E.n, D.nat, E.den, BO.den, UO.den, TO.den, D.toInt_int, D.toList_list, D.ints_ofInts, i64min, i64max, u8min, u8max, u16min, u16max, u32min, u32max, u64min, u64max, i32min, i32max, Om.sub, selI, ints_app, ints_cut, ints_upd, ints_rep, ints_splice, len_ints]
      rw [show ((d 5).toInt - (d 0).toInt).toNat = ((d 5).toInt - ((d 0).toInt + 1)).toNat + 1 by omega, mul32]
      rfl
    · simp only [joinsL, joinsL_h0_0, joinsL_h0_1, joinsL_h0_2, joinsL_h0_3, joinsL_h0_4, joinsL_h0_5, joinsL_h0_6, allTold', dutiesTold, factsA, factsP, factsR, AV.facts, RW.facts, inK, and_true, Q.holds', E.i, E.s, E.n, D.nat, E.den, BO.den, UO.den, TO.den, D.toInt_int, D.toList_list, D.ints_ofInts, i64min, i64max, u8min, u8max, u16min, u16max, u32min, u32max, u64min, u64max, i32min, i32max, Om.sub, selI, ints_app, ints_cut, ints_upd, ints_rep, ints_splice, len_ints]
      omega
    · simp only [joinsL_h0_0, joinsL_h0_1, joinsL_h0_2, joinsL_h0_3, joinsL_h0_4, joinsL_h0_5, joinsL_h0_6, allTold', dutiesTold, factsA, factsP, factsR, AV.facts, RW.facts, inK, and_true, Q.holds', E.i, E.s, E.n, D.nat, E.den, BO.den, UO.den, TO.den, D.toInt_int, D.toList_list, D.ints_ofInts, i64min, i64max, u8min, u8max, u16min, u16max, u32min, u32max, u64min, u64max, i32min, i32max, Om.sub, selI, ints_app, ints_cut, ints_upd, ints_rep, ints_splice, len_ints]
      omega

def windL : LSpec := { n := 54, next := 2, pat := [(4, .sint .i64 (.var 0)), (3, .ptr 1 0), (0, .sslice 3 (.var 4) (.var 5) (.var 6) false)], rows := [(1, .cells 37 0 false false [.bool true, .sint .u8 (.bi .sel (.var 7) (.int 0)), .sint .u8 (.bi .sel (.var 7) (.int 1)), .sint .u8 (.bi .sel (.var 7) (.int 2)), .sint .u8 (.bi .sel (.var 7) (.int 3)), .sint .u8 (.bi .sel (.var 7) (.int 4)), .sint .u8 (.bi .sel (.var 7) (.int 5)), .sint .u8 (.bi .sel (.var 7) (.int 6)), .sint .u8 (.bi .sel (.var 7) (.int 7)), .sint .u8 (.bi .sel (.var 7) (.int 8)), .sint .u8 (.bi .sel (.var 7) (.int 9)), .sint .u8 (.bi .sel (.var 7) (.int 10)), .sint .u8 (.bi .sel (.var 7) (.int 11)), .sint .u8 (.bi .sel (.var 7) (.int 12)), .sint .u8 (.bi .sel (.var 7) (.int 13)), .sint .u8 (.bi .sel (.var 7) (.int 14)), .sint .u8 (.bi .sel (.var 7) (.int 15)), .sint .i64 (.var 8), .sint .u32 (.var 9)]), (3, .eseq ⟨.u8, .var 3, .var 2⟩)], pre := [(.le (.int 0) (.var 0), true), (.le (.var 0) (.bi .add (.var 5) (.int 1)), true), (.le (.bi .add (.var 4) (.var 5)) (.var 3), true), (.le (.var 5) (.int 1000), true), (.same (.var 7) (.fn 9 (.bi .pair (.var 2) (.bi .pair (.var 4) (.bi .pair (.var 0) (.int 0))))), true), (.eq (.var 8) (.fn 10 (.bi .pair (.var 0) (.int 0))), true), (.eq (.var 9) (.fn 11 (.bi .pair (.var 2) (.bi .pair (.var 4) (.bi .pair (.var 0) (.int 0))))), true)], x := 0, fin := [], frows := [], same := [], chg := [0, 3, 4, 5, 16, 17, 18, 19, 20, 21, 22, 23, 24, 25, 26, 27, 28, 29, 30, 31, 32, 33, 34, 35, 36, 37, 38, 39, 40, 41, 42, 43, 44, 45, 46, 47, 48, 49, 50, 51, 52] }
def windL_t0 : List (Q × Bool) := [((.fit .i64 (.var 5)), true),
  ((.le (.var 0) (.var 5)), false)]
def windL_d0 : List Duty := []
theorem windL_y0 : endD windL [(3, 3), (1, 1)] 1000 (roundC Try.prog [⟨14, [4, 1, 0, 1, 1], sumL⟩, ⟨14, [4, 1, 0, 1, 1], sumLO⟩, ⟨15, [4, 1, 0, 1, 1], rsumL⟩, ⟨15, [4, 1, 0, 1, 1], rsumLO⟩, ⟨6, [4, 1, 0, 1, 1, 1, 1], alongL⟩, ⟨9, [4, 1, 0, 1, 1, 1, 1], joinsL⟩] [(14, sumC), (14, sumCO), (15, rsumC), (15, rsumCO), (11, lentC), (18, keptC), (25, pickC), (19, awakeC)] [] 3000 40 4 [4, 1, 0, 1, 1, 1] (tellA windL_t0) windL) = some windL_d0 := by kernel_rfl
def windL_t1 : List (Q × Bool) := [((.fit .i64 (.var 5)), true),
  ((.le (.var 0) (.var 5)), true),
  ((.le (.int 0) (.var 0)), true),
  ((.le (.var 0) (.var 6)), true),
  ((.fit .i64 (.var 0)), true),
  ((.le (.var 0) (.int 16)), true),
  ((.le (.bi .add (.var 4) (.var 0)) (.var 3)), true),
  ((.le (.var 0) (.int 1000000)), true),
  ((.le (.var 0) (.int 0)), true),
  ((.eq (.var 9) (.fn 2 (.bi .pair (.var 2) (.bi .pair (.var 4) (.bi .pair (.bi .add (.var 4) (.var 0)) (.int 0)))))), true),
  ((.le (.int 16) (.var 8)), false),
  ((.le (.int 16) (.var 0)), false),
  ((.fit .i64 (.bi .add (.var 0) (.int 1))), true)]
def windL_d1 : List Duty := []
def windL_h1 : List (Nat × E) := [(3, (.var 3)), (2, (.var 2)), (9, (.var 9)), (8, (.var 8)), (7, (.var 7)), (4, (.var 4)), (5, (.var 5)), (6, (.var 6)), (0, (.bi .add (.var 0) (.int 1)))]
theorem windL_h1_0 : lookE windL_h1 0 = (.bi .add (.var 0) (.int 1)) := rfl
theorem windL_h1_2 : lookE windL_h1 2 = (.var 2) := rfl
theorem windL_h1_3 : lookE windL_h1 3 = (.var 3) := rfl
theorem windL_h1_4 : lookE windL_h1 4 = (.var 4) := rfl
theorem windL_h1_5 : lookE windL_h1 5 = (.var 5) := rfl
theorem windL_h1_6 : lookE windL_h1 6 = (.var 6) := rfl
theorem windL_h1_7 : lookE windL_h1 7 = (.var 7) := rfl
theorem windL_h1_8 : lookE windL_h1 8 = (.var 8) := rfl
theorem windL_h1_9 : lookE windL_h1 9 = (.var 9) := rfl
theorem windL_y1 : nextD windL windL_h1 [(3, 3), (1, 1)] (roundC Try.prog [⟨14, [4, 1, 0, 1, 1], sumL⟩, ⟨14, [4, 1, 0, 1, 1], sumLO⟩, ⟨15, [4, 1, 0, 1, 1], rsumL⟩, ⟨15, [4, 1, 0, 1, 1], rsumLO⟩, ⟨6, [4, 1, 0, 1, 1, 1, 1], alongL⟩, ⟨9, [4, 1, 0, 1, 1, 1, 1], joinsL⟩] [(14, sumC), (14, sumCO), (15, rsumC), (15, rsumCO), (11, lentC), (18, keptC), (25, pickC), (19, awakeC)] [] 3000 40 4 [4, 1, 0, 1, 1, 1] (tellA windL_t1) windL) = some windL_d1 := by kernel_rfl
def windL_t2 : List (Q × Bool) := [((.fit .i64 (.var 5)), true),
  ((.le (.var 0) (.var 5)), true),
  ((.le (.int 0) (.var 0)), true),
  ((.le (.var 0) (.var 6)), true),
  ((.fit .i64 (.var 0)), true),
  ((.le (.var 0) (.int 16)), true),
  ((.le (.bi .add (.var 4) (.var 0)) (.var 3)), true),
  ((.le (.var 0) (.int 1000000)), true),
  ((.le (.var 0) (.int 0)), false),
  ((.fit .i64 (.bi .add (.var 0) (.int (-1)))), true),
  ((.le (.int 0) (.bi .add (.var 0) (.int (-1)))), true),
  ((.le (.var 5) (.bi .add (.var 0) (.int (-1)))), false),
  ((.le (.int 0) (.bi .add (.var 4) (.bi .add (.var 0) (.int (-1))))), true),
  ((.le (.var 3) (.bi .add (.var 4) (.bi .add (.var 0) (.int (-1))))), false),
  ((.le (.int 0) (.bi (.iop .rem .i64) (.var 8) (.int 16))), true),
  ((.le (.int 16) (.bi (.iop .rem .i64) (.var 8) (.int 16))), false),
  ((.le (.int 16) (.var 8)), false),
  ((.le (.int 16) (.un .len (.var 7))), true),
  ((.fit .i64 (.bi .add (.var 8) (.int 1))), true),
  ((.eq (.bi (.iop .add .u32) (.bi (.iop .mul .u32) (.int 3) (.var 9)) (.bi (.iop .mul .u32) (.bi (.iop .add .u32) (.bi (.iop .mul .u32) (.int 2) (.bi .sel (.var 2) (.bi .add (.var 4) (.bi .add (.var 0) (.int (-1)))))) (.int 1)) (.int 2654435761))) (.fn 2 (.bi .pair (.var 2) (.bi .pair (.var 4) (.bi .pair (.bi .add (.var 4) (.var 0)) (.int 0)))))), true),
  ((.le (.int 16) (.bi .add (.var 8) (.int 1))), false),
  ((.le (.int 16) (.var 0)), false),
  ((.fit .i64 (.bi .add (.var 0) (.int 1))), true)]
def windL_d2 : List Duty := []
def windL_h2 : List (Nat × E) := [(3, (.var 3)), (2, (.var 2)), (9, (.bi (.iop .add .u32) (.bi (.iop .mul .u32) (.int 3) (.var 9)) (.bi (.iop .mul .u32) (.bi (.iop .add .u32) (.bi (.iop .mul .u32) (.int 2) (.bi .sel (.var 2) (.bi .add (.var 4) (.bi .add (.var 0) (.int (-1)))))) (.int 1)) (.int 2654435761)))), (8, (.bi .add (.var 8) (.int 1))), (7, (.tr .upd (.var 7) (.bi (.iop .rem .i64) (.var 8) (.int 16)) (.bi .sel (.var 2) (.bi .add (.var 4) (.bi .add (.var 0) (.int (-1))))))), (4, (.var 4)), (5, (.var 5)), (6, (.var 6)), (0, (.bi .add (.var 0) (.int 1)))]
theorem windL_h2_0 : lookE windL_h2 0 = (.bi .add (.var 0) (.int 1)) := rfl
theorem windL_h2_2 : lookE windL_h2 2 = (.var 2) := rfl
theorem windL_h2_3 : lookE windL_h2 3 = (.var 3) := rfl
theorem windL_h2_4 : lookE windL_h2 4 = (.var 4) := rfl
theorem windL_h2_5 : lookE windL_h2 5 = (.var 5) := rfl
theorem windL_h2_6 : lookE windL_h2 6 = (.var 6) := rfl
theorem windL_h2_7 : lookE windL_h2 7 = (.tr .upd (.var 7) (.bi (.iop .rem .i64) (.var 8) (.int 16)) (.bi .sel (.var 2) (.bi .add (.var 4) (.bi .add (.var 0) (.int (-1)))))) := rfl
theorem windL_h2_8 : lookE windL_h2 8 = (.bi .add (.var 8) (.int 1)) := rfl
theorem windL_h2_9 : lookE windL_h2 9 = (.bi (.iop .add .u32) (.bi (.iop .mul .u32) (.int 3) (.var 9)) (.bi (.iop .mul .u32) (.bi (.iop .add .u32) (.bi (.iop .mul .u32) (.int 2) (.bi .sel (.var 2) (.bi .add (.var 4) (.bi .add (.var 0) (.int (-1)))))) (.int 1)) (.int 2654435761))) := rfl
theorem windL_y2 : nextD windL windL_h2 [(3, 3), (1, 1)] (roundC Try.prog [⟨14, [4, 1, 0, 1, 1], sumL⟩, ⟨14, [4, 1, 0, 1, 1], sumLO⟩, ⟨15, [4, 1, 0, 1, 1], rsumL⟩, ⟨15, [4, 1, 0, 1, 1], rsumLO⟩, ⟨6, [4, 1, 0, 1, 1, 1, 1], alongL⟩, ⟨9, [4, 1, 0, 1, 1, 1, 1], joinsL⟩] [(14, sumC), (14, sumCO), (15, rsumC), (15, rsumCO), (11, lentC), (18, keptC), (25, pickC), (19, awakeC)] [] 3000 40 4 [4, 1, 0, 1, 1, 1] (tellA windL_t2) windL) = some windL_d2 := by kernel_rfl
def windL_t3 : List (Q × Bool) := [((.fit .i64 (.var 5)), true),
  ((.le (.var 0) (.var 5)), true),
  ((.le (.int 0) (.var 0)), true),
  ((.le (.var 0) (.var 6)), true),
  ((.fit .i64 (.var 0)), true),
  ((.le (.var 0) (.int 16)), true),
  ((.le (.bi .add (.var 4) (.var 0)) (.var 3)), true),
  ((.le (.var 0) (.int 1000000)), true),
  ((.le (.var 0) (.int 0)), false),
  ((.fit .i64 (.bi .add (.var 0) (.int (-1)))), true),
  ((.le (.int 0) (.bi .add (.var 0) (.int (-1)))), true),
  ((.le (.var 5) (.bi .add (.var 0) (.int (-1)))), false),
  ((.le (.int 0) (.bi .add (.var 4) (.bi .add (.var 0) (.int (-1))))), true),
  ((.le (.var 3) (.bi .add (.var 4) (.bi .add (.var 0) (.int (-1))))), false),
  ((.le (.int 0) (.bi (.iop .rem .i64) (.var 8) (.int 16))), true),
  ((.le (.int 16) (.bi (.iop .rem .i64) (.var 8) (.int 16))), false),
  ((.le (.int 16) (.var 8)), false),
  ((.le (.int 16) (.un .len (.var 7))), true),
  ((.fit .i64 (.bi .add (.var 8) (.int 1))), true),
  ((.eq (.bi (.iop .add .u32) (.bi (.iop .mul .u32) (.int 3) (.var 9)) (.bi (.iop .mul .u32) (.bi (.iop .add .u32) (.bi (.iop .mul .u32) (.int 2) (.bi .sel (.var 2) (.bi .add (.var 4) (.bi .add (.var 0) (.int (-1)))))) (.int 1)) (.int 2654435761))) (.fn 2 (.bi .pair (.var 2) (.bi .pair (.var 4) (.bi .pair (.bi .add (.var 4) (.var 0)) (.int 0)))))), true),
  ((.le (.int 16) (.bi .add (.var 8) (.int 1))), true),
  ((.le (.int 16) (.var 0)), true),
  ((.fit .i64 (.bi .add (.var 0) (.int 1))), true)]
def windL_d3 : List Duty := []
def windL_h3 : List (Nat × E) := [(3, (.var 3)), (2, (.var 2)), (9, (.bi (.iop .add .u32) (.bi (.iop .mul .u32) (.int 3) (.var 9)) (.bi (.iop .mul .u32) (.bi (.iop .add .u32) (.bi (.iop .mul .u32) (.int 2) (.bi .sel (.var 2) (.bi .add (.var 4) (.bi .add (.var 0) (.int (-1)))))) (.int 1)) (.int 2654435761)))), (8, (.bi .add (.var 8) (.int 1))), (7, (.tr .upd (.var 7) (.bi (.iop .rem .i64) (.var 8) (.int 16)) (.bi .sel (.var 2) (.bi .add (.var 4) (.bi .add (.var 0) (.int (-1))))))), (4, (.var 4)), (5, (.var 5)), (6, (.var 6)), (0, (.bi .add (.var 0) (.int 1)))]
theorem windL_h3_0 : lookE windL_h3 0 = (.bi .add (.var 0) (.int 1)) := rfl
theorem windL_h3_2 : lookE windL_h3 2 = (.var 2) := rfl
theorem windL_h3_3 : lookE windL_h3 3 = (.var 3) := rfl
theorem windL_h3_4 : lookE windL_h3 4 = (.var 4) := rfl
theorem windL_h3_5 : lookE windL_h3 5 = (.var 5) := rfl
theorem windL_h3_6 : lookE windL_h3 6 = (.var 6) := rfl
theorem windL_h3_7 : lookE windL_h3 7 = (.tr .upd (.var 7) (.bi (.iop .rem .i64) (.var 8) (.int 16)) (.bi .sel (.var 2) (.bi .add (.var 4) (.bi .add (.var 0) (.int (-1)))))) := rfl
theorem windL_h3_8 : lookE windL_h3 8 = (.bi .add (.var 8) (.int 1)) := rfl
theorem windL_h3_9 : lookE windL_h3 9 = (.bi (.iop .add .u32) (.bi (.iop .mul .u32) (.int 3) (.var 9)) (.bi (.iop .mul .u32) (.bi (.iop .add .u32) (.bi (.iop .mul .u32) (.int 2) (.bi .sel (.var 2) (.bi .add (.var 4) (.bi .add (.var 0) (.int (-1)))))) (.int 1)) (.int 2654435761))) := rfl
theorem windL_y3 : nextD windL windL_h3 [(3, 3), (1, 1)] (roundC Try.prog [⟨14, [4, 1, 0, 1, 1], sumL⟩, ⟨14, [4, 1, 0, 1, 1], sumLO⟩, ⟨15, [4, 1, 0, 1, 1], rsumL⟩, ⟨15, [4, 1, 0, 1, 1], rsumLO⟩, ⟨6, [4, 1, 0, 1, 1, 1, 1], alongL⟩, ⟨9, [4, 1, 0, 1, 1, 1, 1], joinsL⟩] [(14, sumC), (14, sumCO), (15, rsumC), (15, rsumCO), (11, lentC), (18, keptC), (25, pickC), (19, awakeC)] [] 3000 40 4 [4, 1, 0, 1, 1, 1] (tellA windL_t3) windL) = some windL_d3 := by kernel_rfl
def windL_t4 : List (Q × Bool) := [((.fit .i64 (.var 5)), true),
  ((.le (.var 0) (.var 5)), true),
  ((.le (.int 0) (.var 0)), true),
  ((.le (.var 0) (.var 6)), true),
  ((.fit .i64 (.var 0)), true),
  ((.le (.var 0) (.int 16)), false),
  ((.fit .i64 (.bi .add (.var 0) (.int (-16)))), true),
  ((.le (.int 0) (.bi .add (.var 0) (.int (-16)))), true),
  ((.le (.bi .add (.var 0) (.int (-16))) (.var 0)), true),
  ((.le (.bi .add (.bi .add (.var 4) (.bi .add (.var 0) (.int (-16)))) (.bi .sub (.var 0) (.bi .add (.var 0) (.int (-16))))) (.var 3)), true),
  ((.le (.bi .sub (.var 0) (.bi .add (.var 0) (.int (-16)))) (.int 1000000)), true),
  ((.le (.var 0) (.int 0)), false),
  ((.fit .i64 (.bi .add (.var 0) (.int (-1)))), true),
  ((.le (.int 0) (.bi .add (.var 0) (.int (-1)))), true),
  ((.le (.var 5) (.bi .add (.var 0) (.int (-1)))), false),
  ((.le (.int 0) (.bi .add (.var 4) (.bi .add (.var 0) (.int (-1))))), true),
  ((.le (.var 3) (.bi .add (.var 4) (.bi .add (.var 0) (.int (-1))))), false),
  ((.le (.int 0) (.bi (.iop .rem .i64) (.var 8) (.int 16))), true),
  ((.le (.int 16) (.bi (.iop .rem .i64) (.var 8) (.int 16))), false),
  ((.le (.int 16) (.var 8)), true),
  ((.le (.int 16) (.un .len (.var 7))), true),
  ((.fit .i64 (.bi .add (.var 8) (.int 1))), true),
  ((.eq (.bi (.iop .add .u32) (.bi (.iop .mul .u32) (.int 3) (.bi (.iop .sub .u32) (.var 9) (.bi (.iop .mul .u32) (.bi (.iop .mul .u32) (.bi (.iop .add .u32) (.bi (.iop .mul .u32) (.int 2) (.bi .sel (.var 7) (.bi (.iop .rem .i64) (.var 8) (.int 16)))) (.int 1)) (.int 2654435761)) (.int 14348907)))) (.bi (.iop .mul .u32) (.bi (.iop .add .u32) (.bi (.iop .mul .u32) (.int 2) (.bi .sel (.var 2) (.bi .add (.var 4) (.bi .add (.var 0) (.int (-1)))))) (.int 1)) (.int 2654435761))) (.fn 2 (.bi .pair (.var 2) (.bi .pair (.bi .add (.var 4) (.bi .add (.var 0) (.int (-16)))) (.bi .pair (.bi .add (.bi .add (.var 4) (.bi .add (.var 0) (.int (-16)))) (.bi .sub (.var 0) (.bi .add (.var 0) (.int (-16))))) (.int 0)))))), true),
  ((.le (.int 16) (.bi .add (.var 8) (.int 1))), true),
  ((.le (.int 16) (.var 0)), true),
  ((.fit .i64 (.bi .add (.var 0) (.int 1))), true)]
def windL_d4 : List Duty := []
def windL_h4 : List (Nat × E) := [(3, (.var 3)), (2, (.var 2)), (9, (.bi (.iop .add .u32) (.bi (.iop .mul .u32) (.int 3) (.bi (.iop .sub .u32) (.var 9) (.bi (.iop .mul .u32) (.bi (.iop .mul .u32) (.bi (.iop .add .u32) (.bi (.iop .mul .u32) (.int 2) (.bi .sel (.var 7) (.bi (.iop .rem .i64) (.var 8) (.int 16)))) (.int 1)) (.int 2654435761)) (.int 14348907)))) (.bi (.iop .mul .u32) (.bi (.iop .add .u32) (.bi (.iop .mul .u32) (.int 2) (.bi .sel (.var 2) (.bi .add (.var 4) (.bi .add (.var 0) (.int (-1)))))) (.int 1)) (.int 2654435761)))), (8, (.bi .add (.var 8) (.int 1))), (7, (.tr .upd (.var 7) (.bi (.iop .rem .i64) (.var 8) (.int 16)) (.bi .sel (.var 2) (.bi .add (.var 4) (.bi .add (.var 0) (.int (-1))))))), (4, (.var 4)), (5, (.var 5)), (6, (.var 6)), (0, (.bi .add (.var 0) (.int 1)))]
theorem windL_h4_0 : lookE windL_h4 0 = (.bi .add (.var 0) (.int 1)) := rfl
theorem windL_h4_2 : lookE windL_h4 2 = (.var 2) := rfl
theorem windL_h4_3 : lookE windL_h4 3 = (.var 3) := rfl
theorem windL_h4_4 : lookE windL_h4 4 = (.var 4) := rfl
theorem windL_h4_5 : lookE windL_h4 5 = (.var 5) := rfl
theorem windL_h4_6 : lookE windL_h4 6 = (.var 6) := rfl
theorem windL_h4_7 : lookE windL_h4 7 = (.tr .upd (.var 7) (.bi (.iop .rem .i64) (.var 8) (.int 16)) (.bi .sel (.var 2) (.bi .add (.var 4) (.bi .add (.var 0) (.int (-1)))))) := rfl
theorem windL_h4_8 : lookE windL_h4 8 = (.bi .add (.var 8) (.int 1)) := rfl
theorem windL_h4_9 : lookE windL_h4 9 = (.bi (.iop .add .u32) (.bi (.iop .mul .u32) (.int 3) (.bi (.iop .sub .u32) (.var 9) (.bi (.iop .mul .u32) (.bi (.iop .mul .u32) (.bi (.iop .add .u32) (.bi (.iop .mul .u32) (.int 2) (.bi .sel (.var 7) (.bi (.iop .rem .i64) (.var 8) (.int 16)))) (.int 1)) (.int 2654435761)) (.int 14348907)))) (.bi (.iop .mul .u32) (.bi (.iop .add .u32) (.bi (.iop .mul .u32) (.int 2) (.bi .sel (.var 2) (.bi .add (.var 4) (.bi .add (.var 0) (.int (-1)))))) (.int 1)) (.int 2654435761))) := rfl
theorem windL_y4 : nextD windL windL_h4 [(3, 3), (1, 1)] (roundC Try.prog [⟨14, [4, 1, 0, 1, 1], sumL⟩, ⟨14, [4, 1, 0, 1, 1], sumLO⟩, ⟨15, [4, 1, 0, 1, 1], rsumL⟩, ⟨15, [4, 1, 0, 1, 1], rsumLO⟩, ⟨6, [4, 1, 0, 1, 1, 1, 1], alongL⟩, ⟨9, [4, 1, 0, 1, 1, 1, 1], joinsL⟩] [(14, sumC), (14, sumCO), (15, rsumC), (15, rsumCO), (11, lentC), (18, keptC), (25, pickC), (19, awakeC)] [] 3000 40 4 [4, 1, 0, 1, 1, 1] (tellA windL_t4) windL) = some windL_d4 := by kernel_rfl
theorem windL_holds : LHolds Try.prog (loopAt Try.prog 4 [4, 1, 0, 1, 1, 1]) windL F := by
  refine loop_roundsC sound (tableCons sumL_holds (tableCons sumLO_holds (tableCons rsumL_holds (tableCons rsumLO_holds (tableCons alongL_holds (tableCons joinsL_holds (tableNil _ _))))))) (specsCons sumC_holds (specsCons sumCO_holds (specsCons rsumC_holds (specsCons rsumCO_holds (specsCons lentC_holds (specsCons keptC_holds (specsCons pickC_holds (specsCons awakeC_holds (specsNil _ _))))))))) (oversNil _ _) (fuel := 3000) (depth := 40) (by kernel_rfl) (by kernel_rfl) (by kernel_rfl) (fun d => ((d 5).toInt + 1 - (d 0).toInt).toNat) fun d hp hR hA => ?_
  have hp := allTold'_iff.2 hp
  simp only [windL, allTold', dutiesTold, factsA, factsP, factsR, AV.facts, RW.facts, inK, and_true, Q.holds', E.i, E.s, E.n, D.nat, E.den, BO.den, UO.den, TO.den, D.toInt_int, D.toList_list, D.ints_ofInts, i64min, i64max, u8min, u8max, u16min, u16max, u32min, u32max, u64min, u64max, i32min, i32max, Om.sub, selI, ints_app, ints_cut, ints_upd, ints_rep, ints_splice, len_ints] at hp hR hA
  simp only [F9, F10, F11, D.toInt_int, D.ints_ofInts] at hp
  obtain ⟨p1, p2, p3, p4, p5, p6, p7⟩ := hp
  have hx : (d 4).toInt + (d 5).toInt ≤ ((d 2).ints.length : Nat) := by omega
  have el : ((d 7).ints.length : Nat) = 16 := by rw [p5, ring_len]
  have er : iopI .rem .i64 (d 8).toInt 16 = (((d 0).toInt - 1).toNat : Int) % 16 := by rw [p6, rem_emod _ (by omega)]
  have e1 : ((d 0).toInt + 1 - 1).toNat = if (d 0).toInt ≤ 0 then ((d 0).toInt - 1).toNat else ((d 0).toInt - 1).toNat + 1 := by split <;> omega
  by_cases h : (d 5).toInt < (d 0).toInt
  · refine ⟨tellA windL_t0, tellA_ok (allTold'_iff.1 ?_), .inl ⟨_, _, _, windL_y0, dutiesTold_ok ?_⟩⟩
    · simp only [windL_t0, allTold', dutiesTold, factsA, factsP, factsR, AV.facts, RW.facts, inK, and_true, Q.holds', E.i, E.s, E.n, D.nat, E.den, BO.den, UO.den, TO.den, D.toInt_int, D.toList_list, D.ints_ofInts, i64min, i64max, u8min, u8max, u16min, u16max, u32min, u32max, u64min, u64max, i32min, i32max, Om.sub, selI, ints_app, ints_cut, ints_upd, ints_rep, ints_splice, len_ints]
      omega
    · simp only [windL_d0, allTold', dutiesTold, factsA, factsP, factsR, AV.facts, RW.facts, inK, and_true, Q.holds', E.i, E.s, E.n, D.nat, E.den, BO.den, UO.den, TO.den, D.toInt_int, D.toList_list, D.ints_ofInts, i64min, i64max, u8min, u8max, u16min, u16max, u32min, u32max, u64min, u64max, i32min, i32max, Om.sub, selI, ints_app, ints_cut, ints_upd, ints_rep, ints_splice, len_ints]
  · by_cases h0 : (d 0).toInt ≤ 0
    · have ez : (d 0).toInt = 0 := by omega
      have key : winI (d 2).ints (d 4).toInt 0 = 0 := by
        unfold winI
        rw [if_pos (by omega), prt_nil (by omega) (by omega)]; rfl
      have k2 : sumN 0 (prt (d 2).ints (d 4).toInt ((d 4).toInt + 0)) = 0 := by rw [prt_nil (by omega) (by omega)]; rfl
      rw [ez] at p5 p6 p7
      simp only [show ((0 : Int) - 1).toNat = 0 from rfl, Int.natCast_zero] at p5 p6 p7
      rw [key] at p7
      refine ⟨tellA windL_t1, tellA_ok (allTold'_iff.1 ?_), .inr ⟨windL_h1, _, _, windL_y1, dutiesTold_ok ?_, allTold'_iff.1 ?_, ?_⟩⟩
      · simp only [windL_t1, F2, allTold', dutiesTold, factsA, factsP, factsR, AV.facts, RW.facts, inK, and_true, Q.holds', E.i, E.s, E.n, D.nat, E.den, BO.den, UO.den, TO.den, D.toInt_int, D.toList_list, D.ints_ofInts, i64min, i64max, u8min, u8max, u16min, u16max, u32min, u32max, u64min, u64max, i32min, i32max, Om.sub, selI, ints_app, ints_cut, ints_upd, ints_rep, ints_splice, len_ints]
        rw [ez, k2]
        omega
      · simp only [windL_d1, allTold', dutiesTold, factsA, factsP, factsR, AV.facts, RW.facts, inK, and_true, Q.holds', E.i, E.s, E.n, D.nat, E.den, BO.den, UO.den, TO.den, D.toInt_int, D.toList_list, D.ints_ofInts, i64min, i64max, u8min, u8max, u16min, u16max, u32min, u32max, u64min, u64max, i32min, i32max, Om.sub, selI, ints_app, ints_cut, ints_upd, ints_rep, ints_splice, len_ints]
        try trivial
      · simp only [windL, windL_h1_0, windL_h1_2, windL_h1_3, windL_h1_4, windL_h1_5, windL_h1_6, windL_h1_7, windL_h1_8, windL_h1_9, F9, F10, F11, allTold', dutiesTold, factsA, factsP, factsR, AV.facts, RW.facts, inK, and_true, Q.holds', E.i, E.s, E.n, D.nat, E.den, BO.den, UO.den, TO.den, D.toInt_int, D.toList_list, D.ints_ofInts, i64min, i64max, u8min, u8max, u16min, u16max, u32min, u32max, u64min, u64max, i32min, i32max, Om.sub, selI, ints_app, ints_cut, ints_upd, ints_rep, ints_splice, len_ints]
        rw [ez, p5, p6, p7]
        exact ⟨by omega, by omega, p3, p4, rfl, rfl, key.symm⟩
      · simp only [windL_h1_0, windL_h1_2, windL_h1_3, windL_h1_4, windL_h1_5, windL_h1_6, windL_h1_7, windL_h1_8, windL_h1_9, allTold', dutiesTold, factsA, factsP, factsR, AV.facts, RW.facts, inK, and_true, Q.holds', E.i, E.s, E.n, D.nat, E.den, BO.den, UO.den, TO.den, D.toInt_int, D.toList_list, D.ints_ofInts, i64min, i64max, u8min, u8max, u16min, u16max, u32min, u32max, u64min, u64max, i32min, i32max, Om.sub, selI, ints_app, ints_cut, ints_upd, ints_rep, ints_splice, len_ints]
        omega
    · by_cases h16 : (d 0).toInt ≤ 16
      · have key := win_push (x := (d 2).ints) (o := (d 4).toInt) (i := (d 0).toInt) (by omega) (by omega) h16 (by omega)
        rw [← p7] at key
        unfold stepI wI at key
        rw [show (d 0).toInt - 1 = (d 0).toInt + -1 by omega] at key
        have kw : winI (d 2).ints (d 4).toInt ((((d 0).toInt + 1 - 1).toNat : Nat) : Int) = sumN 0 (prt (d 2).ints (d 4).toInt ((d 4).toInt + (d 0).toInt)) := by
          unfold winI
          rw [if_pos (by omega), show ((((d 0).toInt + 1 - 1).toNat : Nat) : Int) = (d 0).toInt by omega]
        have kr : ringN (d 2).ints (d 4).toInt ((d 0).toInt + 1 - 1).toNat = (ringN (d 2).ints (d 4).toInt ((d 0).toInt - 1).toNat).set ((((d 0).toInt - 1).toNat : Int) % 16).toNat (((d 2).ints[((d 4).toInt + ((d 0).toInt + -1)).toNat]?).getD 0) := by
          rw [e1, if_neg h0]
          simp only [ringN]
          rw [show ((d 0).toInt - 1).toNat % 16 = ((((d 0).toInt - 1).toNat : Int) % 16).toNat by omega, show (d 4).toInt + (((d 0).toInt - 1).toNat : Int) = (d 4).toInt + ((d 0).toInt + -1) by omega]
        by_cases e : (d 0).toInt = 16
        · refine ⟨tellA windL_t3, tellA_ok (allTold'_iff.1 ?_), .inr ⟨windL_h3, _, _, windL_y3, dutiesTold_ok ?_, allTold'_iff.1 ?_, ?_⟩⟩
          · simp only [windL_t3, F2, allTold', dutiesTold, factsA, factsP, factsR, AV.facts, RW.facts, inK, and_true, Q.holds', E.i, E.s, E.n, D.nat, E.den, BO.den, UO.den, TO.den, D.toInt_int, D.toList_list, D.ints_ofInts, i64min, i64max, u8min, u8max, u16min, u16max, u32min, u32max, u64min, u64max, i32min, i32max, Om.sub, selI, ints_app, ints_cut, ints_upd, ints_rep, ints_splice, len_ints]
            rw [er, key]
            omega
          · simp only [windL_d3, allTold', dutiesTold, factsA, factsP, factsR, AV.facts, RW.facts, inK, and_true, Q.holds', E.i, E.s, E.n, D.nat, E.den, BO.den, UO.den, TO.den, D.toInt_int, D.toList_list, D.ints_ofInts, i64min, i64max, u8min, u8max, u16min, u16max, u32min, u32max, u64min, u64max, i32min, i32max, Om.sub, selI, ints_app, ints_cut, ints_upd, ints_rep, ints_splice, len_ints]
            try trivial
          · simp only [windL, windL_h3_0, windL_h3_2, windL_h3_3, windL_h3_4, windL_h3_5, windL_h3_6, windL_h3_7, windL_h3_8, windL_h3_9, F9, F10, F11, allTold', dutiesTold, factsA, factsP, factsR, AV.facts, RW.facts, inK, and_true, Q.holds', E.i, E.s, E.n, D.nat, E.den, BO.den, UO.den, TO.den, D.toInt_int, D.toList_list, D.ints_ofInts, i64min, i64max, u8min, u8max, u16min, u16max, u32min, u32max, u64min, u64max, i32min, i32max, Om.sub, selI, ints_app, ints_cut, ints_upd, ints_rep, ints_splice, len_ints]
            rw [er, key, kw, kr, p5]
            and_intros <;> first | rfl | omega
          · simp only [windL_h3_0, windL_h3_2, windL_h3_3, windL_h3_4, windL_h3_5, windL_h3_6, windL_h3_7, windL_h3_8, windL_h3_9, allTold', dutiesTold, factsA, factsP, factsR, AV.facts, RW.facts, inK, and_true, Q.holds', E.i, E.s, E.n, D.nat, E.den, BO.den, UO.den, TO.den, D.toInt_int, D.toList_list, D.ints_ofInts, i64min, i64max, u8min, u8max, u16min, u16max, u32min, u32max, u64min, u64max, i32min, i32max, Om.sub, selI, ints_app, ints_cut, ints_upd, ints_rep, ints_splice, len_ints]
            omega
        · refine ⟨tellA windL_t2, tellA_ok (allTold'_iff.1 ?_), .inr ⟨windL_h2, _, _, windL_y2, dutiesTold_ok ?_, allTold'_iff.1 ?_, ?_⟩⟩
          · simp only [windL_t2, F2, allTold', dutiesTold, factsA, factsP, factsR, AV.facts, RW.facts, inK, and_true, Q.holds', E.i, E.s, E.n, D.nat, E.den, BO.den, UO.den, TO.den, D.toInt_int, D.toList_list, D.ints_ofInts, i64min, i64max, u8min, u8max, u16min, u16max, u32min, u32max, u64min, u64max, i32min, i32max, Om.sub, selI, ints_app, ints_cut, ints_upd, ints_rep, ints_splice, len_ints]
            rw [er, key]
            omega
          · simp only [windL_d2, allTold', dutiesTold, factsA, factsP, factsR, AV.facts, RW.facts, inK, and_true, Q.holds', E.i, E.s, E.n, D.nat, E.den, BO.den, UO.den, TO.den, D.toInt_int, D.toList_list, D.ints_ofInts, i64min, i64max, u8min, u8max, u16min, u16max, u32min, u32max, u64min, u64max, i32min, i32max, Om.sub, selI, ints_app, ints_cut, ints_upd, ints_rep, ints_splice, len_ints]
            try trivial
          · simp only [windL, windL_h2_0, windL_h2_2, windL_h2_3, windL_h2_4, windL_h2_5, windL_h2_6, windL_h2_7, windL_h2_8, windL_h2_9, F9, F10, F11, allTold', dutiesTold, factsA, factsP, factsR, AV.facts, RW.facts, inK, and_true, Q.holds', E.i, E.s, E.n, D.nat, E.den, BO.den, UO.den, TO.den, D.toInt_int, D.toList_list, D.ints_ofInts, i64min, i64max, u8min, u8max, u16min, u16max, u32min, u32max, u64min, u64max, i32min, i32max, Om.sub, selI, ints_app, ints_cut, ints_upd, ints_rep, ints_splice, len_ints]
            rw [er, key, kw, kr, p5]
            and_intros <;> first | rfl | omega
          · simp only [windL_h2_0, windL_h2_2, windL_h2_3, windL_h2_4, windL_h2_5, windL_h2_6, windL_h2_7, windL_h2_8, windL_h2_9, allTold', dutiesTold, factsA, factsP, factsR, AV.facts, RW.facts, inK, and_true, Q.holds', E.i, E.s, E.n, D.nat, E.den, BO.den, UO.den, TO.den, D.toInt_int, D.toList_list, D.ints_ofInts, i64min, i64max, u8min, u8max, u16min, u16max, u32min, u32max, u64min, u64max, i32min, i32max, Om.sub, selI, ints_app, ints_cut, ints_upd, ints_rep, ints_splice, len_ints]
            omega
      · have key := win_roll (x := (d 2).ints) (o := (d 4).toInt) (i := (d 0).toInt) (by omega) (by omega) (by omega)
        rw [← p7, ← p5] at key
        unfold rollI wI at key
        rw [show (d 0).toInt - 1 = (d 0).toInt + -1 by omega, show (d 0).toInt - 16 = (d 0).toInt + -16 by omega] at key
        have er' : iopI .rem .i64 (d 8).toInt 16 = ((d 0).toInt + -1) % 16 := by rw [er]; omega
        have kw : winI (d 2).ints (d 4).toInt ((((d 0).toInt + 1 - 1).toNat : Nat) : Int) = sumN 0 (prt (d 2).ints ((d 4).toInt + ((d 0).toInt + -16)) ((d 4).toInt + (d 0).toInt)) := by
          unfold winI
          rw [if_neg (by omega), show ((((d 0).toInt + 1 - 1).toNat : Nat) : Int) = (d 0).toInt by omega, show (d 4).toInt + (d 0).toInt - 16 = (d 4).toInt + ((d 0).toInt + -16) by omega]
        have kr : ringN (d 2).ints (d 4).toInt ((d 0).toInt + 1 - 1).toNat = (ringN (d 2).ints (d 4).toInt ((d 0).toInt - 1).toNat).set (((d 0).toInt + -1) % 16).toNat (((d 2).ints[((d 4).toInt + ((d 0).toInt + -1)).toNat]?).getD 0) := by
          rw [e1, if_neg h0]
          simp only [ringN]
          rw [show ((d 0).toInt - 1).toNat % 16 = (((d 0).toInt + -1) % 16).toNat by omega, show (d 4).toInt + (((d 0).toInt - 1).toNat : Int) = (d 4).toInt + ((d 0).toInt + -1) by omega]
        have e5 : (d 4).toInt + ((d 0).toInt + -16) + ((d 0).toInt - ((d 0).toInt + -16)) = (d 4).toInt + (d 0).toInt := by omega
        refine ⟨tellA windL_t4, tellA_ok (allTold'_iff.1 ?_), .inr ⟨windL_h4, _, _, windL_y4, dutiesTold_ok ?_, allTold'_iff.1 ?_, ?_⟩⟩
        · simp only [windL_t4, F2, allTold', dutiesTold, factsA, factsP, factsR, AV.facts, RW.facts, inK, and_true, Q.holds', E.i, E.s, E.n, D.nat, E.den, BO.den, UO.den, TO.den, D.toInt_int, D.toList_list, D.ints_ofInts, i64min, i64max, u8min, u8max, u16min, u16max, u32min, u32max, u64min, u64max, i32min, i32max, Om.sub, selI, ints_app, ints_cut, ints_upd, ints_rep, ints_splice, len_ints]
          rw [er', e5, key]
          omega
        · simp only [windL_d4, allTold', dutiesTold, factsA, factsP, factsR, AV.facts, RW.facts, inK, and_true, Q.holds', E.i, E.s, E.n, D.nat, E.den, BO.den, UO.den, TO.den, D.toInt_int, D.toList_list, D.ints_ofInts, i64min, i64max, u8min, u8max, u16min, u16max, u32min, u32max, u64min, u64max, i32min, i32max, Om.sub, selI, ints_app, ints_cut, ints_upd, ints_rep, ints_splice, len_ints]
          try trivial
        · simp only [windL, windL_h4_0, windL_h4_2, windL_h4_3, windL_h4_4, windL_h4_5, windL_h4_6, windL_h4_7, windL_h4_8, windL_h4_9, F9, F10, F11, allTold', dutiesTold, factsA, factsP, factsR, AV.facts, RW.facts, inK, and_true, Q.holds', E.i, E.s, E.n, D.nat, E.den, BO.den, UO.den, TO.den, D.toInt_int, D.toList_list, D.ints_ofInts, i64min, i64max, u8min, u8max, u16min, u16max, u32min, u32max, u64min, u64max, i32min, i32max, Om.sub, selI, ints_app, ints_cut, ints_upd, ints_rep, ints_splice, len_ints]
          rw [er', key, kw, kr, p5]
          and_intros <;> first | rfl | omega
        · simp only [windL_h4_0, windL_h4_2, windL_h4_3, windL_h4_4, windL_h4_5, windL_h4_6, windL_h4_7, windL_h4_8, windL_h4_9, allTold', dutiesTold, factsA, factsP, factsR, AV.facts, RW.facts, inK, and_true, Q.holds', E.i, E.s, E.n, D.nat, E.den, BO.den, UO.den, TO.den, D.toInt_int, D.toList_list, D.ints_ofInts, i64min, i64max, u8min, u8max, u16min, u16max, u32min, u32max, u64min, u64max, i32min, i32max, Om.sub, selI, ints_app, ints_cut, ints_upd, ints_rep, ints_splice, len_ints]
          omega

def pushC : CSpec := { args := [.ptr 1 0, .sint .u8 (.var 0)], next := 1, rows := [(1, .cells 37 0 false false [.bool true, .sint .u8 (.bi .sel (.var 7) (.int 0)), .sint .u8 (.bi .sel (.var 7) (.int 1)), .sint .u8 (.bi .sel (.var 7) (.int 2)), .sint .u8 (.bi .sel (.var 7) (.int 3)), .sint .u8 (.bi .sel (.var 7) (.int 4)), .sint .u8 (.bi .sel (.var 7) (.int 5)), .sint .u8 (.bi .sel (.var 7) (.int 6)), .sint .u8 (.bi .sel (.var 7) (.int 7)), .sint .u8 (.bi .sel (.var 7) (.int 8)), .sint .u8 (.bi .sel (.var 7) (.int 9)), .sint .u8 (.bi .sel (.var 7) (.int 10)), .sint .u8 (.bi .sel (.var 7) (.int 11)), .sint .u8 (.bi .sel (.var 7) (.int 12)), .sint .u8 (.bi .sel (.var 7) (.int 13)), .sint .u8 (.bi .sel (.var 7) (.int 14)), .sint .u8 (.bi .sel (.var 7) (.int 15)), .sint .i64 (.var 8), .sint .u32 (.var 9)])], pre := [(.le (.int 16) (.un .len (.var 7)), true), (.le (.int 0) (.var 8), true), (.le (.var 8) (.int 1000000), true)], res := .sint .u32 (.fn 15 (argsE [.var 9, .var 8, .var 7, .var 0])), frows := [(1, .cells 37 0 false false [.bool true, .sint .u8 (.bi .sel (.tr .upd (.var 7) (.bi (.iop .rem .i64) (.var 8) (.int 16)) (.var 0)) (.int 0)), .sint .u8 (.bi .sel (.tr .upd (.var 7) (.bi (.iop .rem .i64) (.var 8) (.int 16)) (.var 0)) (.int 1)), .sint .u8 (.bi .sel (.tr .upd (.var 7) (.bi (.iop .rem .i64) (.var 8) (.int 16)) (.var 0)) (.int 2)), .sint .u8 (.bi .sel (.tr .upd (.var 7) (.bi (.iop .rem .i64) (.var 8) (.int 16)) (.var 0)) (.int 3)), .sint .u8 (.bi .sel (.tr .upd (.var 7) (.bi (.iop .rem .i64) (.var 8) (.int 16)) (.var 0)) (.int 4)), .sint .u8 (.bi .sel (.tr .upd (.var 7) (.bi (.iop .rem .i64) (.var 8) (.int 16)) (.var 0)) (.int 5)), .sint .u8 (.bi .sel (.tr .upd (.var 7) (.bi (.iop .rem .i64) (.var 8) (.int 16)) (.var 0)) (.int 6)), .sint .u8 (.bi .sel (.tr .upd (.var 7) (.bi (.iop .rem .i64) (.var 8) (.int 16)) (.var 0)) (.int 7)), .sint .u8 (.bi .sel (.tr .upd (.var 7) (.bi (.iop .rem .i64) (.var 8) (.int 16)) (.var 0)) (.int 8)), .sint .u8 (.bi .sel (.tr .upd (.var 7) (.bi (.iop .rem .i64) (.var 8) (.int 16)) (.var 0)) (.int 9)), .sint .u8 (.bi .sel (.tr .upd (.var 7) (.bi (.iop .rem .i64) (.var 8) (.int 16)) (.var 0)) (.int 10)), .sint .u8 (.bi .sel (.tr .upd (.var 7) (.bi (.iop .rem .i64) (.var 8) (.int 16)) (.var 0)) (.int 11)), .sint .u8 (.bi .sel (.tr .upd (.var 7) (.bi (.iop .rem .i64) (.var 8) (.int 16)) (.var 0)) (.int 12)), .sint .u8 (.bi .sel (.tr .upd (.var 7) (.bi (.iop .rem .i64) (.var 8) (.int 16)) (.var 0)) (.int 13)), .sint .u8 (.bi .sel (.tr .upd (.var 7) (.bi (.iop .rem .i64) (.var 8) (.int 16)) (.var 0)) (.int 14)), .sint .u8 (.bi .sel (.tr .upd (.var 7) (.bi (.iop .rem .i64) (.var 8) (.int 16)) (.var 0)) (.int 15)), .sint .i64 (.bi .add (.var 8) (.int 1)), .sint .u32 (.fn 15 (argsE [.var 9, .var 8, .var 7, .var 0]))])], same := [1] }
def pushC_t0 : List (Q × Bool) := [((.le (.int 0) (.bi (.iop .rem .i64) (.var 8) (.int 16))), true),
  ((.le (.int 16) (.bi (.iop .rem .i64) (.var 8) (.int 16))), false),
  ((.le (.int 16) (.var 8)), false),
  ((.le (.int 16) (.un .len (.var 7))), true),
  ((.fit .i64 (.bi .add (.var 8) (.int 1))), true)]
def pushC_d0 : List Duty := [(true, (.bi (.iop .add .u32) (.bi (.iop .mul .u32) (.int 3) (.var 9)) (.bi (.iop .mul .u32) (.bi (.iop .add .u32) (.bi (.iop .mul .u32) (.int 2) (.var 0)) (.int 1)) (.int 2654435761))), (.fn 15 (.bi .pair (.var 9) (.bi .pair (.var 8) (.bi .pair (.var 7) (.bi .pair (.var 0) (.int 0))))))), (true, (.bi (.iop .add .u32) (.bi (.iop .mul .u32) (.int 3) (.var 9)) (.bi (.iop .mul .u32) (.bi (.iop .add .u32) (.bi (.iop .mul .u32) (.int 2) (.var 0)) (.int 1)) (.int 2654435761))), (.fn 15 (.bi .pair (.var 9) (.bi .pair (.var 8) (.bi .pair (.var 7) (.bi .pair (.var 0) (.int 0)))))))]
theorem pushC_y0 : endC pushC [(1, 1)] 1000 (callC Try.prog (tellA pushC_t0) [] [] [] 3000 40 22 pushC) = some pushC_d0 := by kernel_rfl
def pushC_t1 : List (Q × Bool) := [((.le (.int 0) (.bi (.iop .rem .i64) (.var 8) (.int 16))), true),
  ((.le (.int 16) (.bi (.iop .rem .i64) (.var 8) (.int 16))), false),
  ((.le (.int 16) (.var 8)), true),
  ((.le (.int 16) (.un .len (.var 7))), true),
  ((.fit .i64 (.bi .add (.var 8) (.int 1))), true)]
def pushC_d1 : List Duty := [(true, (.bi (.iop .add .u32) (.bi (.iop .mul .u32) (.int 3) (.bi (.iop .sub .u32) (.var 9) (.bi (.iop .mul .u32) (.bi (.iop .mul .u32) (.bi (.iop .add .u32) (.bi (.iop .mul .u32) (.int 2) (.bi .sel (.var 7) (.bi (.iop .rem .i64) (.var 8) (.int 16)))) (.int 1)) (.int 2654435761)) (.int 14348907)))) (.bi (.iop .mul .u32) (.bi (.iop .add .u32) (.bi (.iop .mul .u32) (.int 2) (.var 0)) (.int 1)) (.int 2654435761))), (.fn 15 (.bi .pair (.var 9) (.bi .pair (.var 8) (.bi .pair (.var 7) (.bi .pair (.var 0) (.int 0))))))), (true, (.bi (.iop .add .u32) (.bi (.iop .mul .u32) (.int 3) (.bi (.iop .sub .u32) (.var 9) (.bi (.iop .mul .u32) (.bi (.iop .mul .u32) (.bi (.iop .add .u32) (.bi (.iop .mul .u32) (.int 2) (.bi .sel (.var 7) (.bi (.iop .rem .i64) (.var 8) (.int 16)))) (.int 1)) (.int 2654435761)) (.int 14348907)))) (.bi (.iop .mul .u32) (.bi (.iop .add .u32) (.bi (.iop .mul .u32) (.int 2) (.var 0)) (.int 1)) (.int 2654435761))), (.fn 15 (.bi .pair (.var 9) (.bi .pair (.var 8) (.bi .pair (.var 7) (.bi .pair (.var 0) (.int 0)))))))]
theorem pushC_y1 : endC pushC [(1, 1)] 1000 (callC Try.prog (tellA pushC_t1) [] [] [] 3000 40 22 pushC) = some pushC_d1 := by kernel_rfl
theorem pushC_holds : CHolds Try.prog 22 pushC F := by
  refine cholds_of sound (tableNil _ _) (specsNil _ _) (oversNil _ _) (fuel := 3000) (depth := 40) (by kernel_rfl) fun d hp hR hA => ?_
  have hp := allTold'_iff.2 hp
  simp only [pushC, allTold', dutiesTold, factsA, factsP, factsR, AV.facts, RW.facts, inK, and_true, Q.holds', E.i, E.s, E.n, D.nat, E.den, BO.den, UO.den, TO.den, D.toInt_int, D.toList_list, D.ints_ofInts, i64min, i64max, u8min, u8max, u16min, u16max, u32min, u32max, u64min, u64max, i32min, i32max, Om.sub, selI, ints_app, ints_cut, ints_upd, ints_rep, ints_splice, len_ints] at hp hR hA
  have er : iopI .rem .i64 (d 8).toInt 16 = (d 8).toInt % 16 := by rw [rem_emod _ (by omega)]
  by_cases h : 16 ≤ (d 8).toInt
  · refine ⟨tellA pushC_t1, _, _, _, tellA_ok (allTold'_iff.1 ?_), pushC_y1, dutiesTold_ok ?_⟩
    · simp only [pushC_t1, allTold', dutiesTold, factsA, factsP, factsR, AV.facts, RW.facts, inK, and_true, Q.holds', E.i, E.s, E.n, D.nat, E.den, BO.den, UO.den, TO.den, D.toInt_int, D.toList_list, D.ints_ofInts, i64min, i64max, u8min, u8max, u16min, u16max, u32min, u32max, u64min, u64max, i32min, i32max, Om.sub, selI, ints_app, ints_cut, ints_upd, ints_rep, ints_splice, len_ints]
      rw [er]
      omega
    · simp only [pushC_d1, F15, allTold', dutiesTold, factsA, factsP, factsR, AV.facts, RW.facts, inK, and_true, Q.holds', E.i, E.s, E.n, D.nat, E.den, BO.den, UO.den, TO.den, D.toInt_int, D.toList_list, D.ints_ofInts, i64min, i64max, u8min, u8max, u16min, u16max, u32min, u32max, u64min, u64max, i32min, i32max, Om.sub, selI, ints_app, ints_cut, ints_upd, ints_rep, ints_splice, len_ints]
      unfold pushI
      rw [if_pos h, er]
      simp [rollI, wI]
  · refine ⟨tellA pushC_t0, _, _, _, tellA_ok (allTold'_iff.1 ?_), pushC_y0, dutiesTold_ok ?_⟩
    · simp only [pushC_t0, allTold', dutiesTold, factsA, factsP, factsR, AV.facts, RW.facts, inK, and_true, Q.holds', E.i, E.s, E.n, D.nat, E.den, BO.den, UO.den, TO.den, D.toInt_int, D.toList_list, D.ints_ofInts, i64min, i64max, u8min, u8max, u16min, u16max, u32min, u32max, u64min, u64max, i32min, i32max, Om.sub, selI, ints_app, ints_cut, ints_upd, ints_rep, ints_splice, len_ints]
      rw [er]
      omega
    · simp only [pushC_d0, F15, allTold', dutiesTold, factsA, factsP, factsR, AV.facts, RW.facts, inK, and_true, Q.holds', E.i, E.s, E.n, D.nat, E.den, BO.den, UO.den, TO.den, D.toInt_int, D.toList_list, D.ints_ofInts, i64min, i64max, u8min, u8max, u16min, u16max, u32min, u32max, u64min, u64max, i32min, i32max, Om.sub, selI, ints_app, ints_cut, ints_upd, ints_rep, ints_splice, len_ints]
      unfold pushI
      rw [if_neg h]
      simp [stepI, wI]

def forgA : LSpec := { n := 113, next := 2, pat := [(10, .sint .i64 (.var 0)), (8, .ptr 1 0), (0, .sslice 3 (.var 4) (.var 5) (.var 6) false)], rows := [(1, .cells 37 0 false false [.bool true, .sint .u8 (.bi .sel (.var 7) (.int 0)), .sint .u8 (.bi .sel (.var 7) (.int 1)), .sint .u8 (.bi .sel (.var 7) (.int 2)), .sint .u8 (.bi .sel (.var 7) (.int 3)), .sint .u8 (.bi .sel (.var 7) (.int 4)), .sint .u8 (.bi .sel (.var 7) (.int 5)), .sint .u8 (.bi .sel (.var 7) (.int 6)), .sint .u8 (.bi .sel (.var 7) (.int 7)), .sint .u8 (.bi .sel (.var 7) (.int 8)), .sint .u8 (.bi .sel (.var 7) (.int 9)), .sint .u8 (.bi .sel (.var 7) (.int 10)), .sint .u8 (.bi .sel (.var 7) (.int 11)), .sint .u8 (.bi .sel (.var 7) (.int 12)), .sint .u8 (.bi .sel (.var 7) (.int 13)), .sint .u8 (.bi .sel (.var 7) (.int 14)), .sint .u8 (.bi .sel (.var 7) (.int 15)), .sint .i64 (.var 8), .sint .u32 (.var 9)]), (3, .eseq ⟨.u8, .var 3, .var 2⟩)], pre := [(.le (.int 0) (.var 0), true), (.le (.var 0) (.var 5), true), (.le (.bi .add (.var 4) (.var 5)) (.var 3), true), (.le (.var 5) (.int 1000), true), (.same (.var 7) (.fn 9 (.bi .pair (.var 2) (.bi .pair (.var 4) (.bi .pair (.bi .add (.var 0) (.int 1)) (.int 0))))), true), (.eq (.var 8) (.var 0), true), (.eq (.var 9) (.fn 11 (.bi .pair (.var 2) (.bi .pair (.var 4) (.bi .pair (.bi .add (.var 0) (.int 1)) (.int 0))))), true)], x := 0, fin := [(8, .ptr 1 0), (0, .sslice 3 (.var 4) (.var 5) (.var 6) false)], frows := [(1, .cells 37 0 false false [.bool true, .sint .u8 (.bi .sel (.fn 9 (.bi .pair (.var 2) (.bi .pair (.var 4) (.bi .pair (.bi .add (.var 5) (.int 1)) (.int 0))))) (.int 0)), .sint .u8 (.bi .sel (.fn 9 (.bi .pair (.var 2) (.bi .pair (.var 4) (.bi .pair (.bi .add (.var 5) (.int 1)) (.int 0))))) (.int 1)), .sint .u8 (.bi .sel (.fn 9 (.bi .pair (.var 2) (.bi .pair (.var 4) (.bi .pair (.bi .add (.var 5) (.int 1)) (.int 0))))) (.int 2)), .sint .u8 (.bi .sel (.fn 9 (.bi .pair (.var 2) (.bi .pair (.var 4) (.bi .pair (.bi .add (.var 5) (.int 1)) (.int 0))))) (.int 3)), .sint .u8 (.bi .sel (.fn 9 (.bi .pair (.var 2) (.bi .pair (.var 4) (.bi .pair (.bi .add (.var 5) (.int 1)) (.int 0))))) (.int 4)), .sint .u8 (.bi .sel (.fn 9 (.bi .pair (.var 2) (.bi .pair (.var 4) (.bi .pair (.bi .add (.var 5) (.int 1)) (.int 0))))) (.int 5)), .sint .u8 (.bi .sel (.fn 9 (.bi .pair (.var 2) (.bi .pair (.var 4) (.bi .pair (.bi .add (.var 5) (.int 1)) (.int 0))))) (.int 6)), .sint .u8 (.bi .sel (.fn 9 (.bi .pair (.var 2) (.bi .pair (.var 4) (.bi .pair (.bi .add (.var 5) (.int 1)) (.int 0))))) (.int 7)), .sint .u8 (.bi .sel (.fn 9 (.bi .pair (.var 2) (.bi .pair (.var 4) (.bi .pair (.bi .add (.var 5) (.int 1)) (.int 0))))) (.int 8)), .sint .u8 (.bi .sel (.fn 9 (.bi .pair (.var 2) (.bi .pair (.var 4) (.bi .pair (.bi .add (.var 5) (.int 1)) (.int 0))))) (.int 9)), .sint .u8 (.bi .sel (.fn 9 (.bi .pair (.var 2) (.bi .pair (.var 4) (.bi .pair (.bi .add (.var 5) (.int 1)) (.int 0))))) (.int 10)), .sint .u8 (.bi .sel (.fn 9 (.bi .pair (.var 2) (.bi .pair (.var 4) (.bi .pair (.bi .add (.var 5) (.int 1)) (.int 0))))) (.int 11)), .sint .u8 (.bi .sel (.fn 9 (.bi .pair (.var 2) (.bi .pair (.var 4) (.bi .pair (.bi .add (.var 5) (.int 1)) (.int 0))))) (.int 12)), .sint .u8 (.bi .sel (.fn 9 (.bi .pair (.var 2) (.bi .pair (.var 4) (.bi .pair (.bi .add (.var 5) (.int 1)) (.int 0))))) (.int 13)), .sint .u8 (.bi .sel (.fn 9 (.bi .pair (.var 2) (.bi .pair (.var 4) (.bi .pair (.bi .add (.var 5) (.int 1)) (.int 0))))) (.int 14)), .sint .u8 (.bi .sel (.fn 9 (.bi .pair (.var 2) (.bi .pair (.var 4) (.bi .pair (.bi .add (.var 5) (.int 1)) (.int 0))))) (.int 15)), .sint .i64 (.var 5), .sint .u32 (.fn 11 (.bi .pair (.var 2) (.bi .pair (.var 4) (.bi .pair (.bi .add (.var 5) (.int 1)) (.int 0)))))])], same := [1, 3], chg := [0, 8, 10, 43, 44, 45, 46, 47, 48, 49, 50, 51, 52, 53, 54] }
def forgA_t0 : List (Q × Bool) := [((.fit .i64 (.var 5)), true),
  ((.le (.var 5) (.var 0)), true)]
def forgA_d0 : List Duty := [(true, (.bi .sel (.var 7) (.int 0)), (.bi .sel (.fn 9 (.bi .pair (.var 2) (.bi .pair (.var 4) (.bi .pair (.bi .add (.var 5) (.int 1)) (.int 0))))) (.int 0))), (true, (.bi .sel (.var 7) (.int 1)), (.bi .sel (.fn 9 (.bi .pair (.var 2) (.bi .pair (.var 4) (.bi .pair (.bi .add (.var 5) (.int 1)) (.int 0))))) (.int 1))), (true, (.bi .sel (.var 7) (.int 2)), (.bi .sel (.fn 9 (.bi .pair (.var 2) (.bi .pair (.var 4) (.bi .pair (.bi .add (.var 5) (.int 1)) (.int 0))))) (.int 2))), (true, (.bi .sel (.var 7) (.int 3)), (.bi .sel (.fn 9 (.bi .pair (.var 2) (.bi .pair (.var 4) (.bi .pair (.bi .add (.var 5) (.int 1)) (.int 0))))) (.int 3))), (true, (.bi .sel (.var 7) (.int 4)), (.bi .sel (.fn 9 (.bi .pair (.var 2) (.bi .pair (.var 4) (.bi .pair (.bi .add (.var 5) (.int 1)) (.int 0))))) (.int 4))), (true, (.bi .sel (.var 7) (.int 5)), (.bi .sel (.fn 9 (.bi .pair (.var 2) (.bi .pair (.var 4) (.bi .pair (.bi .add (.var 5) (.int 1)) (.int 0))))) (.int 5))), (true, (.bi .sel (.var 7) (.int 6)), (.bi .sel (.fn 9 (.bi .pair (.var 2) (.bi .pair (.var 4) (.bi .pair (.bi .add (.var 5) (.int 1)) (.int 0))))) (.int 6))), (true, (.bi .sel (.var 7) (.int 7)), (.bi .sel (.fn 9 (.bi .pair (.var 2) (.bi .pair (.var 4) (.bi .pair (.bi .add (.var 5) (.int 1)) (.int 0))))) (.int 7))), (true, (.bi .sel (.var 7) (.int 8)), (.bi .sel (.fn 9 (.bi .pair (.var 2) (.bi .pair (.var 4) (.bi .pair (.bi .add (.var 5) (.int 1)) (.int 0))))) (.int 8))), (true, (.bi .sel (.var 7) (.int 9)), (.bi .sel (.fn 9 (.bi .pair (.var 2) (.bi .pair (.var 4) (.bi .pair (.bi .add (.var 5) (.int 1)) (.int 0))))) (.int 9))), (true, (.bi .sel (.var 7) (.int 10)), (.bi .sel (.fn 9 (.bi .pair (.var 2) (.bi .pair (.var 4) (.bi .pair (.bi .add (.var 5) (.int 1)) (.int 0))))) (.int 10))), (true, (.bi .sel (.var 7) (.int 11)), (.bi .sel (.fn 9 (.bi .pair (.var 2) (.bi .pair (.var 4) (.bi .pair (.bi .add (.var 5) (.int 1)) (.int 0))))) (.int 11))), (true, (.bi .sel (.var 7) (.int 12)), (.bi .sel (.fn 9 (.bi .pair (.var 2) (.bi .pair (.var 4) (.bi .pair (.bi .add (.var 5) (.int 1)) (.int 0))))) (.int 12))), (true, (.bi .sel (.var 7) (.int 13)), (.bi .sel (.fn 9 (.bi .pair (.var 2) (.bi .pair (.var 4) (.bi .pair (.bi .add (.var 5) (.int 1)) (.int 0))))) (.int 13))), (true, (.bi .sel (.var 7) (.int 14)), (.bi .sel (.fn 9 (.bi .pair (.var 2) (.bi .pair (.var 4) (.bi .pair (.bi .add (.var 5) (.int 1)) (.int 0))))) (.int 14))), (true, (.bi .sel (.var 7) (.int 15)), (.bi .sel (.fn 9 (.bi .pair (.var 2) (.bi .pair (.var 4) (.bi .pair (.bi .add (.var 5) (.int 1)) (.int 0))))) (.int 15))), (true, (.var 8), (.var 5)), (true, (.var 9), (.fn 11 (.bi .pair (.var 2) (.bi .pair (.var 4) (.bi .pair (.bi .add (.var 5) (.int 1)) (.int 0))))))]
theorem forgA_y0 : endD forgA [(3, 3), (1, 1)] 1000 (roundC Try.prog [] [(22, pushC)] [] 3000 40 7 [4, 1, 0, 1, 1, 1, 1, 1] (tellA forgA_t0) forgA) = some forgA_d0 := by kernel_rfl
def forgA_t1 : List (Q × Bool) := [((.fit .i64 (.var 5)), true),
  ((.le (.var 5) (.var 0)), false),
  ((.le (.int 0) (.var 0)), true),
  ((.le (.int 0) (.bi .add (.var 4) (.var 0))), true),
  ((.le (.var 3) (.bi .add (.var 4) (.var 0))), false),
  ((.le (.int 16) (.un .len (.var 7))), true),
  ((.le (.int 0) (.var 8)), true),
  ((.le (.var 8) (.int 1000000)), true),
  ((.fit .i64 (.bi .add (.var 0) (.int 1))), true)]
def forgA_d1 : List Duty := []
def forgA_h1 : List (Nat × E) := [(3, (.var 3)), (2, (.var 2)), (9, (.fn 15 (.bi .pair (.var 9) (.bi .pair (.var 8) (.bi .pair (.var 7) (.bi .pair (.bi .sel (.var 2) (.bi .add (.var 4) (.var 0))) (.int 0))))))), (8, (.bi .add (.var 8) (.int 1))), (7, (.tr .upd (.var 7) (.bi (.iop .rem .i64) (.var 8) (.int 16)) (.bi .sel (.var 2) (.bi .add (.var 4) (.var 0))))), (4, (.var 4)), (5, (.var 5)), (6, (.var 6)), (0, (.bi .add (.var 0) (.int 1)))]
theorem forgA_h1_0 : lookE forgA_h1 0 = (.bi .add (.var 0) (.int 1)) := rfl
theorem forgA_h1_2 : lookE forgA_h1 2 = (.var 2) := rfl
theorem forgA_h1_3 : lookE forgA_h1 3 = (.var 3) := rfl
theorem forgA_h1_4 : lookE forgA_h1 4 = (.var 4) := rfl
theorem forgA_h1_5 : lookE forgA_h1 5 = (.var 5) := rfl
theorem forgA_h1_6 : lookE forgA_h1 6 = (.var 6) := rfl
theorem forgA_h1_7 : lookE forgA_h1 7 = (.tr .upd (.var 7) (.bi (.iop .rem .i64) (.var 8) (.int 16)) (.bi .sel (.var 2) (.bi .add (.var 4) (.var 0)))) := rfl
theorem forgA_h1_8 : lookE forgA_h1 8 = (.bi .add (.var 8) (.int 1)) := rfl
theorem forgA_h1_9 : lookE forgA_h1 9 = (.fn 15 (.bi .pair (.var 9) (.bi .pair (.var 8) (.bi .pair (.var 7) (.bi .pair (.bi .sel (.var 2) (.bi .add (.var 4) (.var 0))) (.int 0)))))) := rfl
theorem forgA_y1 : nextD forgA forgA_h1 [(3, 3), (1, 1)] (roundC Try.prog [] [(22, pushC)] [] 3000 40 7 [4, 1, 0, 1, 1, 1, 1, 1] (tellA forgA_t1) forgA) = some forgA_d1 := by kernel_rfl
theorem forgA_holds : LHolds Try.prog (loopAt Try.prog 7 [4, 1, 0, 1, 1, 1, 1, 1]) forgA F := by
  refine loop_roundsC sound (tableNil _ _) (specsCons pushC_holds (specsNil _ _)) (oversNil _ _) (fuel := 3000) (depth := 40) (by kernel_rfl) (by kernel_rfl) (by kernel_rfl) (fun d => ((d 5).toInt - (d 0).toInt).toNat) fun d hp hR hA => ?_
  have hp := allTold'_iff.2 hp
  simp only [forgA, allTold', dutiesTold, factsA, factsP, factsR, AV.facts, RW.facts, inK, and_true, Q.holds', E.i, E.s, E.n, D.nat, E.den, BO.den, UO.den, TO.den, D.toInt_int, D.toList_list, D.ints_ofInts, i64min, i64max, u8min, u8max, u16min, u16max, u32min, u32max, u64min, u64max, i32min, i32max, Om.sub, selI, ints_app, ints_cut, ints_upd, ints_rep, ints_splice, len_ints] at hp hR hA
  simp only [F9, F11, D.toInt_int, D.ints_ofInts] at hp
  obtain ⟨p1, p2, p3, p4, p5, p6, p7⟩ := hp
  have el : ((d 7).ints.length : Nat) = 16 := by rw [p5, ring_len]
  have es : ((d 0).toInt + 1 - 1).toNat = (d 0).toInt.toNat := by omega
  have et : ((((d 0).toInt + 1 - 1).toNat : Nat) : Int) = (d 0).toInt := by omega
  rw [es] at p5
  rw [et] at p7
  by_cases h : (d 5).toInt ≤ (d 0).toInt
  · have e5 : (d 5).toInt = (d 0).toInt := by omega
    refine ⟨tellA forgA_t0, tellA_ok (allTold'_iff.1 ?_), .inl ⟨_, _, _, forgA_y0, dutiesTold_ok ?_⟩⟩
    · simp only [forgA_t0, allTold', dutiesTold, factsA, factsP, factsR, AV.facts, RW.facts, inK, and_true, Q.holds', E.i, E.s, E.n, D.nat, E.den, BO.den, UO.den, TO.den, D.toInt_int, D.toList_list, D.ints_ofInts, i64min, i64max, u8min, u8max, u16min, u16max, u32min, u32max, u64min, u64max, i32min, i32max, Om.sub, selI, ints_app, ints_cut, ints_upd, ints_rep, ints_splice, len_ints]
      omega
    · simp only [forgA_d0, F9, F11, allTold', dutiesTold, factsA, factsP, factsR, AV.facts, RW.facts, inK, and_true, Q.holds', E.i, E.s, E.n, D.nat, E.den, BO.den, UO.den, TO.den, D.toInt_int, D.toList_list, D.ints_ofInts, i64min, i64max, u8min, u8max, u16min, u16max, u32min, u32max, u64min, u64max, i32min, i32max, Om.sub, selI, ints_app, ints_cut, ints_upd, ints_rep, ints_splice, len_ints]
      rw [e5, es]
      and_intros <;> first | omega | (rw [p5]; done) | exact p6 | (rw [p7, show ((d 0).toInt.toNat : Int) = (d 0).toInt by omega]; done)
  · have er : iopI .rem .i64 (d 8).toInt 16 = (d 0).toInt % 16 := by rw [p6, rem_emod _ (by omega)]
    have h1 := ringL_prt (x := (d 2).ints) (o := (d 4).toInt) (n := (d 0).toInt) (by omega) (by omega) (by omega)
    have h2 := winL_prt (x := (d 2).ints) (o := (d 4).toInt) (n := (d 0).toInt) (by omega) (by omega) (by omega)
    have h3 := ringL_prt (x := (d 2).ints) (o := (d 4).toInt) (n := (d 0).toInt + 1) (by omega) (by omega) (by omega)
    have h4 := winL_prt (x := (d 2).ints) (o := (d 4).toInt) (n := (d 0).toInt + 1) (by omega) (by omega) (by omega)
    have hl := prt_length (x := (d 2).ints) (o := (d 4).toInt) (t := (d 4).toInt + (d 0).toInt) (by omega) (by omega) (by omega)
    have hs : prt (d 2).ints (d 4).toInt ((d 4).toInt + ((d 0).toInt + 1)) = prt (d 2).ints (d 4).toInt ((d 4).toInt + (d 0).toInt) ++ [((d 2).ints[((d 4).toInt + (d 0).toInt).toNat]?).getD 0] := by
      rw [prt_app (m := (d 4).toInt + (d 0).toInt) (by omega) (by omega) (by omega) (by omega), prt_step (o := (d 4).toInt + (d 0).toInt) (by omega) (by omega) (by omega), prt_nil (o := (d 4).toInt + (d 0).toInt + 1) (by omega) (by omega)]
    have hw := winL_snoc (prt (d 2).ints (d 4).toInt ((d 4).toInt + (d 0).toInt)) (((d 2).ints[((d 4).toInt + (d 0).toInt).toNat]?).getD 0)
    have hr := ringL_snoc (prt (d 2).ints (d 4).toInt ((d 4).toInt + (d 0).toInt)) (((d 2).ints[((d 4).toInt + (d 0).toInt).toNat]?).getD 0)
    rw [← hs, ← h1, ← h2, ← h4, hl, show (d 4).toInt + (d 0).toInt - (d 4).toInt = (d 0).toInt by omega] at hw
    rw [← hs, ← h1, ← h3, show (prt (d 2).ints (d 4).toInt ((d 4).toInt + (d 0).toInt)).length % 16 = ((d 0).toInt % 16).toNat by omega] at hr
    have e6 : ((d 0).toInt + 1 + 1 - 1).toNat = ((d 0).toInt + 1).toNat := by omega
    have e7 : ((((d 0).toInt + 1 + 1 - 1).toNat : Nat) : Int) = (d 0).toInt + 1 := by omega
    refine ⟨tellA forgA_t1, tellA_ok (allTold'_iff.1 ?_), .inr ⟨forgA_h1, _, _, forgA_y1, dutiesTold_ok ?_, allTold'_iff.1 ?_, ?_⟩⟩
    · simp only [forgA_t1, allTold', dutiesTold, factsA, factsP, factsR, AV.facts, RW.facts, inK, and_true, Q.holds', E.i, E.s, E.n, D.nat, E.den, BO.den, UO.den, TO.den, D.toInt_int, D.toList_list, D.ints_ofInts, i64min, i64max, u8min, u8max, u16min, u16max, u32min, u32max, u64min, u64max, i32min, i32max, Om.sub, selI, ints_app, ints_cut, ints_upd, ints_rep, ints_splice, len_ints]
      omega
    · simp only [forgA_d1, F9, F11, F15, allTold', dutiesTold, factsA, factsP, factsR, AV.facts, RW.facts, inK, and_true, Q.holds', E.i, E.s, E.n, D.nat, E.den, BO.den, UO.den, TO.den, D.toInt_int, D.toList_list, D.ints_ofInts, i64min, i64max, u8min, u8max, u16min, u16max, u32min, u32max, u64min, u64max, i32min, i32max, Om.sub, selI, ints_app, ints_cut, ints_upd, ints_rep, ints_splice, len_ints]
      try trivial
    · simp only [forgA, forgA_h1_0, forgA_h1_2, forgA_h1_3, forgA_h1_4, forgA_h1_5, forgA_h1_6, forgA_h1_7, forgA_h1_8, forgA_h1_9, F9, F11, F15, allTold', dutiesTold, factsA, factsP, factsR, AV.facts, RW.facts, inK, and_true, Q.holds', E.i, E.s, E.n, D.nat, E.den, BO.den, UO.den, TO.den, D.toInt_int, D.toList_list, D.ints_ofInts, i64min, i64max, u8min, u8max, u16min, u16max, u32min, u32max, u64min, u64max, i32min, i32max, Om.sub, selI, ints_app, ints_cut, ints_upd, ints_rep, ints_splice, len_ints]
      rw [← p5, ← p7] at hw
      rw [← p5] at hr
      rw [e6]
      and_intros <;> first | omega | (rw [er, hr]; done) | (rw [show (((d 0).toInt + 1).toNat : Int) = (d 0).toInt + 1 by omega, p6]; exact hw)
    · simp only [forgA_h1_0, forgA_h1_2, forgA_h1_3, forgA_h1_4, forgA_h1_5, forgA_h1_6, forgA_h1_7, forgA_h1_8, forgA_h1_9, allTold', dutiesTold, factsA, factsP, factsR, AV.facts, RW.facts, inK, and_true, Q.holds', E.i, E.s, E.n, D.nat, E.den, BO.den, UO.den, TO.den, D.toInt_int, D.toList_list, D.ints_ofInts, i64min, i64max, u8min, u8max, u16min, u16max, u32min, u32max, u64min, u64max, i32min, i32max, Om.sub, selI, ints_app, ints_cut, ints_upd, ints_rep, ints_splice, len_ints]
      omega

def forgB : LSpec := { n := 113, next := 2, pat := [(11, .sint .i64 (.var 0)), (9, .ptr 1 0), (1, .sslice 3 (.var 4) (.var 5) (.var 6) false)], rows := [(1, .cells 37 0 false false [.bool true, .sint .u8 (.bi .sel (.var 7) (.int 0)), .sint .u8 (.bi .sel (.var 7) (.int 1)), .sint .u8 (.bi .sel (.var 7) (.int 2)), .sint .u8 (.bi .sel (.var 7) (.int 3)), .sint .u8 (.bi .sel (.var 7) (.int 4)), .sint .u8 (.bi .sel (.var 7) (.int 5)), .sint .u8 (.bi .sel (.var 7) (.int 6)), .sint .u8 (.bi .sel (.var 7) (.int 7)), .sint .u8 (.bi .sel (.var 7) (.int 8)), .sint .u8 (.bi .sel (.var 7) (.int 9)), .sint .u8 (.bi .sel (.var 7) (.int 10)), .sint .u8 (.bi .sel (.var 7) (.int 11)), .sint .u8 (.bi .sel (.var 7) (.int 12)), .sint .u8 (.bi .sel (.var 7) (.int 13)), .sint .u8 (.bi .sel (.var 7) (.int 14)), .sint .u8 (.bi .sel (.var 7) (.int 15)), .sint .i64 (.var 8), .sint .u32 (.var 9)]), (3, .eseq ⟨.u8, .var 3, .var 2⟩)], pre := [(.le (.int 0) (.var 0), true), (.le (.var 0) (.var 5), true), (.le (.bi .add (.var 4) (.var 5)) (.var 3), true), (.le (.var 5) (.int 1000), true), (.same (.var 7) (.fn 9 (.bi .pair (.var 2) (.bi .pair (.var 4) (.bi .pair (.bi .add (.var 0) (.int 1)) (.int 0))))), true), (.eq (.var 8) (.var 0), true), (.eq (.var 9) (.fn 11 (.bi .pair (.var 2) (.bi .pair (.var 4) (.bi .pair (.bi .add (.var 0) (.int 1)) (.int 0))))), true)], x := 2, fin := [(9, .ptr 1 0), (1, .sslice 3 (.var 4) (.var 5) (.var 6) false)], frows := [(1, .cells 37 0 false false [.bool true, .sint .u8 (.bi .sel (.fn 9 (.bi .pair (.var 2) (.bi .pair (.var 4) (.bi .pair (.bi .add (.var 5) (.int 1)) (.int 0))))) (.int 0)), .sint .u8 (.bi .sel (.fn 9 (.bi .pair (.var 2) (.bi .pair (.var 4) (.bi .pair (.bi .add (.var 5) (.int 1)) (.int 0))))) (.int 1)), .sint .u8 (.bi .sel (.fn 9 (.bi .pair (.var 2) (.bi .pair (.var 4) (.bi .pair (.bi .add (.var 5) (.int 1)) (.int 0))))) (.int 2)), .sint .u8 (.bi .sel (.fn 9 (.bi .pair (.var 2) (.bi .pair (.var 4) (.bi .pair (.bi .add (.var 5) (.int 1)) (.int 0))))) (.int 3)), .sint .u8 (.bi .sel (.fn 9 (.bi .pair (.var 2) (.bi .pair (.var 4) (.bi .pair (.bi .add (.var 5) (.int 1)) (.int 0))))) (.int 4)), .sint .u8 (.bi .sel (.fn 9 (.bi .pair (.var 2) (.bi .pair (.var 4) (.bi .pair (.bi .add (.var 5) (.int 1)) (.int 0))))) (.int 5)), .sint .u8 (.bi .sel (.fn 9 (.bi .pair (.var 2) (.bi .pair (.var 4) (.bi .pair (.bi .add (.var 5) (.int 1)) (.int 0))))) (.int 6)), .sint .u8 (.bi .sel (.fn 9 (.bi .pair (.var 2) (.bi .pair (.var 4) (.bi .pair (.bi .add (.var 5) (.int 1)) (.int 0))))) (.int 7)), .sint .u8 (.bi .sel (.fn 9 (.bi .pair (.var 2) (.bi .pair (.var 4) (.bi .pair (.bi .add (.var 5) (.int 1)) (.int 0))))) (.int 8)), .sint .u8 (.bi .sel (.fn 9 (.bi .pair (.var 2) (.bi .pair (.var 4) (.bi .pair (.bi .add (.var 5) (.int 1)) (.int 0))))) (.int 9)), .sint .u8 (.bi .sel (.fn 9 (.bi .pair (.var 2) (.bi .pair (.var 4) (.bi .pair (.bi .add (.var 5) (.int 1)) (.int 0))))) (.int 10)), .sint .u8 (.bi .sel (.fn 9 (.bi .pair (.var 2) (.bi .pair (.var 4) (.bi .pair (.bi .add (.var 5) (.int 1)) (.int 0))))) (.int 11)), .sint .u8 (.bi .sel (.fn 9 (.bi .pair (.var 2) (.bi .pair (.var 4) (.bi .pair (.bi .add (.var 5) (.int 1)) (.int 0))))) (.int 12)), .sint .u8 (.bi .sel (.fn 9 (.bi .pair (.var 2) (.bi .pair (.var 4) (.bi .pair (.bi .add (.var 5) (.int 1)) (.int 0))))) (.int 13)), .sint .u8 (.bi .sel (.fn 9 (.bi .pair (.var 2) (.bi .pair (.var 4) (.bi .pair (.bi .add (.var 5) (.int 1)) (.int 0))))) (.int 14)), .sint .u8 (.bi .sel (.fn 9 (.bi .pair (.var 2) (.bi .pair (.var 4) (.bi .pair (.bi .add (.var 5) (.int 1)) (.int 0))))) (.int 15)), .sint .i64 (.var 5), .sint .u32 (.fn 11 (.bi .pair (.var 2) (.bi .pair (.var 4) (.bi .pair (.bi .add (.var 5) (.int 1)) (.int 0)))))])], same := [1, 3], chg := [1, 9, 11, 55, 56, 57, 58, 59, 60, 61, 62, 63, 64, 65, 66] }
def forgB_t0 : List (Q × Bool) := [((.fit .i64 (.var 5)), true),
  ((.le (.var 5) (.var 0)), true)]
def forgB_d0 : List Duty := [(true, (.bi .sel (.var 7) (.int 0)), (.bi .sel (.fn 9 (.bi .pair (.var 2) (.bi .pair (.var 4) (.bi .pair (.bi .add (.var 5) (.int 1)) (.int 0))))) (.int 0))), (true, (.bi .sel (.var 7) (.int 1)), (.bi .sel (.fn 9 (.bi .pair (.var 2) (.bi .pair (.var 4) (.bi .pair (.bi .add (.var 5) (.int 1)) (.int 0))))) (.int 1))), (true, (.bi .sel (.var 7) (.int 2)), (.bi .sel (.fn 9 (.bi .pair (.var 2) (.bi .pair (.var 4) (.bi .pair (.bi .add (.var 5) (.int 1)) (.int 0))))) (.int 2))), (true, (.bi .sel (.var 7) (.int 3)), (.bi .sel (.fn 9 (.bi .pair (.var 2) (.bi .pair (.var 4) (.bi .pair (.bi .add (.var 5) (.int 1)) (.int 0))))) (.int 3))), (true, (.bi .sel (.var 7) (.int 4)), (.bi .sel (.fn 9 (.bi .pair (.var 2) (.bi .pair (.var 4) (.bi .pair (.bi .add (.var 5) (.int 1)) (.int 0))))) (.int 4))), (true, (.bi .sel (.var 7) (.int 5)), (.bi .sel (.fn 9 (.bi .pair (.var 2) (.bi .pair (.var 4) (.bi .pair (.bi .add (.var 5) (.int 1)) (.int 0))))) (.int 5))), (true, (.bi .sel (.var 7) (.int 6)), (.bi .sel (.fn 9 (.bi .pair (.var 2) (.bi .pair (.var 4) (.bi .pair (.bi .add (.var 5) (.int 1)) (.int 0))))) (.int 6))), (true, (.bi .sel (.var 7) (.int 7)), (.bi .sel (.fn 9 (.bi .pair (.var 2) (.bi .pair (.var 4) (.bi .pair (.bi .add (.var 5) (.int 1)) (.int 0))))) (.int 7))), (true, (.bi .sel (.var 7) (.int 8)), (.bi .sel (.fn 9 (.bi .pair (.var 2) (.bi .pair (.var 4) (.bi .pair (.bi .add (.var 5) (.int 1)) (.int 0))))) (.int 8))), (true, (.bi .sel (.var 7) (.int 9)), (.bi .sel (.fn 9 (.bi .pair (.var 2) (.bi .pair (.var 4) (.bi .pair (.bi .add (.var 5) (.int 1)) (.int 0))))) (.int 9))), (true, (.bi .sel (.var 7) (.int 10)), (.bi .sel (.fn 9 (.bi .pair (.var 2) (.bi .pair (.var 4) (.bi .pair (.bi .add (.var 5) (.int 1)) (.int 0))))) (.int 10))), (true, (.bi .sel (.var 7) (.int 11)), (.bi .sel (.fn 9 (.bi .pair (.var 2) (.bi .pair (.var 4) (.bi .pair (.bi .add (.var 5) (.int 1)) (.int 0))))) (.int 11))), (true, (.bi .sel (.var 7) (.int 12)), (.bi .sel (.fn 9 (.bi .pair (.var 2) (.bi .pair (.var 4) (.bi .pair (.bi .add (.var 5) (.int 1)) (.int 0))))) (.int 12))), (true, (.bi .sel (.var 7) (.int 13)), (.bi .sel (.fn 9 (.bi .pair (.var 2) (.bi .pair (.var 4) (.bi .pair (.bi .add (.var 5) (.int 1)) (.int 0))))) (.int 13))), (true, (.bi .sel (.var 7) (.int 14)), (.bi .sel (.fn 9 (.bi .pair (.var 2) (.bi .pair (.var 4) (.bi .pair (.bi .add (.var 5) (.int 1)) (.int 0))))) (.int 14))), (true, (.bi .sel (.var 7) (.int 15)), (.bi .sel (.fn 9 (.bi .pair (.var 2) (.bi .pair (.var 4) (.bi .pair (.bi .add (.var 5) (.int 1)) (.int 0))))) (.int 15))), (true, (.var 8), (.var 5)), (true, (.var 9), (.fn 11 (.bi .pair (.var 2) (.bi .pair (.var 4) (.bi .pair (.bi .add (.var 5) (.int 1)) (.int 0))))))]
theorem forgB_y0 : endD forgB [(3, 3), (1, 1)] 1000 (roundC Try.prog [] [(22, pushC)] [] 3000 40 7 [4, 1, 0, 1, 1, 1, 1, 1, 1] (tellA forgB_t0) forgB) = some forgB_d0 := by kernel_rfl
def forgB_t1 : List (Q × Bool) := [((.fit .i64 (.var 5)), true),
  ((.le (.var 5) (.var 0)), false),
  ((.le (.int 0) (.var 0)), true),
  ((.le (.int 0) (.bi .add (.var 4) (.var 0))), true),
  ((.le (.var 3) (.bi .add (.var 4) (.var 0))), false),
  ((.le (.int 16) (.un .len (.var 7))), true),
  ((.le (.int 0) (.var 8)), true),
  ((.le (.var 8) (.int 1000000)), true),
  ((.fit .i64 (.bi .add (.var 0) (.int 1))), true)]
def forgB_d1 : List Duty := []
def forgB_h1 : List (Nat × E) := [(3, (.var 3)), (2, (.var 2)), (9, (.fn 15 (.bi .pair (.var 9) (.bi .pair (.var 8) (.bi .pair (.var 7) (.bi .pair (.bi .sel (.var 2) (.bi .add (.var 4) (.var 0))) (.int 0))))))), (8, (.bi .add (.var 8) (.int 1))), (7, (.tr .upd (.var 7) (.bi (.iop .rem .i64) (.var 8) (.int 16)) (.bi .sel (.var 2) (.bi .add (.var 4) (.var 0))))), (4, (.var 4)), (5, (.var 5)), (6, (.var 6)), (0, (.bi .add (.var 0) (.int 1)))]
theorem forgB_h1_0 : lookE forgB_h1 0 = (.bi .add (.var 0) (.int 1)) := rfl
theorem forgB_h1_2 : lookE forgB_h1 2 = (.var 2) := rfl
theorem forgB_h1_3 : lookE forgB_h1 3 = (.var 3) := rfl
theorem forgB_h1_4 : lookE forgB_h1 4 = (.var 4) := rfl
theorem forgB_h1_5 : lookE forgB_h1 5 = (.var 5) := rfl
theorem forgB_h1_6 : lookE forgB_h1 6 = (.var 6) := rfl
theorem forgB_h1_7 : lookE forgB_h1 7 = (.tr .upd (.var 7) (.bi (.iop .rem .i64) (.var 8) (.int 16)) (.bi .sel (.var 2) (.bi .add (.var 4) (.var 0)))) := rfl
theorem forgB_h1_8 : lookE forgB_h1 8 = (.bi .add (.var 8) (.int 1)) := rfl
theorem forgB_h1_9 : lookE forgB_h1 9 = (.fn 15 (.bi .pair (.var 9) (.bi .pair (.var 8) (.bi .pair (.var 7) (.bi .pair (.bi .sel (.var 2) (.bi .add (.var 4) (.var 0))) (.int 0)))))) := rfl
theorem forgB_y1 : nextD forgB forgB_h1 [(3, 3), (1, 1)] (roundC Try.prog [] [(22, pushC)] [] 3000 40 7 [4, 1, 0, 1, 1, 1, 1, 1, 1] (tellA forgB_t1) forgB) = some forgB_d1 := by kernel_rfl
theorem forgB_holds : LHolds Try.prog (loopAt Try.prog 7 [4, 1, 0, 1, 1, 1, 1, 1, 1]) forgB F := by
  refine loop_roundsC sound (tableNil _ _) (specsCons pushC_holds (specsNil _ _)) (oversNil _ _) (fuel := 3000) (depth := 40) (by kernel_rfl) (by kernel_rfl) (by kernel_rfl) (fun d => ((d 5).toInt - (d 0).toInt).toNat) fun d hp hR hA => ?_
  have hp := allTold'_iff.2 hp
  simp only [forgB, allTold', dutiesTold, factsA, factsP, factsR, AV.facts, RW.facts, inK, and_true, Q.holds', E.i, E.s, E.n, D.nat, E.den, BO.den, UO.den, TO.den, D.toInt_int, D.toList_list, D.ints_ofInts, i64min, i64max, u8min, u8max, u16min, u16max, u32min, u32max, u64min, u64max, i32min, i32max, Om.sub, selI, ints_app, ints_cut, ints_upd, ints_rep, ints_splice, len_ints] at hp hR hA
  simp only [F9, F11, D.toInt_int, D.ints_ofInts] at hp
  obtain ⟨p1, p2, p3, p4, p5, p6, p7⟩ := hp
  have el : ((d 7).ints.length : Nat) = 16 := by rw [p5, ring_len]
  have es : ((d 0).toInt + 1 - 1).toNat = (d 0).toInt.toNat := by omega
  have et : ((((d 0).toInt + 1 - 1).toNat : Nat) : Int) = (d 0).toInt := by omega
  rw [es] at p5
  rw [et] at p7
  by_cases h : (d 5).toInt ≤ (d 0).toInt
  · have e5 : (d 5).toInt = (d 0).toInt := by omega
    refine ⟨tellA forgB_t0, tellA_ok (allTold'_iff.1 ?_), .inl ⟨_, _, _, forgB_y0, dutiesTold_ok ?_⟩⟩
    · simp only [forgB_t0, allTold', dutiesTold, factsA, factsP, factsR, AV.facts, RW.facts, inK, and_true, Q.holds', E.i, E.s, E.n, D.nat, E.den, BO.den, UO.den, TO.den, D.toInt_int, D.toList_list, D.ints_ofInts, i64min, i64max, u8min, u8max, u16min, u16max, u32min, u32max, u64min, u64max, i32min, i32max, Om.sub, selI, ints_app, ints_cut, ints_upd, ints_rep, ints_splice, len_ints]
      omega
    · simp only [forgB_d0, F9, F11, allTold', dutiesTold, factsA, factsP, factsR, AV.facts, RW.facts, inK, and_true, Q.holds', E.i, E.s, E.n, D.nat, E.den, BO.den, UO.den, TO.den, D.toInt_int, D.toList_list, D.ints_ofInts, i64min, i64max, u8min, u8max, u16min, u16max, u32min, u32max, u64min, u64max, i32min, i32max, Om.sub, selI, ints_app, ints_cut, ints_upd, ints_rep, ints_splice, len_ints]
      rw [e5, es]
      and_intros <;> first | omega | (rw [p5]; done) | exact p6 | (rw [p7, show ((d 0).toInt.toNat : Int) = (d 0).toInt by omega]; done)
  · have er : iopI .rem .i64 (d 8).toInt 16 = (d 0).toInt % 16 := by rw [p6, rem_emod _ (by omega)]
    have h1 := ringL_prt (x := (d 2).ints) (o := (d 4).toInt) (n := (d 0).toInt) (by omega) (by omega) (by omega)
    have h2 := winL_prt (x := (d 2).ints) (o := (d 4).toInt) (n := (d 0).toInt) (by omega) (by omega) (by omega)
    have h3 := ringL_prt (x := (d 2).ints) (o := (d 4).toInt) (n := (d 0).toInt + 1) (by omega) (by omega) (by omega)
    have h4 := winL_prt (x := (d 2).ints) (o := (d 4).toInt) (n := (d 0).toInt + 1) (by omega) (by omega) (by omega)
    have hl := prt_length (x := (d 2).ints) (o := (d 4).toInt) (t := (d 4).toInt + (d 0).toInt) (by omega) (by omega) (by omega)
    have hs : prt (d 2).ints (d 4).toInt ((d 4).toInt + ((d 0).toInt + 1)) = prt (d 2).ints (d 4).toInt ((d 4).toInt + (d 0).toInt) ++ [((d 2).ints[((d 4).toInt + (d 0).toInt).toNat]?).getD 0] := by
      rw [prt_app (m := (d 4).toInt + (d 0).toInt) (by omega) (by omega) (by omega) (by omega), prt_step (o := (d 4).toInt + (d 0).toInt) (by omega) (by omega) (by omega), prt_nil (o := (d 4).toInt + (d 0).toInt + 1) (by omega) (by omega)]
    have hw := winL_snoc (prt (d 2).ints (d 4).toInt ((d 4).toInt + (d 0).toInt)) (((d 2).ints[((d 4).toInt + (d 0).toInt).toNat]?).getD 0)
    have hr := ringL_snoc (prt (d 2).ints (d 4).toInt ((d 4).toInt + (d 0).toInt)) (((d 2).ints[((d 4).toInt + (d 0).toInt).toNat]?).getD 0)
    rw [← hs, ← h1, ← h2, ← h4, hl, show (d 4).toInt + (d 0).toInt - (d 4).toInt = (d 0).toInt by omega] at hw
    rw [← hs, ← h1, ← h3, show (prt (d 2).ints (d 4).toInt ((d 4).toInt + (d 0).toInt)).length % 16 = ((d 0).toInt % 16).toNat by omega] at hr
    have e6 : ((d 0).toInt + 1 + 1 - 1).toNat = ((d 0).toInt + 1).toNat := by omega
    have e7 : ((((d 0).toInt + 1 + 1 - 1).toNat : Nat) : Int) = (d 0).toInt + 1 := by omega
    refine ⟨tellA forgB_t1, tellA_ok (allTold'_iff.1 ?_), .inr ⟨forgB_h1, _, _, forgB_y1, dutiesTold_ok ?_, allTold'_iff.1 ?_, ?_⟩⟩
    · simp only [forgB_t1, allTold', dutiesTold, factsA, factsP, factsR, AV.facts, RW.facts, inK, and_true, Q.holds', E.i, E.s, E.n, D.nat, E.den, BO.den, UO.den, TO.den, D.toInt_int, D.toList_list, D.ints_ofInts, i64min, i64max, u8min, u8max, u16min, u16max, u32min, u32max, u64min, u64max, i32min, i32max, Om.sub, selI, ints_app, ints_cut, ints_upd, ints_rep, ints_splice, len_ints]
      omega
    · simp only [forgB_d1, F9, F11, F15, allTold', dutiesTold, factsA, factsP, factsR, AV.facts, RW.facts, inK, and_true, Q.holds', E.i, E.s, E.n, D.nat, E.den, BO.den, UO.den, TO.den, D.toInt_int, D.toList_list, D.ints_ofInts, i64min, i64max, u8min, u8max, u16min, u16max, u32min, u32max, u64min, u64max, i32min, i32max, Om.sub, selI, ints_app, ints_cut, ints_upd, ints_rep, ints_splice, len_ints]
      try trivial
    · simp only [forgB, forgB_h1_0, forgB_h1_2, forgB_h1_3, forgB_h1_4, forgB_h1_5, forgB_h1_6, forgB_h1_7, forgB_h1_8, forgB_h1_9, F9, F11, F15, allTold', dutiesTold, factsA, factsP, factsR, AV.facts, RW.facts, inK, and_true, Q.holds', E.i, E.s, E.n, D.nat, E.den, BO.den, UO.den, TO.den, D.toInt_int, D.toList_list, D.ints_ofInts, i64min, i64max, u8min, u8max, u16min, u16max, u32min, u32max, u64min, u64max, i32min, i32max, Om.sub, selI, ints_app, ints_cut, ints_upd, ints_rep, ints_splice, len_ints]
      rw [← p5, ← p7] at hw
      rw [← p5] at hr
      rw [e6]
      and_intros <;> first | omega | (rw [er, hr]; done) | (rw [show (((d 0).toInt + 1).toNat : Int) = (d 0).toInt + 1 by omega, p6]; exact hw)
    · simp only [forgB_h1_0, forgB_h1_2, forgB_h1_3, forgB_h1_4, forgB_h1_5, forgB_h1_6, forgB_h1_7, forgB_h1_8, forgB_h1_9, allTold', dutiesTold, factsA, factsP, factsR, AV.facts, RW.facts, inK, and_true, Q.holds', E.i, E.s, E.n, D.nat, E.den, BO.den, UO.den, TO.den, D.toInt_int, D.toList_list, D.ints_ofInts, i64min, i64max, u8min, u8max, u16min, u16max, u32min, u32max, u64min, u64max, i32min, i32max, Om.sub, selI, ints_app, ints_cut, ints_upd, ints_rep, ints_splice, len_ints]
      omega

def forgCii : LSpec := { n := 113, next := 5, pat := [(12, .sint .i64 (.var 0)), (8, .ptr 1 0), (9, .ptr 3 0), (2, .sslice 5 (.var 4) (.var 5) (.var 6) false), (0, .sslice 7 (.var 24) (.var 25) (.var 26) false), (1, .sslice 9 (.var 34) (.var 35) (.var 36) false)], rows := [(1, .cells 37 0 false false [.bool true, .sint .u8 (.bi .sel (.var 7) (.int 0)), .sint .u8 (.bi .sel (.var 7) (.int 1)), .sint .u8 (.bi .sel (.var 7) (.int 2)), .sint .u8 (.bi .sel (.var 7) (.int 3)), .sint .u8 (.bi .sel (.var 7) (.int 4)), .sint .u8 (.bi .sel (.var 7) (.int 5)), .sint .u8 (.bi .sel (.var 7) (.int 6)), .sint .u8 (.bi .sel (.var 7) (.int 7)), .sint .u8 (.bi .sel (.var 7) (.int 8)), .sint .u8 (.bi .sel (.var 7) (.int 9)), .sint .u8 (.bi .sel (.var 7) (.int 10)), .sint .u8 (.bi .sel (.var 7) (.int 11)), .sint .u8 (.bi .sel (.var 7) (.int 12)), .sint .u8 (.bi .sel (.var 7) (.int 13)), .sint .u8 (.bi .sel (.var 7) (.int 14)), .sint .u8 (.bi .sel (.var 7) (.int 15)), .sint .i64 (.var 8), .sint .u32 (.var 9)]), (3, .cells 37 0 false false [.bool true, .sint .u8 (.bi .sel (.var 17) (.int 0)), .sint .u8 (.bi .sel (.var 17) (.int 1)), .sint .u8 (.bi .sel (.var 17) (.int 2)), .sint .u8 (.bi .sel (.var 17) (.int 3)), .sint .u8 (.bi .sel (.var 17) (.int 4)), .sint .u8 (.bi .sel (.var 17) (.int 5)), .sint .u8 (.bi .sel (.var 17) (.int 6)), .sint .u8 (.bi .sel (.var 17) (.int 7)), .sint .u8 (.bi .sel (.var 17) (.int 8)), .sint .u8 (.bi .sel (.var 17) (.int 9)), .sint .u8 (.bi .sel (.var 17) (.int 10)), .sint .u8 (.bi .sel (.var 17) (.int 11)), .sint .u8 (.bi .sel (.var 17) (.int 12)), .sint .u8 (.bi .sel (.var 17) (.int 13)), .sint .u8 (.bi .sel (.var 17) (.int 14)), .sint .u8 (.bi .sel (.var 17) (.int 15)), .sint .i64 (.var 18), .sint .u32 (.var 19)]), (5, .eseq ⟨.u8, .var 3, .var 2⟩), (7, .eseq ⟨.u8, .var 23, .var 22⟩), (9, .eseq ⟨.u8, .var 33, .var 32⟩)], pre := [(.le (.int 0) (.var 0), true), (.le (.var 0) (.var 5), true), (.le (.bi .add (.var 4) (.var 5)) (.var 3), true), (.le (.var 5) (.int 500), true), (.le (.int 16) (.var 5), true), (.le (.bi .add (.var 24) (.var 25)) (.var 23), true), (.le (.var 25) (.int 500), true), (.le (.bi .add (.var 34) (.var 35)) (.var 33), true), (.le (.var 35) (.int 500), true), (.same (.var 7) (.fn 12 (.bi .pair (.var 22) (.bi .pair (.var 24) (.bi .pair (.var 25) (.bi .pair (.var 2) (.bi .pair (.var 4) (.bi .pair (.var 0) (.int 0)))))))), true), (.eq (.var 8) (.bi .add (.var 25) (.var 0)), true), (.eq (.var 9) (.fn 13 (.bi .pair (.var 22) (.bi .pair (.var 24) (.bi .pair (.var 25) (.bi .pair (.var 2) (.bi .pair (.var 4) (.bi .pair (.var 0) (.int 0)))))))), true), (.same (.var 17) (.fn 12 (.bi .pair (.var 32) (.bi .pair (.var 34) (.bi .pair (.var 35) (.bi .pair (.var 2) (.bi .pair (.var 4) (.bi .pair (.var 0) (.int 0)))))))), true), (.eq (.var 18) (.bi .add (.var 35) (.var 0)), true), (.eq (.var 19) (.fn 13 (.bi .pair (.var 32) (.bi .pair (.var 34) (.bi .pair (.var 35) (.bi .pair (.var 2) (.bi .pair (.var 4) (.bi .pair (.var 0) (.int 0)))))))), true)], x := 4, fin := [(8, .ptr 1 0), (9, .ptr 3 0), (2, .sslice 5 (.var 4) (.var 5) (.var 6) false)], frows := [(1, .cells 37 0 false false [.bool true, .sint .u8 (.bi .sel (.fn 12 (.bi .pair (.var 22) (.bi .pair (.var 24) (.bi .pair (.var 25) (.bi .pair (.var 2) (.bi .pair (.var 4) (.bi .pair (.var 5) (.int 0)))))))) (.int 0)), .sint .u8 (.bi .sel (.fn 12 (.bi .pair (.var 22) (.bi .pair (.var 24) (.bi .pair (.var 25) (.bi .pair (.var 2) (.bi .pair (.var 4) (.bi .pair (.var 5) (.int 0)))))))) (.int 1)), .sint .u8 (.bi .sel (.fn 12 (.bi .pair (.var 22) (.bi .pair (.var 24) (.bi .pair (.var 25) (.bi .pair (.var 2) (.bi .pair (.var 4) (.bi .pair (.var 5) (.int 0)))))))) (.int 2)), .sint .u8 (.bi .sel (.fn 12 (.bi .pair (.var 22) (.bi .pair (.var 24) (.bi .pair (.var 25) (.bi .pair (.var 2) (.bi .pair (.var 4) (.bi .pair (.var 5) (.int 0)))))))) (.int 3)), .sint .u8 (.bi .sel (.fn 12 (.bi .pair (.var 22) (.bi .pair (.var 24) (.bi .pair (.var 25) (.bi .pair (.var 2) (.bi .pair (.var 4) (.bi .pair (.var 5) (.int 0)))))))) (.int 4)), .sint .u8 (.bi .sel (.fn 12 (.bi .pair (.var 22) (.bi .pair (.var 24) (.bi .pair (.var 25) (.bi .pair (.var 2) (.bi .pair (.var 4) (.bi .pair (.var 5) (.int 0)))))))) (.int 5)), .sint .u8 (.bi .sel (.fn 12 (.bi .pair (.var 22) (.bi .pair (.var 24) (.bi .pair (.var 25) (.bi .pair (.var 2) (.bi .pair (.var 4) (.bi .pair (.var 5) (.int 0)))))))) (.int 6)), .sint .u8 (.bi .sel (.fn 12 (.bi .pair (.var 22) (.bi .pair (.var 24) (.bi .pair (.var 25) (.bi .pair (.var 2) (.bi .pair (.var 4) (.bi .pair (.var 5) (.int 0)))))))) (.int 7)), .sint .u8 (.bi .sel (.fn 12 (.bi .pair (.var 22) (.bi .pair (.var 24) (.bi .pair (.var 25) (.bi .pair (.var 2) (.bi .pair (.var 4) (.bi .pair (.var 5) (.int 0)))))))) (.int 8)), .sint .u8 (.bi .sel (.fn 12 (.bi .pair (.var 22) (.bi .pair (.var 24) (.bi .pair (.var 25) (.bi .pair (.var 2) (.bi .pair (.var 4) (.bi .pair (.var 5) (.int 0)))))))) (.int 9)), .sint .u8 (.bi .sel (.fn 12 (.bi .pair (.var 22) (.bi .pair (.var 24) (.bi .pair (.var 25) (.bi .pair (.var 2) (.bi .pair (.var 4) (.bi .pair (.var 5) (.int 0)))))))) (.int 10)), .sint .u8 (.bi .sel (.fn 12 (.bi .pair (.var 22) (.bi .pair (.var 24) (.bi .pair (.var 25) (.bi .pair (.var 2) (.bi .pair (.var 4) (.bi .pair (.var 5) (.int 0)))))))) (.int 11)), .sint .u8 (.bi .sel (.fn 12 (.bi .pair (.var 22) (.bi .pair (.var 24) (.bi .pair (.var 25) (.bi .pair (.var 2) (.bi .pair (.var 4) (.bi .pair (.var 5) (.int 0)))))))) (.int 12)), .sint .u8 (.bi .sel (.fn 12 (.bi .pair (.var 22) (.bi .pair (.var 24) (.bi .pair (.var 25) (.bi .pair (.var 2) (.bi .pair (.var 4) (.bi .pair (.var 5) (.int 0)))))))) (.int 13)), .sint .u8 (.bi .sel (.fn 12 (.bi .pair (.var 22) (.bi .pair (.var 24) (.bi .pair (.var 25) (.bi .pair (.var 2) (.bi .pair (.var 4) (.bi .pair (.var 5) (.int 0)))))))) (.int 14)), .sint .u8 (.bi .sel (.fn 12 (.bi .pair (.var 22) (.bi .pair (.var 24) (.bi .pair (.var 25) (.bi .pair (.var 2) (.bi .pair (.var 4) (.bi .pair (.var 5) (.int 0)))))))) (.int 15)), .sint .i64 (.bi .add (.var 25) (.var 5)), .sint .u32 (.fn 13 (.bi .pair (.var 22) (.bi .pair (.var 24) (.bi .pair (.var 25) (.bi .pair (.var 2) (.bi .pair (.var 4) (.bi .pair (.var 5) (.int 0))))))))]), (3, .cells 37 0 false false [.bool true, .sint .u8 (.bi .sel (.fn 12 (.bi .pair (.var 32) (.bi .pair (.var 34) (.bi .pair (.var 35) (.bi .pair (.var 2) (.bi .pair (.var 4) (.bi .pair (.var 5) (.int 0)))))))) (.int 0)), .sint .u8 (.bi .sel (.fn 12 (.bi .pair (.var 32) (.bi .pair (.var 34) (.bi .pair (.var 35) (.bi .pair (.var 2) (.bi .pair (.var 4) (.bi .pair (.var 5) (.int 0)))))))) (.int 1)), .sint .u8 (.bi .sel (.fn 12 (.bi .pair (.var 32) (.bi .pair (.var 34) (.bi .pair (.var 35) (.bi .pair (.var 2) (.bi .pair (.var 4) (.bi .pair (.var 5) (.int 0)))))))) (.int 2)), .sint .u8 (.bi .sel (.fn 12 (.bi .pair (.var 32) (.bi .pair (.var 34) (.bi .pair (.var 35) (.bi .pair (.var 2) (.bi .pair (.var 4) (.bi .pair (.var 5) (.int 0)))))))) (.int 3)), .sint .u8 (.bi .sel (.fn 12 (.bi .pair (.var 32) (.bi .pair (.var 34) (.bi .pair (.var 35) (.bi .pair (.var 2) (.bi .pair (.var 4) (.bi .pair (.var 5) (.int 0)))))))) (.int 4)), .sint .u8 (.bi .sel (.fn 12 (.bi .pair (.var 32) (.bi .pair (.var 34) (.bi .pair (.var 35) (.bi .pair (.var 2) (.bi .pair (.var 4) (.bi .pair (.var 5) (.int 0)))))))) (.int 5)), .sint .u8 (.bi .sel (.fn 12 (.bi .pair (.var 32) (.bi .pair (.var 34) (.bi .pair (.var 35) (.bi .pair (.var 2) (.bi .pair (.var 4) (.bi .pair (.var 5) (.int 0)))))))) (.int 6)), .sint .u8 (.bi .sel (.fn 12 (.bi .pair (.var 32) (.bi .pair (.var 34) (.bi .pair (.var 35) (.bi .pair (.var 2) (.bi .pair (.var 4) (.bi .pair (.var 5) (.int 0)))))))) (.int 7)), .sint .u8 (.bi .sel (.fn 12 (.bi .pair (.var 32) (.bi .pair (.var 34) (.bi .pair (.var 35) (.bi .pair (.var 2) (.bi .pair (.var 4) (.bi .pair (.var 5) (.int 0)))))))) (.int 8)), .sint .u8 (.bi .sel (.fn 12 (.bi .pair (.var 32) (.bi .pair (.var 34) (.bi .pair (.var 35) (.bi .pair (.var 2) (.bi .pair (.var 4) (.bi .pair (.var 5) (.int 0)))))))) (.int 9)), .sint .u8 (.bi .sel (.fn 12 (.bi .pair (.var 32) (.bi .pair (.var 34) (.bi .pair (.var 35) (.bi .pair (.var 2) (.bi .pair (.var 4) (.bi .pair (.var 5) (.int 0)))))))) (.int 10)), .sint .u8 (.bi .sel (.fn 12 (.bi .pair (.var 32) (.bi .pair (.var 34) (.bi .pair (.var 35) (.bi .pair (.var 2) (.bi .pair (.var 4) (.bi .pair (.var 5) (.int 0)))))))) (.int 11)), .sint .u8 (.bi .sel (.fn 12 (.bi .pair (.var 32) (.bi .pair (.var 34) (.bi .pair (.var 35) (.bi .pair (.var 2) (.bi .pair (.var 4) (.bi .pair (.var 5) (.int 0)))))))) (.int 12)), .sint .u8 (.bi .sel (.fn 12 (.bi .pair (.var 32) (.bi .pair (.var 34) (.bi .pair (.var 35) (.bi .pair (.var 2) (.bi .pair (.var 4) (.bi .pair (.var 5) (.int 0)))))))) (.int 13)), .sint .u8 (.bi .sel (.fn 12 (.bi .pair (.var 32) (.bi .pair (.var 34) (.bi .pair (.var 35) (.bi .pair (.var 2) (.bi .pair (.var 4) (.bi .pair (.var 5) (.int 0)))))))) (.int 14)), .sint .u8 (.bi .sel (.fn 12 (.bi .pair (.var 32) (.bi .pair (.var 34) (.bi .pair (.var 35) (.bi .pair (.var 2) (.bi .pair (.var 4) (.bi .pair (.var 5) (.int 0)))))))) (.int 15)), .sint .i64 (.bi .add (.var 35) (.var 5)), .sint .u32 (.fn 13 (.bi .pair (.var 32) (.bi .pair (.var 34) (.bi .pair (.var 35) (.bi .pair (.var 2) (.bi .pair (.var 4) (.bi .pair (.var 5) (.int 0))))))))])], same := [1, 3, 5], chg := [0, 1, 2, 8, 9, 12, 13, 14, 67, 68, 69, 70, 71, 72, 73, 74, 75, 76, 77, 78, 79, 80, 81, 82, 83, 84, 85, 86, 87, 88, 89, 90, 91, 92] }
def forgCii_t0 : List (Q × Bool) := [((.fit .i64 (.var 5)), true),
  ((.le (.var 5) (.var 0)), true)]
def forgCii_d0 : List Duty := [(true, (.bi .sel (.var 7) (.int 0)), (.bi .sel (.fn 12 (.bi .pair (.var 22) (.bi .pair (.var 24) (.bi .pair (.var 25) (.bi .pair (.var 2) (.bi .pair (.var 4) (.bi .pair (.var 5) (.int 0)))))))) (.int 0))), (true, (.bi .sel (.var 7) (.int 1)), (.bi .sel (.fn 12 (.bi .pair (.var 22) (.bi .pair (.var 24) (.bi .pair (.var 25) (.bi .pair (.var 2) (.bi .pair (.var 4) (.bi .pair (.var 5) (.int 0)))))))) (.int 1))), (true, (.bi .sel (.var 7) (.int 2)), (.bi .sel (.fn 12 (.bi .pair (.var 22) (.bi .pair (.var 24) (.bi .pair (.var 25) (.bi .pair (.var 2) (.bi .pair (.var 4) (.bi .pair (.var 5) (.int 0)))))))) (.int 2))), (true, (.bi .sel (.var 7) (.int 3)), (.bi .sel (.fn 12 (.bi .pair (.var 22) (.bi .pair (.var 24) (.bi .pair (.var 25) (.bi .pair (.var 2) (.bi .pair (.var 4) (.bi .pair (.var 5) (.int 0)))))))) (.int 3))), (true, (.bi .sel (.var 7) (.int 4)), (.bi .sel (.fn 12 (.bi .pair (.var 22) (.bi .pair (.var 24) (.bi .pair (.var 25) (.bi .pair (.var 2) (.bi .pair (.var 4) (.bi .pair (.var 5) (.int 0)))))))) (.int 4))), (true, (.bi .sel (.var 7) (.int 5)), (.bi .sel (.fn 12 (.bi .pair (.var 22) (.bi .pair (.var 24) (.bi .pair (.var 25) (.bi .pair (.var 2) (.bi .pair (.var 4) (.bi .pair (.var 5) (.int 0)))))))) (.int 5))), (true, (.bi .sel (.var 7) (.int 6)), (.bi .sel (.fn 12 (.bi .pair (.var 22) (.bi .pair (.var 24) (.bi .pair (.var 25) (.bi .pair (.var 2) (.bi .pair (.var 4) (.bi .pair (.var 5) (.int 0)))))))) (.int 6))), (true, (.bi .sel (.var 7) (.int 7)), (.bi .sel (.fn 12 (.bi .pair (.var 22) (.bi .pair (.var 24) (.bi .pair (.var 25) (.bi .pair (.var 2) (.bi .pair (.var 4) (.bi .pair (.var 5) (.int 0)))))))) (.int 7))), (true, (.bi .sel (.var 7) (.int 8)), (.bi .sel (.fn 12 (.bi .pair (.var 22) (.bi .pair (.var 24) (.bi .pair (.var 25) (.bi .pair (.var 2) (.bi .pair (.var 4) (.bi .pair (.var 5) (.int 0)))))))) (.int 8))), (true, (.bi .sel (.var 7) (.int 9)), (.bi .sel (.fn 12 (.bi .pair (.var 22) (.bi .pair (.var 24) (.bi .pair (.var 25) (.bi .pair (.var 2) (.bi .pair (.var 4) (.bi .pair (.var 5) (.int 0)))))))) (.int 9))), (true, (.bi .sel (.var 7) (.int 10)), (.bi .sel (.fn 12 (.bi .pair (.var 22) (.bi .pair (.var 24) (.bi .pair (.var 25) (.bi .pair (.var 2) (.bi .pair (.var 4) (.bi .pair (.var 5) (.int 0)))))))) (.int 10))), (true, (.bi .sel (.var 7) (.int 11)), (.bi .sel (.fn 12 (.bi .pair (.var 22) (.bi .pair (.var 24) (.bi .pair (.var 25) (.bi .pair (.var 2) (.bi .pair (.var 4) (.bi .pair (.var 5) (.int 0)))))))) (.int 11))), (true, (.bi .sel (.var 7) (.int 12)), (.bi .sel (.fn 12 (.bi .pair (.var 22) (.bi .pair (.var 24) (.bi .pair (.var 25) (.bi .pair (.var 2) (.bi .pair (.var 4) (.bi .pair (.var 5) (.int 0)))))))) (.int 12))), (true, (.bi .sel (.var 7) (.int 13)), (.bi .sel (.fn 12 (.bi .pair (.var 22) (.bi .pair (.var 24) (.bi .pair (.var 25) (.bi .pair (.var 2) (.bi .pair (.var 4) (.bi .pair (.var 5) (.int 0)))))))) (.int 13))), (true, (.bi .sel (.var 7) (.int 14)), (.bi .sel (.fn 12 (.bi .pair (.var 22) (.bi .pair (.var 24) (.bi .pair (.var 25) (.bi .pair (.var 2) (.bi .pair (.var 4) (.bi .pair (.var 5) (.int 0)))))))) (.int 14))), (true, (.bi .sel (.var 7) (.int 15)), (.bi .sel (.fn 12 (.bi .pair (.var 22) (.bi .pair (.var 24) (.bi .pair (.var 25) (.bi .pair (.var 2) (.bi .pair (.var 4) (.bi .pair (.var 5) (.int 0)))))))) (.int 15))), (true, (.var 8), (.bi .add (.var 25) (.var 5))), (true, (.var 9), (.fn 13 (.bi .pair (.var 22) (.bi .pair (.var 24) (.bi .pair (.var 25) (.bi .pair (.var 2) (.bi .pair (.var 4) (.bi .pair (.var 5) (.int 0))))))))), (true, (.bi .sel (.var 17) (.int 0)), (.bi .sel (.fn 12 (.bi .pair (.var 32) (.bi .pair (.var 34) (.bi .pair (.var 35) (.bi .pair (.var 2) (.bi .pair (.var 4) (.bi .pair (.var 5) (.int 0)))))))) (.int 0))), (true, (.bi .sel (.var 17) (.int 1)), (.bi .sel (.fn 12 (.bi .pair (.var 32) (.bi .pair (.var 34) (.bi .pair (.var 35) (.bi .pair (.var 2) (.bi .pair (.var 4) (.bi .pair (.var 5) (.int 0)))))))) (.int 1))), (true, (.bi .sel (.var 17) (.int 2)), (.bi .sel (.fn 12 (.bi .pair (.var 32) (.bi .pair (.var 34) (.bi .pair (.var 35) (.bi .pair (.var 2) (.bi .pair (.var 4) (.bi .pair (.var 5) (.int 0)))))))) (.int 2))), (true, (.bi .sel (.var 17) (.int 3)), (.bi .sel (.fn 12 (.bi .pair (.var 32) (.bi .pair (.var 34) (.bi .pair (.var 35) (.bi .pair (.var 2) (.bi .pair (.var 4) (.bi .pair (.var 5) (.int 0)))))))) (.int 3))), (true, (.bi .sel (.var 17) (.int 4)), (.bi .sel (.fn 12 (.bi .pair (.var 32) (.bi .pair (.var 34) (.bi .pair (.var 35) (.bi .pair (.var 2) (.bi .pair (.var 4) (.bi .pair (.var 5) (.int 0)))))))) (.int 4))), (true, (.bi .sel (.var 17) (.int 5)), (.bi .sel (.fn 12 (.bi .pair (.var 32) (.bi .pair (.var 34) (.bi .pair (.var 35) (.bi .pair (.var 2) (.bi .pair (.var 4) (.bi .pair (.var 5) (.int 0)))))))) (.int 5))), (true, (.bi .sel (.var 17) (.int 6)), (.bi .sel (.fn 12 (.bi .pair (.var 32) (.bi .pair (.var 34) (.bi .pair (.var 35) (.bi .pair (.var 2) (.bi .pair (.var 4) (.bi .pair (.var 5) (.int 0)))))))) (.int 6))), (true, (.bi .sel (.var 17) (.int 7)), (.bi .sel (.fn 12 (.bi .pair (.var 32) (.bi .pair (.var 34) (.bi .pair (.var 35) (.bi .pair (.var 2) (.bi .pair (.var 4) (.bi .pair (.var 5) (.int 0)))))))) (.int 7))), (true, (.bi .sel (.var 17) (.int 8)), (.bi .sel (.fn 12 (.bi .pair (.var 32) (.bi .pair (.var 34) (.bi .pair (.var 35) (.bi .pair (.var 2) (.bi .pair (.var 4) (.bi .pair (.var 5) (.int 0)))))))) (.int 8))), (true, (.bi .sel (.var 17) (.int 9)), (.bi .sel (.fn 12 (.bi .pair (.var 32) (.bi .pair (.var 34) (.bi .pair (.var 35) (.bi .pair (.var 2) (.bi .pair (.var 4) (.bi .pair (.var 5) (.int 0)))))))) (.int 9))), (true, (.bi .sel (.var 17) (.int 10)), (.bi .sel (.fn 12 (.bi .pair (.var 32) (.bi .pair (.var 34) (.bi .pair (.var 35) (.bi .pair (.var 2) (.bi .pair (.var 4) (.bi .pair (.var 5) (.int 0)))))))) (.int 10))), (true, (.bi .sel (.var 17) (.int 11)), (.bi .sel (.fn 12 (.bi .pair (.var 32) (.bi .pair (.var 34) (.bi .pair (.var 35) (.bi .pair (.var 2) (.bi .pair (.var 4) (.bi .pair (.var 5) (.int 0)))))))) (.int 11))), (true, (.bi .sel (.var 17) (.int 12)), (.bi .sel (.fn 12 (.bi .pair (.var 32) (.bi .pair (.var 34) (.bi .pair (.var 35) (.bi .pair (.var 2) (.bi .pair (.var 4) (.bi .pair (.var 5) (.int 0)))))))) (.int 12))), (true, (.bi .sel (.var 17) (.int 13)), (.bi .sel (.fn 12 (.bi .pair (.var 32) (.bi .pair (.var 34) (.bi .pair (.var 35) (.bi .pair (.var 2) (.bi .pair (.var 4) (.bi .pair (.var 5) (.int 0)))))))) (.int 13))), (true, (.bi .sel (.var 17) (.int 14)), (.bi .sel (.fn 12 (.bi .pair (.var 32) (.bi .pair (.var 34) (.bi .pair (.var 35) (.bi .pair (.var 2) (.bi .pair (.var 4) (.bi .pair (.var 5) (.int 0)))))))) (.int 14))), (true, (.bi .sel (.var 17) (.int 15)), (.bi .sel (.fn 12 (.bi .pair (.var 32) (.bi .pair (.var 34) (.bi .pair (.var 35) (.bi .pair (.var 2) (.bi .pair (.var 4) (.bi .pair (.var 5) (.int 0)))))))) (.int 15))), (true, (.var 18), (.bi .add (.var 35) (.var 5))), (true, (.var 19), (.fn 13 (.bi .pair (.var 32) (.bi .pair (.var 34) (.bi .pair (.var 35) (.bi .pair (.var 2) (.bi .pair (.var 4) (.bi .pair (.var 5) (.int 0)))))))))]
theorem forgCii_y0 : endD forgCii [(9, 9), (7, 7), (5, 5), (3, 3), (1, 1)] 1000 (roundC Try.prog [] [(22, pushC)] [] 3000 40 7 [4, 1, 0, 1, 1, 1, 1, 1, 1, 1] (tellA forgCii_t0) forgCii) = some forgCii_d0 := by kernel_rfl
def forgCii_t1 : List (Q × Bool) := [((.fit .i64 (.var 5)), true),
  ((.le (.var 5) (.var 0)), false),
  ((.le (.int 0) (.var 0)), true),
  ((.le (.int 0) (.bi .add (.var 4) (.var 0))), true),
  ((.le (.var 3) (.bi .add (.var 4) (.var 0))), false),
  ((.le (.int 16) (.un .len (.var 7))), true),
  ((.le (.int 0) (.var 8)), true),
  ((.le (.var 8) (.int 1000000)), true),
  ((.le (.int 16) (.un .len (.var 17))), true),
  ((.le (.int 0) (.var 18)), true),
  ((.le (.var 18) (.int 1000000)), true),
  ((.fit .i64 (.bi .add (.var 0) (.int 1))), true),
  ((.le (.int 16) (.bi .add (.var 0) (.int 1))), true),
  ((.eq (.fn 15 (.bi .pair (.var 9) (.bi .pair (.var 8) (.bi .pair (.var 7) (.bi .pair (.bi .sel (.var 2) (.bi .add (.var 4) (.var 0))) (.int 0)))))) (.fn 15 (.bi .pair (.var 19) (.bi .pair (.var 18) (.bi .pair (.var 17) (.bi .pair (.bi .sel (.var 2) (.bi .add (.var 4) (.var 0))) (.int 0))))))), true)]
def forgCii_d1 : List Duty := []
def forgCii_h1 : List (Nat × E) := [(33, (.var 33)), (32, (.var 32)), (23, (.var 23)), (22, (.var 22)), (3, (.var 3)), (2, (.var 2)), (19, (.fn 15 (.bi .pair (.var 19) (.bi .pair (.var 18) (.bi .pair (.var 17) (.bi .pair (.bi .sel (.var 2) (.bi .add (.var 4) (.var 0))) (.int 0))))))), (18, (.bi .add (.var 18) (.int 1))), (17, (.tr .upd (.var 17) (.bi (.iop .rem .i64) (.var 18) (.int 16)) (.bi .sel (.var 2) (.bi .add (.var 4) (.var 0))))), (9, (.fn 15 (.bi .pair (.var 9) (.bi .pair (.var 8) (.bi .pair (.var 7) (.bi .pair (.bi .sel (.var 2) (.bi .add (.var 4) (.var 0))) (.int 0))))))), (8, (.bi .add (.var 8) (.int 1))), (7, (.tr .upd (.var 7) (.bi (.iop .rem .i64) (.var 8) (.int 16)) (.bi .sel (.var 2) (.bi .add (.var 4) (.var 0))))), (34, (.var 34)), (35, (.var 35)), (36, (.var 36)), (24, (.var 24)), (25, (.var 25)), (26, (.var 26)), (4, (.var 4)), (5, (.var 5)), (6, (.var 6)), (0, (.bi .add (.var 0) (.int 1)))]
theorem forgCii_h1_0 : lookE forgCii_h1 0 = (.bi .add (.var 0) (.int 1)) := rfl
theorem forgCii_h1_2 : lookE forgCii_h1 2 = (.var 2) := rfl
theorem forgCii_h1_3 : lookE forgCii_h1 3 = (.var 3) := rfl
theorem forgCii_h1_4 : lookE forgCii_h1 4 = (.var 4) := rfl
theorem forgCii_h1_5 : lookE forgCii_h1 5 = (.var 5) := rfl
theorem forgCii_h1_6 : lookE forgCii_h1 6 = (.var 6) := rfl
theorem forgCii_h1_7 : lookE forgCii_h1 7 = (.tr .upd (.var 7) (.bi (.iop .rem .i64) (.var 8) (.int 16)) (.bi .sel (.var 2) (.bi .add (.var 4) (.var 0)))) := rfl
theorem forgCii_h1_8 : lookE forgCii_h1 8 = (.bi .add (.var 8) (.int 1)) := rfl
theorem forgCii_h1_9 : lookE forgCii_h1 9 = (.fn 15 (.bi .pair (.var 9) (.bi .pair (.var 8) (.bi .pair (.var 7) (.bi .pair (.bi .sel (.var 2) (.bi .add (.var 4) (.var 0))) (.int 0)))))) := rfl
theorem forgCii_h1_17 : lookE forgCii_h1 17 = (.tr .upd (.var 17) (.bi (.iop .rem .i64) (.var 18) (.int 16)) (.bi .sel (.var 2) (.bi .add (.var 4) (.var 0)))) := rfl
theorem forgCii_h1_18 : lookE forgCii_h1 18 = (.bi .add (.var 18) (.int 1)) := rfl
theorem forgCii_h1_19 : lookE forgCii_h1 19 = (.fn 15 (.bi .pair (.var 19) (.bi .pair (.var 18) (.bi .pair (.var 17) (.bi .pair (.bi .sel (.var 2) (.bi .add (.var 4) (.var 0))) (.int 0)))))) := rfl
theorem forgCii_h1_22 : lookE forgCii_h1 22 = (.var 22) := rfl
theorem forgCii_h1_23 : lookE forgCii_h1 23 = (.var 23) := rfl
theorem forgCii_h1_24 : lookE forgCii_h1 24 = (.var 24) := rfl
theorem forgCii_h1_25 : lookE forgCii_h1 25 = (.var 25) := rfl
theorem forgCii_h1_26 : lookE forgCii_h1 26 = (.var 26) := rfl
theorem forgCii_h1_32 : lookE forgCii_h1 32 = (.var 32) := rfl
theorem forgCii_h1_33 : lookE forgCii_h1 33 = (.var 33) := rfl
theorem forgCii_h1_34 : lookE forgCii_h1 34 = (.var 34) := rfl
theorem forgCii_h1_35 : lookE forgCii_h1 35 = (.var 35) := rfl
theorem forgCii_h1_36 : lookE forgCii_h1 36 = (.var 36) := rfl
theorem forgCii_y1 : nextD forgCii forgCii_h1 [(9, 9), (7, 7), (5, 5), (3, 3), (1, 1)] (roundC Try.prog [] [(22, pushC)] [] 3000 40 7 [4, 1, 0, 1, 1, 1, 1, 1, 1, 1] (tellA forgCii_t1) forgCii) = some forgCii_d1 := by kernel_rfl
def forgCii_t2 : List (Q × Bool) := [((.fit .i64 (.var 5)), true),
  ((.le (.var 5) (.var 0)), false),
  ((.le (.int 0) (.var 0)), true),
  ((.le (.int 0) (.bi .add (.var 4) (.var 0))), true),
  ((.le (.var 3) (.bi .add (.var 4) (.var 0))), false),
  ((.le (.int 16) (.un .len (.var 7))), true),
  ((.le (.int 0) (.var 8)), true),
  ((.le (.var 8) (.int 1000000)), true),
  ((.le (.int 16) (.un .len (.var 17))), true),
  ((.le (.int 0) (.var 18)), true),
  ((.le (.var 18) (.int 1000000)), true),
  ((.fit .i64 (.bi .add (.var 0) (.int 1))), true),
  ((.le (.int 16) (.bi .add (.var 0) (.int 1))), false)]
def forgCii_d2 : List Duty := []
def forgCii_h2 : List (Nat × E) := [(33, (.var 33)), (32, (.var 32)), (23, (.var 23)), (22, (.var 22)), (3, (.var 3)), (2, (.var 2)), (19, (.fn 15 (.bi .pair (.var 19) (.bi .pair (.var 18) (.bi .pair (.var 17) (.bi .pair (.bi .sel (.var 2) (.bi .add (.var 4) (.var 0))) (.int 0))))))), (18, (.bi .add (.var 18) (.int 1))), (17, (.tr .upd (.var 17) (.bi (.iop .rem .i64) (.var 18) (.int 16)) (.bi .sel (.var 2) (.bi .add (.var 4) (.var 0))))), (9, (.fn 15 (.bi .pair (.var 9) (.bi .pair (.var 8) (.bi .pair (.var 7) (.bi .pair (.bi .sel (.var 2) (.bi .add (.var 4) (.var 0))) (.int 0))))))), (8, (.bi .add (.var 8) (.int 1))), (7, (.tr .upd (.var 7) (.bi (.iop .rem .i64) (.var 8) (.int 16)) (.bi .sel (.var 2) (.bi .add (.var 4) (.var 0))))), (34, (.var 34)), (35, (.var 35)), (36, (.var 36)), (24, (.var 24)), (25, (.var 25)), (26, (.var 26)), (4, (.var 4)), (5, (.var 5)), (6, (.var 6)), (0, (.bi .add (.var 0) (.int 1)))]
theorem forgCii_h2_0 : lookE forgCii_h2 0 = (.bi .add (.var 0) (.int 1)) := rfl
theorem forgCii_h2_2 : lookE forgCii_h2 2 = (.var 2) := rfl
theorem forgCii_h2_3 : lookE forgCii_h2 3 = (.var 3) := rfl
theorem forgCii_h2_4 : lookE forgCii_h2 4 = (.var 4) := rfl
theorem forgCii_h2_5 : lookE forgCii_h2 5 = (.var 5) := rfl
theorem forgCii_h2_6 : lookE forgCii_h2 6 = (.var 6) := rfl
theorem forgCii_h2_7 : lookE forgCii_h2 7 = (.tr .upd (.var 7) (.bi (.iop .rem .i64) (.var 8) (.int 16)) (.bi .sel (.var 2) (.bi .add (.var 4) (.var 0)))) := rfl
theorem forgCii_h2_8 : lookE forgCii_h2 8 = (.bi .add (.var 8) (.int 1)) := rfl
theorem forgCii_h2_9 : lookE forgCii_h2 9 = (.fn 15 (.bi .pair (.var 9) (.bi .pair (.var 8) (.bi .pair (.var 7) (.bi .pair (.bi .sel (.var 2) (.bi .add (.var 4) (.var 0))) (.int 0)))))) := rfl
theorem forgCii_h2_17 : lookE forgCii_h2 17 = (.tr .upd (.var 17) (.bi (.iop .rem .i64) (.var 18) (.int 16)) (.bi .sel (.var 2) (.bi .add (.var 4) (.var 0)))) := rfl
theorem forgCii_h2_18 : lookE forgCii_h2 18 = (.bi .add (.var 18) (.int 1)) := rfl
theorem forgCii_h2_19 : lookE forgCii_h2 19 = (.fn 15 (.bi .pair (.var 19) (.bi .pair (.var 18) (.bi .pair (.var 17) (.bi .pair (.bi .sel (.var 2) (.bi .add (.var 4) (.var 0))) (.int 0)))))) := rfl
theorem forgCii_h2_22 : lookE forgCii_h2 22 = (.var 22) := rfl
theorem forgCii_h2_23 : lookE forgCii_h2 23 = (.var 23) := rfl
theorem forgCii_h2_24 : lookE forgCii_h2 24 = (.var 24) := rfl
theorem forgCii_h2_25 : lookE forgCii_h2 25 = (.var 25) := rfl
theorem forgCii_h2_26 : lookE forgCii_h2 26 = (.var 26) := rfl
theorem forgCii_h2_32 : lookE forgCii_h2 32 = (.var 32) := rfl
theorem forgCii_h2_33 : lookE forgCii_h2 33 = (.var 33) := rfl
theorem forgCii_h2_34 : lookE forgCii_h2 34 = (.var 34) := rfl
theorem forgCii_h2_35 : lookE forgCii_h2 35 = (.var 35) := rfl
theorem forgCii_h2_36 : lookE forgCii_h2 36 = (.var 36) := rfl
theorem forgCii_y2 : nextD forgCii forgCii_h2 [(9, 9), (7, 7), (5, 5), (3, 3), (1, 1)] (roundC Try.prog [] [(22, pushC)] [] 3000 40 7 [4, 1, 0, 1, 1, 1, 1, 1, 1, 1] (tellA forgCii_t2) forgCii) = some forgCii_d2 := by kernel_rfl
theorem forgCii_holds : LHolds Try.prog (loopAt Try.prog 7 [4, 1, 0, 1, 1, 1, 1, 1, 1, 1]) forgCii F := by
  refine loop_roundsC sound (tableNil _ _) (specsCons pushC_holds (specsNil _ _)) (oversNil _ _) (fuel := 3000) (depth := 40) (by kernel_rfl) (by kernel_rfl) (by kernel_rfl) (fun d => ((d 5).toInt - (d 0).toInt).toNat) fun d hp hR hA => ?_
  have hp := allTold'_iff.2 hp
  simp only [forgCii, allTold', dutiesTold, factsA, factsP, factsR, AV.facts, RW.facts, inK, and_true, Q.holds', E.i, E.s, E.n, D.nat, E.den, BO.den, UO.den, TO.den, D.toInt_int, D.toList_list, D.ints_ofInts, i64min, i64max, u8min, u8max, u16min, u16max, u32min, u32max, u64min, u64max, i32min, i32max, Om.sub, selI, ints_app, ints_cut, ints_upd, ints_rep, ints_splice, len_ints] at hp hR hA
  simp only [F12, F13, D.toInt_int, D.ints_ofInts, Int.zero_add] at hp
  obtain ⟨p0, p1, p2, p3, p4, p5, p6, p7, p8, kA, cA, uA, kB, cB, uB⟩ := hp
  have elA : ((d 7).ints.length : Nat) = 16 := by rw [kA, ringL_len]
  have elB : ((d 17).ints.length : Nat) = 16 := by rw [kB, ringL_len]
  by_cases h : (d 5).toInt ≤ (d 0).toInt
  · have e5 : (d 5).toInt = (d 0).toInt := by omega
    refine ⟨tellA forgCii_t0, tellA_ok (allTold'_iff.1 ?_), .inl ⟨_, _, _, forgCii_y0, dutiesTold_ok ?_⟩⟩
    · simp only [forgCii_t0, allTold', dutiesTold, factsA, factsP, factsR, AV.facts, RW.facts, inK, and_true, Q.holds', E.i, E.s, E.n, D.nat, E.den, BO.den, UO.den, TO.den, D.toInt_int, D.toList_list, D.ints_ofInts, i64min, i64max, u8min, u8max, u16min, u16max, u32min, u32max, u64min, u64max, i32min, i32max, Om.sub, selI, ints_app, ints_cut, ints_upd, ints_rep, ints_splice, len_ints]
      omega
    · simp only [forgCii_d0, F12, F13, Int.zero_add, allTold', dutiesTold, factsA, factsP, factsR, AV.facts, RW.facts, inK, and_true, Q.holds', E.i, E.s, E.n, D.nat, E.den, BO.den, UO.den, TO.den, D.toInt_int, D.toList_list, D.ints_ofInts, i64min, i64max, u8min, u8max, u16min, u16max, u32min, u32max, u64min, u64max, i32min, i32max, Om.sub, selI, ints_app, ints_cut, ints_upd, ints_rep, ints_splice, len_ints]
      rw [e5]
      and_intros <;> first | omega | (rw [kA]; done) | (rw [kB]; done) | exact cA | exact cB | exact uA | exact uB | rfl
  · have lA := two_len (x := (d 22).ints) (y := (d 2).ints) (o := (d 24).toInt) (n := (d 25).toInt) (p := (d 4).toInt) (m := (d 0).toInt) (by omega) (by omega) (by omega) (by omega) (by omega) (by omega)
    have sA := two_step (x := (d 22).ints) (y := (d 2).ints) (o := (d 24).toInt) (n := (d 25).toInt) (p := (d 4).toInt) (m := (d 0).toInt) (by omega) (by omega) (by omega)
    have wA := winL_snoc (twoI (d 22).ints (d 24).toInt (d 25).toInt (d 2).ints (d 4).toInt (d 0).toInt) (((d 2).ints[((d 4).toInt + (d 0).toInt).toNat]?).getD 0)
    have rA := ringL_snoc (twoI (d 22).ints (d 24).toInt (d 25).toInt (d 2).ints (d 4).toInt (d 0).toInt) (((d 2).ints[((d 4).toInt + (d 0).toInt).toNat]?).getD 0)
    rw [← sA, lA] at wA
    rw [← sA, show (twoI (d 22).ints (d 24).toInt (d 25).toInt (d 2).ints (d 4).toInt (d 0).toInt).length % 16 = (((d 25).toInt + (d 0).toInt) % 16).toNat by omega] at rA
    have mA : iopI .rem .i64 (d 8).toInt 16 = ((d 25).toInt + (d 0).toInt) % 16 := by rw [cA, rem_emod _ (by omega)]; try omega
    rw [← kA, ← uA] at wA
    rw [← kA] at rA
    have lB := two_len (x := (d 32).ints) (y := (d 2).ints) (o := (d 34).toInt) (n := (d 35).toInt) (p := (d 4).toInt) (m := (d 0).toInt) (by omega) (by omega) (by omega) (by omega) (by omega) (by omega)
    have sB := two_step (x := (d 32).ints) (y := (d 2).ints) (o := (d 34).toInt) (n := (d 35).toInt) (p := (d 4).toInt) (m := (d 0).toInt) (by omega) (by omega) (by omega)
    have wB := winL_snoc (twoI (d 32).ints (d 34).toInt (d 35).toInt (d 2).ints (d 4).toInt (d 0).toInt) (((d 2).ints[((d 4).toInt + (d 0).toInt).toNat]?).getD 0)
    have rB := ringL_snoc (twoI (d 32).ints (d 34).toInt (d 35).toInt (d 2).ints (d 4).toInt (d 0).toInt) (((d 2).ints[((d 4).toInt + (d 0).toInt).toNat]?).getD 0)
    rw [← sB, lB] at wB
    rw [← sB, show (twoI (d 32).ints (d 34).toInt (d 35).toInt (d 2).ints (d 4).toInt (d 0).toInt).length % 16 = (((d 35).toInt + (d 0).toInt) % 16).toNat by omega] at rB
    have mB : iopI .rem .i64 (d 18).toInt 16 = ((d 35).toInt + (d 0).toInt) % 16 := by rw [cB, rem_emod _ (by omega)]; try omega
    rw [← kB, ← uB] at wB
    rw [← kB] at rB
    try simp only [Int.zero_add] at wA wB rA rB mA mB
    by_cases g : 16 ≤ (d 0).toInt + 1
    · have zA := win_two (x := (d 22).ints) (y := (d 2).ints) (o := (d 24).toInt) (n := (d 25).toInt) (p := (d 4).toInt) (m := (d 0).toInt + 1) (by omega) (by omega) (by omega) (by omega) (by omega) (by omega)
      have zB := win_two (x := (d 32).ints) (y := (d 2).ints) (o := (d 34).toInt) (n := (d 35).toInt) (p := (d 4).toInt) (m := (d 0).toInt + 1) (by omega) (by omega) (by omega) (by omega) (by omega) (by omega)
      rw [← wA] at zA
      rw [← wB] at zB
      have zz := zA.trans zB.symm
      refine ⟨tellA forgCii_t1, tellA_ok (allTold'_iff.1 ?_), .inr ⟨forgCii_h1, _, _, forgCii_y1, dutiesTold_ok ?_, allTold'_iff.1 ?_, ?_⟩⟩
      · simp only [forgCii_t1, F15, Int.zero_add, allTold', dutiesTold, factsA, factsP, factsR, AV.facts, RW.facts, inK, and_true, Q.holds', E.i, E.s, E.n, D.nat, E.den, BO.den, UO.den, TO.den, D.toInt_int, D.toList_list, D.ints_ofInts, i64min, i64max, u8min, u8max, u16min, u16max, u32min, u32max, u64min, u64max, i32min, i32max, Om.sub, selI, ints_app, ints_cut, ints_upd, ints_rep, ints_splice, len_ints]
        rw [cA, cB]
        omega
      · simp only [forgCii_d1, F12, F13, F15, allTold', dutiesTold, factsA, factsP, factsR, AV.facts, RW.facts, inK, and_true, Q.holds', E.i, E.s, E.n, D.nat, E.den, BO.den, UO.den, TO.den, D.toInt_int, D.toList_list, D.ints_ofInts, i64min, i64max, u8min, u8max, u16min, u16max, u32min, u32max, u64min, u64max, i32min, i32max, Om.sub, selI, ints_app, ints_cut, ints_upd, ints_rep, ints_splice, len_ints]
        try trivial
      · simp only [forgCii, forgCii_h1_0, forgCii_h1_2, forgCii_h1_3, forgCii_h1_4, forgCii_h1_5, forgCii_h1_6, forgCii_h1_7, forgCii_h1_8, forgCii_h1_9, forgCii_h1_17, forgCii_h1_18, forgCii_h1_19, forgCii_h1_22, forgCii_h1_23, forgCii_h1_24, forgCii_h1_25, forgCii_h1_26, forgCii_h1_32, forgCii_h1_33, forgCii_h1_34, forgCii_h1_35, forgCii_h1_36, F12, F13, F15, Int.zero_add, allTold', dutiesTold, factsA, factsP, factsR, AV.facts, RW.facts, inK, and_true, Q.holds', E.i, E.s, E.n, D.nat, E.den, BO.den, UO.den, TO.den, D.toInt_int, D.toList_list, D.ints_ofInts, i64min, i64max, u8min, u8max, u16min, u16max, u32min, u32max, u64min, u64max, i32min, i32max, Om.sub, selI, ints_app, ints_cut, ints_upd, ints_rep, ints_splice, len_ints]
        and_intros <;> first | omega | (rw [mA, rA]; done) | (rw [mB, rB]; done) | (rw [cA]; exact wA) | (rw [cB]; exact wB) | rfl
      · simp only [forgCii_h1_0, forgCii_h1_2, forgCii_h1_3, forgCii_h1_4, forgCii_h1_5, forgCii_h1_6, forgCii_h1_7, forgCii_h1_8, forgCii_h1_9, forgCii_h1_17, forgCii_h1_18, forgCii_h1_19, forgCii_h1_22, forgCii_h1_23, forgCii_h1_24, forgCii_h1_25, forgCii_h1_26, forgCii_h1_32, forgCii_h1_33, forgCii_h1_34, forgCii_h1_35, forgCii_h1_36, allTold', dutiesTold, factsA, factsP, factsR, AV.facts, RW.facts, inK, and_true, Q.holds', E.i, E.s, E.n, D.nat, E.den, BO.den, UO.den, TO.den, D.toInt_int, D.toList_list, D.ints_ofInts, i64min, i64max, u8min, u8max, u16min, u16max, u32min, u32max, u64min, u64max, i32min, i32max, Om.sub, selI, ints_app, ints_cut, ints_upd, ints_rep, ints_splice, len_ints]
        omega
    · refine ⟨tellA forgCii_t2, tellA_ok (allTold'_iff.1 ?_), .inr ⟨forgCii_h2, _, _, forgCii_y2, dutiesTold_ok ?_, allTold'_iff.1 ?_, ?_⟩⟩
      · simp only [forgCii_t2, F15, Int.zero_add, allTold', dutiesTold, factsA, factsP, factsR, AV.facts, RW.facts, inK, and_true, Q.holds', E.i, E.s, E.n, D.nat, E.den, BO.den, UO.den, TO.den, D.toInt_int, D.toList_list, D.ints_ofInts, i64min, i64max, u8min, u8max, u16min, u16max, u32min, u32max, u64min, u64max, i32min, i32max, Om.sub, selI, ints_app, ints_cut, ints_upd, ints_rep, ints_splice, len_ints]
        omega
      · simp only [forgCii_d2, F12, F13, F15, allTold', dutiesTold, factsA, factsP, factsR, AV.facts, RW.facts, inK, and_true, Q.holds', E.i, E.s, E.n, D.nat, E.den, BO.den, UO.den, TO.den, D.toInt_int, D.toList_list, D.ints_ofInts, i64min, i64max, u8min, u8max, u16min, u16max, u32min, u32max, u64min, u64max, i32min, i32max, Om.sub, selI, ints_app, ints_cut, ints_upd, ints_rep, ints_splice, len_ints]
        try trivial
      · simp only [forgCii, forgCii_h2_0, forgCii_h2_2, forgCii_h2_3, forgCii_h2_4, forgCii_h2_5, forgCii_h2_6, forgCii_h2_7, forgCii_h2_8, forgCii_h2_9, forgCii_h2_17, forgCii_h2_18, forgCii_h2_19, forgCii_h2_22, forgCii_h2_23, forgCii_h2_24, forgCii_h2_25, forgCii_h2_26, forgCii_h2_32, forgCii_h2_33, forgCii_h2_34, forgCii_h2_35, forgCii_h2_36, F12, F13, F15, Int.zero_add, allTold', dutiesTold, factsA, factsP, factsR, AV.facts, RW.facts, inK, and_true, Q.holds', E.i, E.s, E.n, D.nat, E.den, BO.den, UO.den, TO.den, D.toInt_int, D.toList_list, D.ints_ofInts, i64min, i64max, u8min, u8max, u16min, u16max, u32min, u32max, u64min, u64max, i32min, i32max, Om.sub, selI, ints_app, ints_cut, ints_upd, ints_rep, ints_splice, len_ints]
        and_intros <;> first | omega | (rw [mA, rA]; done) | (rw [mB, rB]; done) | (rw [cA]; exact wA) | (rw [cB]; exact wB) | rfl
      · simp only [forgCii_h2_0, forgCii_h2_2, forgCii_h2_3, forgCii_h2_4, forgCii_h2_5, forgCii_h2_6, forgCii_h2_7, forgCii_h2_8, forgCii_h2_9, forgCii_h2_17, forgCii_h2_18, forgCii_h2_19, forgCii_h2_22, forgCii_h2_23, forgCii_h2_24, forgCii_h2_25, forgCii_h2_26, forgCii_h2_32, forgCii_h2_33, forgCii_h2_34, forgCii_h2_35, forgCii_h2_36, allTold', dutiesTold, factsA, factsP, factsR, AV.facts, RW.facts, inK, and_true, Q.holds', E.i, E.s, E.n, D.nat, E.den, BO.den, UO.den, TO.den, D.toInt_int, D.toList_list, D.ints_ofInts, i64min, i64max, u8min, u8max, u16min, u16max, u32min, u32max, u64min, u64max, i32min, i32max, Om.sub, selI, ints_app, ints_cut, ints_upd, ints_rep, ints_splice, len_ints]
        omega

def forgCin : LSpec := { n := 113, next := 4, pat := [(12, .sint .i64 (.var 0)), (8, .ptr 1 0), (9, .ptr 3 0), (2, .sslice 5 (.var 4) (.var 5) (.var 6) false), (0, .sslice 7 (.var 24) (.var 25) (.var 26) false)], rows := [(1, .cells 37 0 false false [.bool true, .sint .u8 (.bi .sel (.var 7) (.int 0)), .sint .u8 (.bi .sel (.var 7) (.int 1)), .sint .u8 (.bi .sel (.var 7) (.int 2)), .sint .u8 (.bi .sel (.var 7) (.int 3)), .sint .u8 (.bi .sel (.var 7) (.int 4)), .sint .u8 (.bi .sel (.var 7) (.int 5)), .sint .u8 (.bi .sel (.var 7) (.int 6)), .sint .u8 (.bi .sel (.var 7) (.int 7)), .sint .u8 (.bi .sel (.var 7) (.int 8)), .sint .u8 (.bi .sel (.var 7) (.int 9)), .sint .u8 (.bi .sel (.var 7) (.int 10)), .sint .u8 (.bi .sel (.var 7) (.int 11)), .sint .u8 (.bi .sel (.var 7) (.int 12)), .sint .u8 (.bi .sel (.var 7) (.int 13)), .sint .u8 (.bi .sel (.var 7) (.int 14)), .sint .u8 (.bi .sel (.var 7) (.int 15)), .sint .i64 (.var 8), .sint .u32 (.var 9)]), (3, .cells 37 0 false false [.bool true, .sint .u8 (.bi .sel (.var 17) (.int 0)), .sint .u8 (.bi .sel (.var 17) (.int 1)), .sint .u8 (.bi .sel (.var 17) (.int 2)), .sint .u8 (.bi .sel (.var 17) (.int 3)), .sint .u8 (.bi .sel (.var 17) (.int 4)), .sint .u8 (.bi .sel (.var 17) (.int 5)), .sint .u8 (.bi .sel (.var 17) (.int 6)), .sint .u8 (.bi .sel (.var 17) (.int 7)), .sint .u8 (.bi .sel (.var 17) (.int 8)), .sint .u8 (.bi .sel (.var 17) (.int 9)), .sint .u8 (.bi .sel (.var 17) (.int 10)), .sint .u8 (.bi .sel (.var 17) (.int 11)), .sint .u8 (.bi .sel (.var 17) (.int 12)), .sint .u8 (.bi .sel (.var 17) (.int 13)), .sint .u8 (.bi .sel (.var 17) (.int 14)), .sint .u8 (.bi .sel (.var 17) (.int 15)), .sint .i64 (.var 18), .sint .u32 (.var 19)]), (5, .eseq ⟨.u8, .var 3, .var 2⟩), (7, .eseq ⟨.u8, .var 23, .var 22⟩)], pre := [(.le (.int 0) (.var 0), true), (.le (.var 0) (.var 5), true), (.le (.bi .add (.var 4) (.var 5)) (.var 3), true), (.le (.var 5) (.int 500), true), (.le (.int 16) (.var 5), true), (.le (.bi .add (.var 24) (.var 25)) (.var 23), true), (.le (.var 25) (.int 500), true), (.same (.var 7) (.fn 12 (.bi .pair (.var 22) (.bi .pair (.var 24) (.bi .pair (.var 25) (.bi .pair (.var 2) (.bi .pair (.var 4) (.bi .pair (.var 0) (.int 0)))))))), true), (.eq (.var 8) (.bi .add (.var 25) (.var 0)), true), (.eq (.var 9) (.fn 13 (.bi .pair (.var 22) (.bi .pair (.var 24) (.bi .pair (.var 25) (.bi .pair (.var 2) (.bi .pair (.var 4) (.bi .pair (.var 0) (.int 0)))))))), true), (.same (.var 17) (.fn 12 (.bi .pair (.var 2) (.bi .pair (.int 0) (.bi .pair (.int 0) (.bi .pair (.var 2) (.bi .pair (.var 4) (.bi .pair (.var 0) (.int 0)))))))), true), (.eq (.var 18) (.bi .add (.int 0) (.var 0)), true), (.eq (.var 19) (.fn 13 (.bi .pair (.var 2) (.bi .pair (.int 0) (.bi .pair (.int 0) (.bi .pair (.var 2) (.bi .pair (.var 4) (.bi .pair (.var 0) (.int 0)))))))), true)], x := 4, fin := [(8, .ptr 1 0), (9, .ptr 3 0), (2, .sslice 5 (.var 4) (.var 5) (.var 6) false)], frows := [(1, .cells 37 0 false false [.bool true, .sint .u8 (.bi .sel (.fn 12 (.bi .pair (.var 22) (.bi .pair (.var 24) (.bi .pair (.var 25) (.bi .pair (.var 2) (.bi .pair (.var 4) (.bi .pair (.var 5) (.int 0)))))))) (.int 0)), .sint .u8 (.bi .sel (.fn 12 (.bi .pair (.var 22) (.bi .pair (.var 24) (.bi .pair (.var 25) (.bi .pair (.var 2) (.bi .pair (.var 4) (.bi .pair (.var 5) (.int 0)))))))) (.int 1)), .sint .u8 (.bi .sel (.fn 12 (.bi .pair (.var 22) (.bi .pair (.var 24) (.bi .pair (.var 25) (.bi .pair (.var 2) (.bi .pair (.var 4) (.bi .pair (.var 5) (.int 0)))))))) (.int 2)), .sint .u8 (.bi .sel (.fn 12 (.bi .pair (.var 22) (.bi .pair (.var 24) (.bi .pair (.var 25) (.bi .pair (.var 2) (.bi .pair (.var 4) (.bi .pair (.var 5) (.int 0)))))))) (.int 3)), .sint .u8 (.bi .sel (.fn 12 (.bi .pair (.var 22) (.bi .pair (.var 24) (.bi .pair (.var 25) (.bi .pair (.var 2) (.bi .pair (.var 4) (.bi .pair (.var 5) (.int 0)))))))) (.int 4)), .sint .u8 (.bi .sel (.fn 12 (.bi .pair (.var 22) (.bi .pair (.var 24) (.bi .pair (.var 25) (.bi .pair (.var 2) (.bi .pair (.var 4) (.bi .pair (.var 5) (.int 0)))))))) (.int 5)), .sint .u8 (.bi .sel (.fn 12 (.bi .pair (.var 22) (.bi .pair (.var 24) (.bi .pair (.var 25) (.bi .pair (.var 2) (.bi .pair (.var 4) (.bi .pair (.var 5) (.int 0)))))))) (.int 6)), .sint .u8 (.bi .sel (.fn 12 (.bi .pair (.var 22) (.bi .pair (.var 24) (.bi .pair (.var 25) (.bi .pair (.var 2) (.bi .pair (.var 4) (.bi .pair (.var 5) (.int 0)))))))) (.int 7)), .sint .u8 (.bi .sel (.fn 12 (.bi .pair (.var 22) (.bi .pair (.var 24) (.bi .pair (.var 25) (.bi .pair (.var 2) (.bi .pair (.var 4) (.bi .pair (.var 5) (.int 0)))))))) (.int 8)), .sint .u8 (.bi .sel (.fn 12 (.bi .pair (.var 22) (.bi .pair (.var 24) (.bi .pair (.var 25) (.bi .pair (.var 2) (.bi .pair (.var 4) (.bi .pair (.var 5) (.int 0)))))))) (.int 9)), .sint .u8 (.bi .sel (.fn 12 (.bi .pair (.var 22) (.bi .pair (.var 24) (.bi .pair (.var 25) (.bi .pair (.var 2) (.bi .pair (.var 4) (.bi .pair (.var 5) (.int 0)))))))) (.int 10)), .sint .u8 (.bi .sel (.fn 12 (.bi .pair (.var 22) (.bi .pair (.var 24) (.bi .pair (.var 25) (.bi .pair (.var 2) (.bi .pair (.var 4) (.bi .pair (.var 5) (.int 0)))))))) (.int 11)), .sint .u8 (.bi .sel (.fn 12 (.bi .pair (.var 22) (.bi .pair (.var 24) (.bi .pair (.var 25) (.bi .pair (.var 2) (.bi .pair (.var 4) (.bi .pair (.var 5) (.int 0)))))))) (.int 12)), .sint .u8 (.bi .sel (.fn 12 (.bi .pair (.var 22) (.bi .pair (.var 24) (.bi .pair (.var 25) (.bi .pair (.var 2) (.bi .pair (.var 4) (.bi .pair (.var 5) (.int 0)))))))) (.int 13)), .sint .u8 (.bi .sel (.fn 12 (.bi .pair (.var 22) (.bi .pair (.var 24) (.bi .pair (.var 25) (.bi .pair (.var 2) (.bi .pair (.var 4) (.bi .pair (.var 5) (.int 0)))))))) (.int 14)), .sint .u8 (.bi .sel (.fn 12 (.bi .pair (.var 22) (.bi .pair (.var 24) (.bi .pair (.var 25) (.bi .pair (.var 2) (.bi .pair (.var 4) (.bi .pair (.var 5) (.int 0)))))))) (.int 15)), .sint .i64 (.bi .add (.var 25) (.var 5)), .sint .u32 (.fn 13 (.bi .pair (.var 22) (.bi .pair (.var 24) (.bi .pair (.var 25) (.bi .pair (.var 2) (.bi .pair (.var 4) (.bi .pair (.var 5) (.int 0))))))))]), (3, .cells 37 0 false false [.bool true, .sint .u8 (.bi .sel (.fn 12 (.bi .pair (.var 2) (.bi .pair (.int 0) (.bi .pair (.int 0) (.bi .pair (.var 2) (.bi .pair (.var 4) (.bi .pair (.var 5) (.int 0)))))))) (.int 0)), .sint .u8 (.bi .sel (.fn 12 (.bi .pair (.var 2) (.bi .pair (.int 0) (.bi .pair (.int 0) (.bi .pair (.var 2) (.bi .pair (.var 4) (.bi .pair (.var 5) (.int 0)))))))) (.int 1)), .sint .u8 (.bi .sel (.fn 12 (.bi .pair (.var 2) (.bi .pair (.int 0) (.bi .pair (.int 0) (.bi .pair (.var 2) (.bi .pair (.var 4) (.bi .pair (.var 5) (.int 0)))))))) (.int 2)), .sint .u8 (.bi .sel (.fn 12 (.bi .pair (.var 2) (.bi .pair (.int 0) (.bi .pair (.int 0) (.bi .pair (.var 2) (.bi .pair (.var 4) (.bi .pair (.var 5) (.int 0)))))))) (.int 3)), .sint .u8 (.bi .sel (.fn 12 (.bi .pair (.var 2) (.bi .pair (.int 0) (.bi .pair (.int 0) (.bi .pair (.var 2) (.bi .pair (.var 4) (.bi .pair (.var 5) (.int 0)))))))) (.int 4)), .sint .u8 (.bi .sel (.fn 12 (.bi .pair (.var 2) (.bi .pair (.int 0) (.bi .pair (.int 0) (.bi .pair (.var 2) (.bi .pair (.var 4) (.bi .pair (.var 5) (.int 0)))))))) (.int 5)), .sint .u8 (.bi .sel (.fn 12 (.bi .pair (.var 2) (.bi .pair (.int 0) (.bi .pair (.int 0) (.bi .pair (.var 2) (.bi .pair (.var 4) (.bi .pair (.var 5) (.int 0)))))))) (.int 6)), .sint .u8 (.bi .sel (.fn 12 (.bi .pair (.var 2) (.bi .pair (.int 0) (.bi .pair (.int 0) (.bi .pair (.var 2) (.bi .pair (.var 4) (.bi .pair (.var 5) (.int 0)))))))) (.int 7)), .sint .u8 (.bi .sel (.fn 12 (.bi .pair (.var 2) (.bi .pair (.int 0) (.bi .pair (.int 0) (.bi .pair (.var 2) (.bi .pair (.var 4) (.bi .pair (.var 5) (.int 0)))))))) (.int 8)), .sint .u8 (.bi .sel (.fn 12 (.bi .pair (.var 2) (.bi .pair (.int 0) (.bi .pair (.int 0) (.bi .pair (.var 2) (.bi .pair (.var 4) (.bi .pair (.var 5) (.int 0)))))))) (.int 9)), .sint .u8 (.bi .sel (.fn 12 (.bi .pair (.var 2) (.bi .pair (.int 0) (.bi .pair (.int 0) (.bi .pair (.var 2) (.bi .pair (.var 4) (.bi .pair (.var 5) (.int 0)))))))) (.int 10)), .sint .u8 (.bi .sel (.fn 12 (.bi .pair (.var 2) (.bi .pair (.int 0) (.bi .pair (.int 0) (.bi .pair (.var 2) (.bi .pair (.var 4) (.bi .pair (.var 5) (.int 0)))))))) (.int 11)), .sint .u8 (.bi .sel (.fn 12 (.bi .pair (.var 2) (.bi .pair (.int 0) (.bi .pair (.int 0) (.bi .pair (.var 2) (.bi .pair (.var 4) (.bi .pair (.var 5) (.int 0)))))))) (.int 12)), .sint .u8 (.bi .sel (.fn 12 (.bi .pair (.var 2) (.bi .pair (.int 0) (.bi .pair (.int 0) (.bi .pair (.var 2) (.bi .pair (.var 4) (.bi .pair (.var 5) (.int 0)))))))) (.int 13)), .sint .u8 (.bi .sel (.fn 12 (.bi .pair (.var 2) (.bi .pair (.int 0) (.bi .pair (.int 0) (.bi .pair (.var 2) (.bi .pair (.var 4) (.bi .pair (.var 5) (.int 0)))))))) (.int 14)), .sint .u8 (.bi .sel (.fn 12 (.bi .pair (.var 2) (.bi .pair (.int 0) (.bi .pair (.int 0) (.bi .pair (.var 2) (.bi .pair (.var 4) (.bi .pair (.var 5) (.int 0)))))))) (.int 15)), .sint .i64 (.bi .add (.int 0) (.var 5)), .sint .u32 (.fn 13 (.bi .pair (.var 2) (.bi .pair (.int 0) (.bi .pair (.int 0) (.bi .pair (.var 2) (.bi .pair (.var 4) (.bi .pair (.var 5) (.int 0))))))))])], same := [1, 3, 5], chg := [0, 2, 8, 9, 12, 13, 14, 67, 68, 69, 70, 71, 72, 73, 74, 75, 76, 77, 78, 79, 80, 81, 82, 83, 84, 85, 86, 87, 88, 89, 90, 91, 92] }
def forgCin_t0 : List (Q × Bool) := [((.fit .i64 (.var 5)), true),
  ((.le (.var 5) (.var 0)), true)]
def forgCin_d0 : List Duty := [(true, (.bi .sel (.var 7) (.int 0)), (.bi .sel (.fn 12 (.bi .pair (.var 22) (.bi .pair (.var 24) (.bi .pair (.var 25) (.bi .pair (.var 2) (.bi .pair (.var 4) (.bi .pair (.var 5) (.int 0)))))))) (.int 0))), (true, (.bi .sel (.var 7) (.int 1)), (.bi .sel (.fn 12 (.bi .pair (.var 22) (.bi .pair (.var 24) (.bi .pair (.var 25) (.bi .pair (.var 2) (.bi .pair (.var 4) (.bi .pair (.var 5) (.int 0)))))))) (.int 1))), (true, (.bi .sel (.var 7) (.int 2)), (.bi .sel (.fn 12 (.bi .pair (.var 22) (.bi .pair (.var 24) (.bi .pair (.var 25) (.bi .pair (.var 2) (.bi .pair (.var 4) (.bi .pair (.var 5) (.int 0)))))))) (.int 2))), (true, (.bi .sel (.var 7) (.int 3)), (.bi .sel (.fn 12 (.bi .pair (.var 22) (.bi .pair (.var 24) (.bi .pair (.var 25) (.bi .pair (.var 2) (.bi .pair (.var 4) (.bi .pair (.var 5) (.int 0)))))))) (.int 3))), (true, (.bi .sel (.var 7) (.int 4)), (.bi .sel (.fn 12 (.bi .pair (.var 22) (.bi .pair (.var 24) (.bi .pair (.var 25) (.bi .pair (.var 2) (.bi .pair (.var 4) (.bi .pair (.var 5) (.int 0)))))))) (.int 4))), (true, (.bi .sel (.var 7) (.int 5)), (.bi .sel (.fn 12 (.bi .pair (.var 22) (.bi .pair (.var 24) (.bi .pair (.var 25) (.bi .pair (.var 2) (.bi .pair (.var 4) (.bi .pair (.var 5) (.int 0)))))))) (.int 5))), (true, (.bi .sel (.var 7) (.int 6)), (.bi .sel (.fn 12 (.bi .pair (.var 22) (.bi .pair (.var 24) (.bi .pair (.var 25) (.bi .pair (.var 2) (.bi .pair (.var 4) (.bi .pair (.var 5) (.int 0)))))))) (.int 6))), (true, (.bi .sel (.var 7) (.int 7)), (.bi .sel (.fn 12 (.bi .pair (.var 22) (.bi .pair (.var 24) (.bi .pair (.var 25) (.bi .pair (.var 2) (.bi .pair (.var 4) (.bi .pair (.var 5) (.int 0)))))))) (.int 7))), (true, (.bi .sel (.var 7) (.int 8)), (.bi .sel (.fn 12 (.bi .pair (.var 22) (.bi .pair (.var 24) (.bi .pair (.var 25) (.bi .pair (.var 2) (.bi .pair (.var 4) (.bi .pair (.var 5) (.int 0)))))))) (.int 8))), (true, (.bi .sel (.var 7) (.int 9)), (.bi .sel (.fn 12 (.bi .pair (.var 22) (.bi .pair (.var 24) (.bi .pair (.var 25) (.bi .pair (.var 2) (.bi .pair (.var 4) (.bi .pair (.var 5) (.int 0)))))))) (.int 9))), (true, (.bi .sel (.var 7) (.int 10)), (.bi .sel (.fn 12 (.bi .pair (.var 22) (.bi .pair (.var 24) (.bi .pair (.var 25) (.bi .pair (.var 2) (.bi .pair (.var 4) (.bi .pair (.var 5) (.int 0)))))))) (.int 10))), (true, (.bi .sel (.var 7) (.int 11)), (.bi .sel (.fn 12 (.bi .pair (.var 22) (.bi .pair (.var 24) (.bi .pair (.var 25) (.bi .pair (.var 2) (.bi .pair (.var 4) (.bi .pair (.var 5) (.int 0)))))))) (.int 11))), (true, (.bi .sel (.var 7) (.int 12)), (.bi .sel (.fn 12 (.bi .pair (.var 22) (.bi .pair (.var 24) (.bi .pair (.var 25) (.bi .pair (.var 2) (.bi .pair (.var 4) (.bi .pair (.var 5) (.int 0)))))))) (.int 12))), (true, (.bi .sel (.var 7) (.int 13)), (.bi .sel (.fn 12 (.bi .pair (.var 22) (.bi .pair (.var 24) (.bi .pair (.var 25) (.bi .pair (.var 2) (.bi .pair (.var 4) (.bi .pair (.var 5) (.int 0)))))))) (.int 13))), (true, (.bi .sel (.var 7) (.int 14)), (.bi .sel (.fn 12 (.bi .pair (.var 22) (.bi .pair (.var 24) (.bi .pair (.var 25) (.bi .pair (.var 2) (.bi .pair (.var 4) (.bi .pair (.var 5) (.int 0)))))))) (.int 14))), (true, (.bi .sel (.var 7) (.int 15)), (.bi .sel (.fn 12 (.bi .pair (.var 22) (.bi .pair (.var 24) (.bi .pair (.var 25) (.bi .pair (.var 2) (.bi .pair (.var 4) (.bi .pair (.var 5) (.int 0)))))))) (.int 15))), (true, (.var 8), (.bi .add (.var 25) (.var 5))), (true, (.var 9), (.fn 13 (.bi .pair (.var 22) (.bi .pair (.var 24) (.bi .pair (.var 25) (.bi .pair (.var 2) (.bi .pair (.var 4) (.bi .pair (.var 5) (.int 0))))))))), (true, (.bi .sel (.var 17) (.int 0)), (.bi .sel (.fn 12 (.bi .pair (.var 2) (.bi .pair (.int 0) (.bi .pair (.int 0) (.bi .pair (.var 2) (.bi .pair (.var 4) (.bi .pair (.var 5) (.int 0)))))))) (.int 0))), (true, (.bi .sel (.var 17) (.int 1)), (.bi .sel (.fn 12 (.bi .pair (.var 2) (.bi .pair (.int 0) (.bi .pair (.int 0) (.bi .pair (.var 2) (.bi .pair (.var 4) (.bi .pair (.var 5) (.int 0)))))))) (.int 1))), (true, (.bi .sel (.var 17) (.int 2)), (.bi .sel (.fn 12 (.bi .pair (.var 2) (.bi .pair (.int 0) (.bi .pair (.int 0) (.bi .pair (.var 2) (.bi .pair (.var 4) (.bi .pair (.var 5) (.int 0)))))))) (.int 2))), (true, (.bi .sel (.var 17) (.int 3)), (.bi .sel (.fn 12 (.bi .pair (.var 2) (.bi .pair (.int 0) (.bi .pair (.int 0) (.bi .pair (.var 2) (.bi .pair (.var 4) (.bi .pair (.var 5) (.int 0)))))))) (.int 3))), (true, (.bi .sel (.var 17) (.int 4)), (.bi .sel (.fn 12 (.bi .pair (.var 2) (.bi .pair (.int 0) (.bi .pair (.int 0) (.bi .pair (.var 2) (.bi .pair (.var 4) (.bi .pair (.var 5) (.int 0)))))))) (.int 4))), (true, (.bi .sel (.var 17) (.int 5)), (.bi .sel (.fn 12 (.bi .pair (.var 2) (.bi .pair (.int 0) (.bi .pair (.int 0) (.bi .pair (.var 2) (.bi .pair (.var 4) (.bi .pair (.var 5) (.int 0)))))))) (.int 5))), (true, (.bi .sel (.var 17) (.int 6)), (.bi .sel (.fn 12 (.bi .pair (.var 2) (.bi .pair (.int 0) (.bi .pair (.int 0) (.bi .pair (.var 2) (.bi .pair (.var 4) (.bi .pair (.var 5) (.int 0)))))))) (.int 6))), (true, (.bi .sel (.var 17) (.int 7)), (.bi .sel (.fn 12 (.bi .pair (.var 2) (.bi .pair (.int 0) (.bi .pair (.int 0) (.bi .pair (.var 2) (.bi .pair (.var 4) (.bi .pair (.var 5) (.int 0)))))))) (.int 7))), (true, (.bi .sel (.var 17) (.int 8)), (.bi .sel (.fn 12 (.bi .pair (.var 2) (.bi .pair (.int 0) (.bi .pair (.int 0) (.bi .pair (.var 2) (.bi .pair (.var 4) (.bi .pair (.var 5) (.int 0)))))))) (.int 8))), (true, (.bi .sel (.var 17) (.int 9)), (.bi .sel (.fn 12 (.bi .pair (.var 2) (.bi .pair (.int 0) (.bi .pair (.int 0) (.bi .pair (.var 2) (.bi .pair (.var 4) (.bi .pair (.var 5) (.int 0)))))))) (.int 9))), (true, (.bi .sel (.var 17) (.int 10)), (.bi .sel (.fn 12 (.bi .pair (.var 2) (.bi .pair (.int 0) (.bi .pair (.int 0) (.bi .pair (.var 2) (.bi .pair (.var 4) (.bi .pair (.var 5) (.int 0)))))))) (.int 10))), (true, (.bi .sel (.var 17) (.int 11)), (.bi .sel (.fn 12 (.bi .pair (.var 2) (.bi .pair (.int 0) (.bi .pair (.int 0) (.bi .pair (.var 2) (.bi .pair (.var 4) (.bi .pair (.var 5) (.int 0)))))))) (.int 11))), (true, (.bi .sel (.var 17) (.int 12)), (.bi .sel (.fn 12 (.bi .pair (.var 2) (.bi .pair (.int 0) (.bi .pair (.int 0) (.bi .pair (.var 2) (.bi .pair (.var 4) (.bi .pair (.var 5) (.int 0)))))))) (.int 12))), (true, (.bi .sel (.var 17) (.int 13)), (.bi .sel (.fn 12 (.bi .pair (.var 2) (.bi .pair (.int 0) (.bi .pair (.int 0) (.bi .pair (.var 2) (.bi .pair (.var 4) (.bi .pair (.var 5) (.int 0)))))))) (.int 13))), (true, (.bi .sel (.var 17) (.int 14)), (.bi .sel (.fn 12 (.bi .pair (.var 2) (.bi .pair (.int 0) (.bi .pair (.int 0) (.bi .pair (.var 2) (.bi .pair (.var 4) (.bi .pair (.var 5) (.int 0)))))))) (.int 14))), (true, (.bi .sel (.var 17) (.int 15)), (.bi .sel (.fn 12 (.bi .pair (.var 2) (.bi .pair (.int 0) (.bi .pair (.int 0) (.bi .pair (.var 2) (.bi .pair (.var 4) (.bi .pair (.var 5) (.int 0)))))))) (.int 15))), (true, (.var 18), (.bi .add (.int 0) (.var 5))), (true, (.var 19), (.fn 13 (.bi .pair (.var 2) (.bi .pair (.int 0) (.bi .pair (.int 0) (.bi .pair (.var 2) (.bi .pair (.var 4) (.bi .pair (.var 5) (.int 0)))))))))]
theorem forgCin_y0 : endD forgCin [(7, 7), (5, 5), (3, 3), (1, 1)] 1000 (roundC Try.prog [] [(22, pushC)] [] 3000 40 7 [4, 1, 0, 1, 1, 1, 1, 1, 1, 1] (tellA forgCin_t0) forgCin) = some forgCin_d0 := by kernel_rfl
def forgCin_t1 : List (Q × Bool) := [((.fit .i64 (.var 5)), true),
  ((.le (.var 5) (.var 0)), false),
  ((.le (.int 0) (.var 0)), true),
  ((.le (.int 0) (.bi .add (.var 4) (.var 0))), true),
  ((.le (.var 3) (.bi .add (.var 4) (.var 0))), false),
  ((.le (.int 16) (.un .len (.var 7))), true),
  ((.le (.int 0) (.var 8)), true),
  ((.le (.var 8) (.int 1000000)), true),
  ((.le (.int 16) (.un .len (.var 17))), true),
  ((.le (.int 0) (.var 18)), true),
  ((.le (.var 18) (.int 1000000)), true),
  ((.fit .i64 (.bi .add (.var 0) (.int 1))), true),
  ((.le (.int 16) (.bi .add (.var 0) (.int 1))), true),
  ((.eq (.fn 15 (.bi .pair (.var 9) (.bi .pair (.var 8) (.bi .pair (.var 7) (.bi .pair (.bi .sel (.var 2) (.bi .add (.var 4) (.var 0))) (.int 0)))))) (.fn 15 (.bi .pair (.var 19) (.bi .pair (.var 18) (.bi .pair (.var 17) (.bi .pair (.bi .sel (.var 2) (.bi .add (.var 4) (.var 0))) (.int 0))))))), true)]
def forgCin_d1 : List Duty := []
def forgCin_h1 : List (Nat × E) := [(23, (.var 23)), (22, (.var 22)), (3, (.var 3)), (2, (.var 2)), (19, (.fn 15 (.bi .pair (.var 19) (.bi .pair (.var 18) (.bi .pair (.var 17) (.bi .pair (.bi .sel (.var 2) (.bi .add (.var 4) (.var 0))) (.int 0))))))), (18, (.bi .add (.var 18) (.int 1))), (17, (.tr .upd (.var 17) (.bi (.iop .rem .i64) (.var 18) (.int 16)) (.bi .sel (.var 2) (.bi .add (.var 4) (.var 0))))), (9, (.fn 15 (.bi .pair (.var 9) (.bi .pair (.var 8) (.bi .pair (.var 7) (.bi .pair (.bi .sel (.var 2) (.bi .add (.var 4) (.var 0))) (.int 0))))))), (8, (.bi .add (.var 8) (.int 1))), (7, (.tr .upd (.var 7) (.bi (.iop .rem .i64) (.var 8) (.int 16)) (.bi .sel (.var 2) (.bi .add (.var 4) (.var 0))))), (24, (.var 24)), (25, (.var 25)), (26, (.var 26)), (4, (.var 4)), (5, (.var 5)), (6, (.var 6)), (0, (.bi .add (.var 0) (.int 1)))]
theorem forgCin_h1_0 : lookE forgCin_h1 0 = (.bi .add (.var 0) (.int 1)) := rfl
theorem forgCin_h1_2 : lookE forgCin_h1 2 = (.var 2) := rfl
theorem forgCin_h1_3 : lookE forgCin_h1 3 = (.var 3) := rfl
theorem forgCin_h1_4 : lookE forgCin_h1 4 = (.var 4) := rfl
theorem forgCin_h1_5 : lookE forgCin_h1 5 = (.var 5) := rfl
theorem forgCin_h1_6 : lookE forgCin_h1 6 = (.var 6) := rfl
theorem forgCin_h1_7 : lookE forgCin_h1 7 = (.tr .upd (.var 7) (.bi (.iop .rem .i64) (.var 8) (.int 16)) (.bi .sel (.var 2) (.bi .add (.var 4) (.var 0)))) := rfl
theorem forgCin_h1_8 : lookE forgCin_h1 8 = (.bi .add (.var 8) (.int 1)) := rfl
theorem forgCin_h1_9 : lookE forgCin_h1 9 = (.fn 15 (.bi .pair (.var 9) (.bi .pair (.var 8) (.bi .pair (.var 7) (.bi .pair (.bi .sel (.var 2) (.bi .add (.var 4) (.var 0))) (.int 0)))))) := rfl
theorem forgCin_h1_17 : lookE forgCin_h1 17 = (.tr .upd (.var 17) (.bi (.iop .rem .i64) (.var 18) (.int 16)) (.bi .sel (.var 2) (.bi .add (.var 4) (.var 0)))) := rfl
theorem forgCin_h1_18 : lookE forgCin_h1 18 = (.bi .add (.var 18) (.int 1)) := rfl
theorem forgCin_h1_19 : lookE forgCin_h1 19 = (.fn 15 (.bi .pair (.var 19) (.bi .pair (.var 18) (.bi .pair (.var 17) (.bi .pair (.bi .sel (.var 2) (.bi .add (.var 4) (.var 0))) (.int 0)))))) := rfl
theorem forgCin_h1_22 : lookE forgCin_h1 22 = (.var 22) := rfl
theorem forgCin_h1_23 : lookE forgCin_h1 23 = (.var 23) := rfl
theorem forgCin_h1_24 : lookE forgCin_h1 24 = (.var 24) := rfl
theorem forgCin_h1_25 : lookE forgCin_h1 25 = (.var 25) := rfl
theorem forgCin_h1_26 : lookE forgCin_h1 26 = (.var 26) := rfl
theorem forgCin_y1 : nextD forgCin forgCin_h1 [(7, 7), (5, 5), (3, 3), (1, 1)] (roundC Try.prog [] [(22, pushC)] [] 3000 40 7 [4, 1, 0, 1, 1, 1, 1, 1, 1, 1] (tellA forgCin_t1) forgCin) = some forgCin_d1 := by kernel_rfl
def forgCin_t2 : List (Q × Bool) := [((.fit .i64 (.var 5)), true),
  ((.le (.var 5) (.var 0)), false),
  ((.le (.int 0) (.var 0)), true),
  ((.le (.int 0) (.bi .add (.var 4) (.var 0))), true),
  ((.le (.var 3) (.bi .add (.var 4) (.var 0))), false),
  ((.le (.int 16) (.un .len (.var 7))), true),
  ((.le (.int 0) (.var 8)), true),
  ((.le (.var 8) (.int 1000000)), true),
  ((.le (.int 16) (.un .len (.var 17))), true),
  ((.le (.int 0) (.var 18)), true),
  ((.le (.var 18) (.int 1000000)), true),
  ((.fit .i64 (.bi .add (.var 0) (.int 1))), true),
  ((.le (.int 16) (.bi .add (.var 0) (.int 1))), false)]
def forgCin_d2 : List Duty := []
def forgCin_h2 : List (Nat × E) := [(23, (.var 23)), (22, (.var 22)), (3, (.var 3)), (2, (.var 2)), (19, (.fn 15 (.bi .pair (.var 19) (.bi .pair (.var 18) (.bi .pair (.var 17) (.bi .pair (.bi .sel (.var 2) (.bi .add (.var 4) (.var 0))) (.int 0))))))), (18, (.bi .add (.var 18) (.int 1))), (17, (.tr .upd (.var 17) (.bi (.iop .rem .i64) (.var 18) (.int 16)) (.bi .sel (.var 2) (.bi .add (.var 4) (.var 0))))), (9, (.fn 15 (.bi .pair (.var 9) (.bi .pair (.var 8) (.bi .pair (.var 7) (.bi .pair (.bi .sel (.var 2) (.bi .add (.var 4) (.var 0))) (.int 0))))))), (8, (.bi .add (.var 8) (.int 1))), (7, (.tr .upd (.var 7) (.bi (.iop .rem .i64) (.var 8) (.int 16)) (.bi .sel (.var 2) (.bi .add (.var 4) (.var 0))))), (24, (.var 24)), (25, (.var 25)), (26, (.var 26)), (4, (.var 4)), (5, (.var 5)), (6, (.var 6)), (0, (.bi .add (.var 0) (.int 1)))]
theorem forgCin_h2_0 : lookE forgCin_h2 0 = (.bi .add (.var 0) (.int 1)) := rfl
theorem forgCin_h2_2 : lookE forgCin_h2 2 = (.var 2) := rfl
theorem forgCin_h2_3 : lookE forgCin_h2 3 = (.var 3) := rfl
theorem forgCin_h2_4 : lookE forgCin_h2 4 = (.var 4) := rfl
theorem forgCin_h2_5 : lookE forgCin_h2 5 = (.var 5) := rfl
theorem forgCin_h2_6 : lookE forgCin_h2 6 = (.var 6) := rfl
theorem forgCin_h2_7 : lookE forgCin_h2 7 = (.tr .upd (.var 7) (.bi (.iop .rem .i64) (.var 8) (.int 16)) (.bi .sel (.var 2) (.bi .add (.var 4) (.var 0)))) := rfl
theorem forgCin_h2_8 : lookE forgCin_h2 8 = (.bi .add (.var 8) (.int 1)) := rfl
theorem forgCin_h2_9 : lookE forgCin_h2 9 = (.fn 15 (.bi .pair (.var 9) (.bi .pair (.var 8) (.bi .pair (.var 7) (.bi .pair (.bi .sel (.var 2) (.bi .add (.var 4) (.var 0))) (.int 0)))))) := rfl
theorem forgCin_h2_17 : lookE forgCin_h2 17 = (.tr .upd (.var 17) (.bi (.iop .rem .i64) (.var 18) (.int 16)) (.bi .sel (.var 2) (.bi .add (.var 4) (.var 0)))) := rfl
theorem forgCin_h2_18 : lookE forgCin_h2 18 = (.bi .add (.var 18) (.int 1)) := rfl
theorem forgCin_h2_19 : lookE forgCin_h2 19 = (.fn 15 (.bi .pair (.var 19) (.bi .pair (.var 18) (.bi .pair (.var 17) (.bi .pair (.bi .sel (.var 2) (.bi .add (.var 4) (.var 0))) (.int 0)))))) := rfl
theorem forgCin_h2_22 : lookE forgCin_h2 22 = (.var 22) := rfl
theorem forgCin_h2_23 : lookE forgCin_h2 23 = (.var 23) := rfl
theorem forgCin_h2_24 : lookE forgCin_h2 24 = (.var 24) := rfl
theorem forgCin_h2_25 : lookE forgCin_h2 25 = (.var 25) := rfl
theorem forgCin_h2_26 : lookE forgCin_h2 26 = (.var 26) := rfl
theorem forgCin_y2 : nextD forgCin forgCin_h2 [(7, 7), (5, 5), (3, 3), (1, 1)] (roundC Try.prog [] [(22, pushC)] [] 3000 40 7 [4, 1, 0, 1, 1, 1, 1, 1, 1, 1] (tellA forgCin_t2) forgCin) = some forgCin_d2 := by kernel_rfl
theorem forgCin_holds : LHolds Try.prog (loopAt Try.prog 7 [4, 1, 0, 1, 1, 1, 1, 1, 1, 1]) forgCin F := by
  refine loop_roundsC sound (tableNil _ _) (specsCons pushC_holds (specsNil _ _)) (oversNil _ _) (fuel := 3000) (depth := 40) (by kernel_rfl) (by kernel_rfl) (by kernel_rfl) (fun d => ((d 5).toInt - (d 0).toInt).toNat) fun d hp hR hA => ?_
  have hp := allTold'_iff.2 hp
  simp only [forgCin, allTold', dutiesTold, factsA, factsP, factsR, AV.facts, RW.facts, inK, and_true, Q.holds', E.i, E.s, E.n, D.nat, E.den, BO.den, UO.den, TO.den, D.toInt_int, D.toList_list, D.ints_ofInts, i64min, i64max, u8min, u8max, u16min, u16max, u32min, u32max, u64min, u64max, i32min, i32max, Om.sub, selI, ints_app, ints_cut, ints_upd, ints_rep, ints_splice, len_ints] at hp hR hA
  simp only [F12, F13, D.toInt_int, D.ints_ofInts, Int.zero_add] at hp
  obtain ⟨p0, p1, p2, p3, p4, p5, p6, kA, cA, uA, kB, cB, uB⟩ := hp
  have elA : ((d 7).ints.length : Nat) = 16 := by rw [kA, ringL_len]
  have elB : ((d 17).ints.length : Nat) = 16 := by rw [kB, ringL_len]
  by_cases h : (d 5).toInt ≤ (d 0).toInt
  · have e5 : (d 5).toInt = (d 0).toInt := by omega
    refine ⟨tellA forgCin_t0, tellA_ok (allTold'_iff.1 ?_), .inl ⟨_, _, _, forgCin_y0, dutiesTold_ok ?_⟩⟩
    · simp only [forgCin_t0, allTold', dutiesTold, factsA, factsP, factsR, AV.facts, RW.facts, inK, and_true, Q.holds', E.i, E.s, E.n, D.nat, E.den, BO.den, UO.den, TO.den, D.toInt_int, D.toList_list, D.ints_ofInts, i64min, i64max, u8min, u8max, u16min, u16max, u32min, u32max, u64min, u64max, i32min, i32max, Om.sub, selI, ints_app, ints_cut, ints_upd, ints_rep, ints_splice, len_ints]
      omega
    · simp only [forgCin_d0, F12, F13, Int.zero_add, allTold', dutiesTold, factsA, factsP, factsR, AV.facts, RW.facts, inK, and_true, Q.holds', E.i, E.s, E.n, D.nat, E.den, BO.den, UO.den, TO.den, D.toInt_int, D.toList_list, D.ints_ofInts, i64min, i64max, u8min, u8max, u16min, u16max, u32min, u32max, u64min, u64max, i32min, i32max, Om.sub, selI, ints_app, ints_cut, ints_upd, ints_rep, ints_splice, len_ints]
      rw [e5]
      and_intros <;> first | omega | (rw [kA]; done) | (rw [kB]; done) | exact cA | exact cB | exact uA | exact uB | rfl
  · have lA := two_len (x := (d 22).ints) (y := (d 2).ints) (o := (d 24).toInt) (n := (d 25).toInt) (p := (d 4).toInt) (m := (d 0).toInt) (by omega) (by omega) (by omega) (by omega) (by omega) (by omega)
    have sA := two_step (x := (d 22).ints) (y := (d 2).ints) (o := (d 24).toInt) (n := (d 25).toInt) (p := (d 4).toInt) (m := (d 0).toInt) (by omega) (by omega) (by omega)
    have wA := winL_snoc (twoI (d 22).ints (d 24).toInt (d 25).toInt (d 2).ints (d 4).toInt (d 0).toInt) (((d 2).ints[((d 4).toInt + (d 0).toInt).toNat]?).getD 0)
    have rA := ringL_snoc (twoI (d 22).ints (d 24).toInt (d 25).toInt (d 2).ints (d 4).toInt (d 0).toInt) (((d 2).ints[((d 4).toInt + (d 0).toInt).toNat]?).getD 0)
    rw [← sA, lA] at wA
    rw [← sA, show (twoI (d 22).ints (d 24).toInt (d 25).toInt (d 2).ints (d 4).toInt (d 0).toInt).length % 16 = (((d 25).toInt + (d 0).toInt) % 16).toNat by omega] at rA
    have mA : iopI .rem .i64 (d 8).toInt 16 = ((d 25).toInt + (d 0).toInt) % 16 := by rw [cA, rem_emod _ (by omega)]; try omega
    rw [← kA, ← uA] at wA
    rw [← kA] at rA
    have lB := two_len (x := (d 2).ints) (y := (d 2).ints) (o := 0) (n := 0) (p := (d 4).toInt) (m := (d 0).toInt) (by omega) (by omega) (by omega) (by omega) (by omega) (by omega)
    have sB := two_step (x := (d 2).ints) (y := (d 2).ints) (o := 0) (n := 0) (p := (d 4).toInt) (m := (d 0).toInt) (by omega) (by omega) (by omega)
    have wB := winL_snoc (twoI (d 2).ints 0 0 (d 2).ints (d 4).toInt (d 0).toInt) (((d 2).ints[((d 4).toInt + (d 0).toInt).toNat]?).getD 0)
    have rB := ringL_snoc (twoI (d 2).ints 0 0 (d 2).ints (d 4).toInt (d 0).toInt) (((d 2).ints[((d 4).toInt + (d 0).toInt).toNat]?).getD 0)
    rw [← sB, lB] at wB
    rw [← sB, show (twoI (d 2).ints 0 0 (d 2).ints (d 4).toInt (d 0).toInt).length % 16 = ((0 + (d 0).toInt) % 16).toNat by omega] at rB
    have mB : iopI .rem .i64 (d 18).toInt 16 = (0 + (d 0).toInt) % 16 := by rw [cB, rem_emod _ (by omega)]; try omega
    rw [← kB, ← uB] at wB
    rw [← kB] at rB
    try simp only [Int.zero_add] at wA wB rA rB mA mB
    by_cases g : 16 ≤ (d 0).toInt + 1
    · have zA := win_two (x := (d 22).ints) (y := (d 2).ints) (o := (d 24).toInt) (n := (d 25).toInt) (p := (d 4).toInt) (m := (d 0).toInt + 1) (by omega) (by omega) (by omega) (by omega) (by omega) (by omega)
      have zB := win_two (x := (d 2).ints) (y := (d 2).ints) (o := 0) (n := 0) (p := (d 4).toInt) (m := (d 0).toInt + 1) (by omega) (by omega) (by omega) (by omega) (by omega) (by omega)
      rw [← wA] at zA
      rw [← wB] at zB
      have zz := zA.trans zB.symm
      refine ⟨tellA forgCin_t1, tellA_ok (allTold'_iff.1 ?_), .inr ⟨forgCin_h1, _, _, forgCin_y1, dutiesTold_ok ?_, allTold'_iff.1 ?_, ?_⟩⟩
      · simp only [forgCin_t1, F15, Int.zero_add, allTold', dutiesTold, factsA, factsP, factsR, AV.facts, RW.facts, inK, and_true, Q.holds', E.i, E.s, E.n, D.nat, E.den, BO.den, UO.den, TO.den, D.toInt_int, D.toList_list, D.ints_ofInts, i64min, i64max, u8min, u8max, u16min, u16max, u32min, u32max, u64min, u64max, i32min, i32max, Om.sub, selI, ints_app, ints_cut, ints_upd, ints_rep, ints_splice, len_ints]
        rw [cA, cB]
        omega
      · simp only [forgCin_d1, F12, F13, F15, allTold', dutiesTold, factsA, factsP, factsR, AV.facts, RW.facts, inK, and_true, Q.holds', E.i, E.s, E.n, D.nat, E.den, BO.den, UO.den, TO.den, D.toInt_int, D.toList_list, D.ints_ofInts, i64min, i64max, u8min, u8max, u16min, u16max, u32min, u32max, u64min, u64max, i32min, i32max, Om.sub, selI, ints_app, ints_cut, ints_upd, ints_rep, ints_splice, len_ints]
        try trivial
      · simp only [forgCin, forgCin_h1_0, forgCin_h1_2, forgCin_h1_3, forgCin_h1_4, forgCin_h1_5, forgCin_h1_6, forgCin_h1_7, forgCin_h1_8, forgCin_h1_9, forgCin_h1_17, forgCin_h1_18, forgCin_h1_19, forgCin_h1_22, forgCin_h1_23, forgCin_h1_24, forgCin_h1_25, forgCin_h1_26, F12, F13, F15, Int.zero_add, allTold', dutiesTold, factsA, factsP, factsR, AV.facts, RW.facts, inK, and_true, Q.holds', E.i, E.s, E.n, D.nat, E.den, BO.den, UO.den, TO.den, D.toInt_int, D.toList_list, D.ints_ofInts, i64min, i64max, u8min, u8max, u16min, u16max, u32min, u32max, u64min, u64max, i32min, i32max, Om.sub, selI, ints_app, ints_cut, ints_upd, ints_rep, ints_splice, len_ints]
        and_intros <;> first | omega | (rw [mA, rA]; done) | (rw [mB, rB]; done) | (rw [cA]; exact wA) | (rw [cB]; exact wB) | rfl
      · simp only [forgCin_h1_0, forgCin_h1_2, forgCin_h1_3, forgCin_h1_4, forgCin_h1_5, forgCin_h1_6, forgCin_h1_7, forgCin_h1_8, forgCin_h1_9, forgCin_h1_17, forgCin_h1_18, forgCin_h1_19, forgCin_h1_22, forgCin_h1_23, forgCin_h1_24, forgCin_h1_25, forgCin_h1_26, allTold', dutiesTold, factsA, factsP, factsR, AV.facts, RW.facts, inK, and_true, Q.holds', E.i, E.s, E.n, D.nat, E.den, BO.den, UO.den, TO.den, D.toInt_int, D.toList_list, D.ints_ofInts, i64min, i64max, u8min, u8max, u16min, u16max, u32min, u32max, u64min, u64max, i32min, i32max, Om.sub, selI, ints_app, ints_cut, ints_upd, ints_rep, ints_splice, len_ints]
        omega
    · refine ⟨tellA forgCin_t2, tellA_ok (allTold'_iff.1 ?_), .inr ⟨forgCin_h2, _, _, forgCin_y2, dutiesTold_ok ?_, allTold'_iff.1 ?_, ?_⟩⟩
      · simp only [forgCin_t2, F15, Int.zero_add, allTold', dutiesTold, factsA, factsP, factsR, AV.facts, RW.facts, inK, and_true, Q.holds', E.i, E.s, E.n, D.nat, E.den, BO.den, UO.den, TO.den, D.toInt_int, D.toList_list, D.ints_ofInts, i64min, i64max, u8min, u8max, u16min, u16max, u32min, u32max, u64min, u64max, i32min, i32max, Om.sub, selI, ints_app, ints_cut, ints_upd, ints_rep, ints_splice, len_ints]
        omega
      · simp only [forgCin_d2, F12, F13, F15, allTold', dutiesTold, factsA, factsP, factsR, AV.facts, RW.facts, inK, and_true, Q.holds', E.i, E.s, E.n, D.nat, E.den, BO.den, UO.den, TO.den, D.toInt_int, D.toList_list, D.ints_ofInts, i64min, i64max, u8min, u8max, u16min, u16max, u32min, u32max, u64min, u64max, i32min, i32max, Om.sub, selI, ints_app, ints_cut, ints_upd, ints_rep, ints_splice, len_ints]
        try trivial
      · simp only [forgCin, forgCin_h2_0, forgCin_h2_2, forgCin_h2_3, forgCin_h2_4, forgCin_h2_5, forgCin_h2_6, forgCin_h2_7, forgCin_h2_8, forgCin_h2_9, forgCin_h2_17, forgCin_h2_18, forgCin_h2_19, forgCin_h2_22, forgCin_h2_23, forgCin_h2_24, forgCin_h2_25, forgCin_h2_26, F12, F13, F15, Int.zero_add, allTold', dutiesTold, factsA, factsP, factsR, AV.facts, RW.facts, inK, and_true, Q.holds', E.i, E.s, E.n, D.nat, E.den, BO.den, UO.den, TO.den, D.toInt_int, D.toList_list, D.ints_ofInts, i64min, i64max, u8min, u8max, u16min, u16max, u32min, u32max, u64min, u64max, i32min, i32max, Om.sub, selI, ints_app, ints_cut, ints_upd, ints_rep, ints_splice, len_ints]
        and_intros <;> first | omega | (rw [mA, rA]; done) | (rw [mB, rB]; done) | (rw [cA]; exact wA) | (rw [cB]; exact wB) | rfl
      · simp only [forgCin_h2_0, forgCin_h2_2, forgCin_h2_3, forgCin_h2_4, forgCin_h2_5, forgCin_h2_6, forgCin_h2_7, forgCin_h2_8, forgCin_h2_9, forgCin_h2_17, forgCin_h2_18, forgCin_h2_19, forgCin_h2_22, forgCin_h2_23, forgCin_h2_24, forgCin_h2_25, forgCin_h2_26, allTold', dutiesTold, factsA, factsP, factsR, AV.facts, RW.facts, inK, and_true, Q.holds', E.i, E.s, E.n, D.nat, E.den, BO.den, UO.den, TO.den, D.toInt_int, D.toList_list, D.ints_ofInts, i64min, i64max, u8min, u8max, u16min, u16max, u32min, u32max, u64min, u64max, i32min, i32max, Om.sub, selI, ints_app, ints_cut, ints_upd, ints_rep, ints_splice, len_ints]
        omega

def forgCni : LSpec := { n := 113, next := 4, pat := [(12, .sint .i64 (.var 0)), (8, .ptr 1 0), (9, .ptr 3 0), (2, .sslice 5 (.var 4) (.var 5) (.var 6) false), (1, .sslice 7 (.var 34) (.var 35) (.var 36) false)], rows := [(1, .cells 37 0 false false [.bool true, .sint .u8 (.bi .sel (.var 7) (.int 0)), .sint .u8 (.bi .sel (.var 7) (.int 1)), .sint .u8 (.bi .sel (.var 7) (.int 2)), .sint .u8 (.bi .sel (.var 7) (.int 3)), .sint .u8 (.bi .sel (.var 7) (.int 4)), .sint .u8 (.bi .sel (.var 7) (.int 5)), .sint .u8 (.bi .sel (.var 7) (.int 6)), .sint .u8 (.bi .sel (.var 7) (.int 7)), .sint .u8 (.bi .sel (.var 7) (.int 8)), .sint .u8 (.bi .sel (.var 7) (.int 9)), .sint .u8 (.bi .sel (.var 7) (.int 10)), .sint .u8 (.bi .sel (.var 7) (.int 11)), .sint .u8 (.bi .sel (.var 7) (.int 12)), .sint .u8 (.bi .sel (.var 7) (.int 13)), .sint .u8 (.bi .sel (.var 7) (.int 14)), .sint .u8 (.bi .sel (.var 7) (.int 15)), .sint .i64 (.var 8), .sint .u32 (.var 9)]), (3, .cells 37 0 false false [.bool true, .sint .u8 (.bi .sel (.var 17) (.int 0)), .sint .u8 (.bi .sel (.var 17) (.int 1)), .sint .u8 (.bi .sel (.var 17) (.int 2)), .sint .u8 (.bi .sel (.var 17) (.int 3)), .sint .u8 (.bi .sel (.var 17) (.int 4)), .sint .u8 (.bi .sel (.var 17) (.int 5)), .sint .u8 (.bi .sel (.var 17) (.int 6)), .sint .u8 (.bi .sel (.var 17) (.int 7)), .sint .u8 (.bi .sel (.var 17) (.int 8)), .sint .u8 (.bi .sel (.var 17) (.int 9)), .sint .u8 (.bi .sel (.var 17) (.int 10)), .sint .u8 (.bi .sel (.var 17) (.int 11)), .sint .u8 (.bi .sel (.var 17) (.int 12)), .sint .u8 (.bi .sel (.var 17) (.int 13)), .sint .u8 (.bi .sel (.var 17) (.int 14)), .sint .u8 (.bi .sel (.var 17) (.int 15)), .sint .i64 (.var 18), .sint .u32 (.var 19)]), (5, .eseq ⟨.u8, .var 3, .var 2⟩), (7, .eseq ⟨.u8, .var 33, .var 32⟩)], pre := [(.le (.int 0) (.var 0), true), (.le (.var 0) (.var 5), true), (.le (.bi .add (.var 4) (.var 5)) (.var 3), true), (.le (.var 5) (.int 500), true), (.le (.int 16) (.var 5), true), (.le (.bi .add (.var 34) (.var 35)) (.var 33), true), (.le (.var 35) (.int 500), true), (.same (.var 7) (.fn 12 (.bi .pair (.var 2) (.bi .pair (.int 0) (.bi .pair (.int 0) (.bi .pair (.var 2) (.bi .pair (.var 4) (.bi .pair (.var 0) (.int 0)))))))), true), (.eq (.var 8) (.bi .add (.int 0) (.var 0)), true), (.eq (.var 9) (.fn 13 (.bi .pair (.var 2) (.bi .pair (.int 0) (.bi .pair (.int 0) (.bi .pair (.var 2) (.bi .pair (.var 4) (.bi .pair (.var 0) (.int 0)))))))), true), (.same (.var 17) (.fn 12 (.bi .pair (.var 32) (.bi .pair (.var 34) (.bi .pair (.var 35) (.bi .pair (.var 2) (.bi .pair (.var 4) (.bi .pair (.var 0) (.int 0)))))))), true), (.eq (.var 18) (.bi .add (.var 35) (.var 0)), true), (.eq (.var 19) (.fn 13 (.bi .pair (.var 32) (.bi .pair (.var 34) (.bi .pair (.var 35) (.bi .pair (.var 2) (.bi .pair (.var 4) (.bi .pair (.var 0) (.int 0)))))))), true)], x := 4, fin := [(8, .ptr 1 0), (9, .ptr 3 0), (2, .sslice 5 (.var 4) (.var 5) (.var 6) false)], frows := [(1, .cells 37 0 false false [.bool true, .sint .u8 (.bi .sel (.fn 12 (.bi .pair (.var 2) (.bi .pair (.int 0) (.bi .pair (.int 0) (.bi .pair (.var 2) (.bi .pair (.var 4) (.bi .pair (.var 5) (.int 0)))))))) (.int 0)), .sint .u8 (.bi .sel (.fn 12 (.bi .pair (.var 2) (.bi .pair (.int 0) (.bi .pair (.int 0) (.bi .pair (.var 2) (.bi .pair (.var 4) (.bi .pair (.var 5) (.int 0)))))))) (.int 1)), .sint .u8 (.bi .sel (.fn 12 (.bi .pair (.var 2) (.bi .pair (.int 0) (.bi .pair (.int 0) (.bi .pair (.var 2) (.bi .pair (.var 4) (.bi .pair (.var 5) (.int 0)))))))) (.int 2)), .sint .u8 (.bi .sel (.fn 12 (.bi .pair (.var 2) (.bi .pair (.int 0) (.bi .pair (.int 0) (.bi .pair (.var 2) (.bi .pair (.var 4) (.bi .pair (.var 5) (.int 0)))))))) (.int 3)), .sint .u8 (.bi .sel (.fn 12 (.bi .pair (.var 2) (.bi .pair (.int 0) (.bi .pair (.int 0) (.bi .pair (.var 2) (.bi .pair (.var 4) (.bi .pair (.var 5) (.int 0)))))))) (.int 4)), .sint .u8 (.bi .sel (.fn 12 (.bi .pair (.var 2) (.bi .pair (.int 0) (.bi .pair (.int 0) (.bi .pair (.var 2) (.bi .pair (.var 4) (.bi .pair (.var 5) (.int 0)))))))) (.int 5)), .sint .u8 (.bi .sel (.fn 12 (.bi .pair (.var 2) (.bi .pair (.int 0) (.bi .pair (.int 0) (.bi .pair (.var 2) (.bi .pair (.var 4) (.bi .pair (.var 5) (.int 0)))))))) (.int 6)), .sint .u8 (.bi .sel (.fn 12 (.bi .pair (.var 2) (.bi .pair (.int 0) (.bi .pair (.int 0) (.bi .pair (.var 2) (.bi .pair (.var 4) (.bi .pair (.var 5) (.int 0)))))))) (.int 7)), .sint .u8 (.bi .sel (.fn 12 (.bi .pair (.var 2) (.bi .pair (.int 0) (.bi .pair (.int 0) (.bi .pair (.var 2) (.bi .pair (.var 4) (.bi .pair (.var 5) (.int 0)))))))) (.int 8)), .sint .u8 (.bi .sel (.fn 12 (.bi .pair (.var 2) (.bi .pair (.int 0) (.bi .pair (.int 0) (.bi .pair (.var 2) (.bi .pair (.var 4) (.bi .pair (.var 5) (.int 0)))))))) (.int 9)), .sint .u8 (.bi .sel (.fn 12 (.bi .pair (.var 2) (.bi .pair (.int 0) (.bi .pair (.int 0) (.bi .pair (.var 2) (.bi .pair (.var 4) (.bi .pair (.var 5) (.int 0)))))))) (.int 10)), .sint .u8 (.bi .sel (.fn 12 (.bi .pair (.var 2) (.bi .pair (.int 0) (.bi .pair (.int 0) (.bi .pair (.var 2) (.bi .pair (.var 4) (.bi .pair (.var 5) (.int 0)))))))) (.int 11)), .sint .u8 (.bi .sel (.fn 12 (.bi .pair (.var 2) (.bi .pair (.int 0) (.bi .pair (.int 0) (.bi .pair (.var 2) (.bi .pair (.var 4) (.bi .pair (.var 5) (.int 0)))))))) (.int 12)), .sint .u8 (.bi .sel (.fn 12 (.bi .pair (.var 2) (.bi .pair (.int 0) (.bi .pair (.int 0) (.bi .pair (.var 2) (.bi .pair (.var 4) (.bi .pair (.var 5) (.int 0)))))))) (.int 13)), .sint .u8 (.bi .sel (.fn 12 (.bi .pair (.var 2) (.bi .pair (.int 0) (.bi .pair (.int 0) (.bi .pair (.var 2) (.bi .pair (.var 4) (.bi .pair (.var 5) (.int 0)))))))) (.int 14)), .sint .u8 (.bi .sel (.fn 12 (.bi .pair (.var 2) (.bi .pair (.int 0) (.bi .pair (.int 0) (.bi .pair (.var 2) (.bi .pair (.var 4) (.bi .pair (.var 5) (.int 0)))))))) (.int 15)), .sint .i64 (.bi .add (.int 0) (.var 5)), .sint .u32 (.fn 13 (.bi .pair (.var 2) (.bi .pair (.int 0) (.bi .pair (.int 0) (.bi .pair (.var 2) (.bi .pair (.var 4) (.bi .pair (.var 5) (.int 0))))))))]), (3, .cells 37 0 false false [.bool true, .sint .u8 (.bi .sel (.fn 12 (.bi .pair (.var 32) (.bi .pair (.var 34) (.bi .pair (.var 35) (.bi .pair (.var 2) (.bi .pair (.var 4) (.bi .pair (.var 5) (.int 0)))))))) (.int 0)), .sint .u8 (.bi .sel (.fn 12 (.bi .pair (.var 32) (.bi .pair (.var 34) (.bi .pair (.var 35) (.bi .pair (.var 2) (.bi .pair (.var 4) (.bi .pair (.var 5) (.int 0)))))))) (.int 1)), .sint .u8 (.bi .sel (.fn 12 (.bi .pair (.var 32) (.bi .pair (.var 34) (.bi .pair (.var 35) (.bi .pair (.var 2) (.bi .pair (.var 4) (.bi .pair (.var 5) (.int 0)))))))) (.int 2)), .sint .u8 (.bi .sel (.fn 12 (.bi .pair (.var 32) (.bi .pair (.var 34) (.bi .pair (.var 35) (.bi .pair (.var 2) (.bi .pair (.var 4) (.bi .pair (.var 5) (.int 0)))))))) (.int 3)), .sint .u8 (.bi .sel (.fn 12 (.bi .pair (.var 32) (.bi .pair (.var 34) (.bi .pair (.var 35) (.bi .pair (.var 2) (.bi .pair (.var 4) (.bi .pair (.var 5) (.int 0)))))))) (.int 4)), .sint .u8 (.bi .sel (.fn 12 (.bi .pair (.var 32) (.bi .pair (.var 34) (.bi .pair (.var 35) (.bi .pair (.var 2) (.bi .pair (.var 4) (.bi .pair (.var 5) (.int 0)))))))) (.int 5)), .sint .u8 (.bi .sel (.fn 12 (.bi .pair (.var 32) (.bi .pair (.var 34) (.bi .pair (.var 35) (.bi .pair (.var 2) (.bi .pair (.var 4) (.bi .pair (.var 5) (.int 0)))))))) (.int 6)), .sint .u8 (.bi .sel (.fn 12 (.bi .pair (.var 32) (.bi .pair (.var 34) (.bi .pair (.var 35) (.bi .pair (.var 2) (.bi .pair (.var 4) (.bi .pair (.var 5) (.int 0)))))))) (.int 7)), .sint .u8 (.bi .sel (.fn 12 (.bi .pair (.var 32) (.bi .pair (.var 34) (.bi .pair (.var 35) (.bi .pair (.var 2) (.bi .pair (.var 4) (.bi .pair (.var 5) (.int 0)))))))) (.int 8)), .sint .u8 (.bi .sel (.fn 12 (.bi .pair (.var 32) (.bi .pair (.var 34) (.bi .pair (.var 35) (.bi .pair (.var 2) (.bi .pair (.var 4) (.bi .pair (.var 5) (.int 0)))))))) (.int 9)), .sint .u8 (.bi .sel (.fn 12 (.bi .pair (.var 32) (.bi .pair (.var 34) (.bi .pair (.var 35) (.bi .pair (.var 2) (.bi .pair (.var 4) (.bi .pair (.var 5) (.int 0)))))))) (.int 10)), .sint .u8 (.bi .sel (.fn 12 (.bi .pair (.var 32) (.bi .pair (.var 34) (.bi .pair (.var 35) (.bi .pair (.var 2) (.bi .pair (.var 4) (.bi .pair (.var 5) (.int 0)))))))) (.int 11)), .sint .u8 (.bi .sel (.fn 12 (.bi .pair (.var 32) (.bi .pair (.var 34) (.bi .pair (.var 35) (.bi .pair (.var 2) (.bi .pair (.var 4) (.bi .pair (.var 5) (.int 0)))))))) (.int 12)), .sint .u8 (.bi .sel (.fn 12 (.bi .pair (.var 32) (.bi .pair (.var 34) (.bi .pair (.var 35) (.bi .pair (.var 2) (.bi .pair (.var 4) (.bi .pair (.var 5) (.int 0)))))))) (.int 13)), .sint .u8 (.bi .sel (.fn 12 (.bi .pair (.var 32) (.bi .pair (.var 34) (.bi .pair (.var 35) (.bi .pair (.var 2) (.bi .pair (.var 4) (.bi .pair (.var 5) (.int 0)))))))) (.int 14)), .sint .u8 (.bi .sel (.fn 12 (.bi .pair (.var 32) (.bi .pair (.var 34) (.bi .pair (.var 35) (.bi .pair (.var 2) (.bi .pair (.var 4) (.bi .pair (.var 5) (.int 0)))))))) (.int 15)), .sint .i64 (.bi .add (.var 35) (.var 5)), .sint .u32 (.fn 13 (.bi .pair (.var 32) (.bi .pair (.var 34) (.bi .pair (.var 35) (.bi .pair (.var 2) (.bi .pair (.var 4) (.bi .pair (.var 5) (.int 0))))))))])], same := [1, 3, 5], chg := [1, 2, 8, 9, 12, 13, 14, 67, 68, 69, 70, 71, 72, 73, 74, 75, 76, 77, 78, 79, 80, 81, 82, 83, 84, 85, 86, 87, 88, 89, 90, 91, 92] }
def forgCni_t0 : List (Q × Bool) := [((.fit .i64 (.var 5)), true),
  ((.le (.var 5) (.var 0)), true)]
def forgCni_d0 : List Duty := [(true, (.bi .sel (.var 7) (.int 0)), (.bi .sel (.fn 12 (.bi .pair (.var 2) (.bi .pair (.int 0) (.bi .pair (.int 0) (.bi .pair (.var 2) (.bi .pair (.var 4) (.bi .pair (.var 5) (.int 0)))))))) (.int 0))), (true, (.bi .sel (.var 7) (.int 1)), (.bi .sel (.fn 12 (.bi .pair (.var 2) (.bi .pair (.int 0) (.bi .pair (.int 0) (.bi .pair (.var 2) (.bi .pair (.var 4) (.bi .pair (.var 5) (.int 0)))))))) (.int 1))), (true, (.bi .sel (.var 7) (.int 2)), (.bi .sel (.fn 12 (.bi .pair (.var 2) (.bi .pair (.int 0) (.bi .pair (.int 0) (.bi .pair (.var 2) (.bi .pair (.var 4) (.bi .pair (.var 5) (.int 0)))))))) (.int 2))), (true, (.bi .sel (.var 7) (.int 3)), (.bi .sel (.fn 12 (.bi .pair (.var 2) (.bi .pair (.int 0) (.bi .pair (.int 0) (.bi .pair (.var 2) (.bi .pair (.var 4) (.bi .pair (.var 5) (.int 0)))))))) (.int 3))), (true, (.bi .sel (.var 7) (.int 4)), (.bi .sel (.fn 12 (.bi .pair (.var 2) (.bi .pair (.int 0) (.bi .pair (.int 0) (.bi .pair (.var 2) (.bi .pair (.var 4) (.bi .pair (.var 5) (.int 0)))))))) (.int 4))), (true, (.bi .sel (.var 7) (.int 5)), (.bi .sel (.fn 12 (.bi .pair (.var 2) (.bi .pair (.int 0) (.bi .pair (.int 0) (.bi .pair (.var 2) (.bi .pair (.var 4) (.bi .pair (.var 5) (.int 0)))))))) (.int 5))), (true, (.bi .sel (.var 7) (.int 6)), (.bi .sel (.fn 12 (.bi .pair (.var 2) (.bi .pair (.int 0) (.bi .pair (.int 0) (.bi .pair (.var 2) (.bi .pair (.var 4) (.bi .pair (.var 5) (.int 0)))))))) (.int 6))), (true, (.bi .sel (.var 7) (.int 7)), (.bi .sel (.fn 12 (.bi .pair (.var 2) (.bi .pair (.int 0) (.bi .pair (.int 0) (.bi .pair (.var 2) (.bi .pair (.var 4) (.bi .pair (.var 5) (.int 0)))))))) (.int 7))), (true, (.bi .sel (.var 7) (.int 8)), (.bi .sel (.fn 12 (.bi .pair (.var 2) (.bi .pair (.int 0) (.bi .pair (.int 0) (.bi .pair (.var 2) (.bi .pair (.var 4) (.bi .pair (.var 5) (.int 0)))))))) (.int 8))), (true, (.bi .sel (.var 7) (.int 9)), (.bi .sel (.fn 12 (.bi .pair (.var 2) (.bi .pair (.int 0) (.bi .pair (.int 0) (.bi .pair (.var 2) (.bi .pair (.var 4) (.bi .pair (.var 5) (.int 0)))))))) (.int 9))), (true, (.bi .sel (.var 7) (.int 10)), (.bi .sel (.fn 12 (.bi .pair (.var 2) (.bi .pair (.int 0) (.bi .pair (.int 0) (.bi .pair (.var 2) (.bi .pair (.var 4) (.bi .pair (.var 5) (.int 0)))))))) (.int 10))), (true, (.bi .sel (.var 7) (.int 11)), (.bi .sel (.fn 12 (.bi .pair (.var 2) (.bi .pair (.int 0) (.bi .pair (.int 0) (.bi .pair (.var 2) (.bi .pair (.var 4) (.bi .pair (.var 5) (.int 0)))))))) (.int 11))), (true, (.bi .sel (.var 7) (.int 12)), (.bi .sel (.fn 12 (.bi .pair (.var 2) (.bi .pair (.int 0) (.bi .pair (.int 0) (.bi .pair (.var 2) (.bi .pair (.var 4) (.bi .pair (.var 5) (.int 0)))))))) (.int 12))), (true, (.bi .sel (.var 7) (.int 13)), (.bi .sel (.fn 12 (.bi .pair (.var 2) (.bi .pair (.int 0) (.bi .pair (.int 0) (.bi .pair (.var 2) (.bi .pair (.var 4) (.bi .pair (.var 5) (.int 0)))))))) (.int 13))), (true, (.bi .sel (.var 7) (.int 14)), (.bi .sel (.fn 12 (.bi .pair (.var 2) (.bi .pair (.int 0) (.bi .pair (.int 0) (.bi .pair (.var 2) (.bi .pair (.var 4) (.bi .pair (.var 5) (.int 0)))))))) (.int 14))), (true, (.bi .sel (.var 7) (.int 15)), (.bi .sel (.fn 12 (.bi .pair (.var 2) (.bi .pair (.int 0) (.bi .pair (.int 0) (.bi .pair (.var 2) (.bi .pair (.var 4) (.bi .pair (.var 5) (.int 0)))))))) (.int 15))), (true, (.var 8), (.bi .add (.int 0) (.var 5))), (true, (.var 9), (.fn 13 (.bi .pair (.var 2) (.bi .pair (.int 0) (.bi .pair (.int 0) (.bi .pair (.var 2) (.bi .pair (.var 4) (.bi .pair (.var 5) (.int 0))))))))), (true, (.bi .sel (.var 17) (.int 0)), (.bi .sel (.fn 12 (.bi .pair (.var 32) (.bi .pair (.var 34) (.bi .pair (.var 35) (.bi .pair (.var 2) (.bi .pair (.var 4) (.bi .pair (.var 5) (.int 0)))))))) (.int 0))), (true, (.bi .sel (.var 17) (.int 1)), (.bi .sel (.fn 12 (.bi .pair (.var 32) (.bi .pair (.var 34) (.bi .pair (.var 35) (.bi .pair (.var 2) (.bi .pair (.var 4) (.bi .pair (.var 5) (.int 0)))))))) (.int 1))), (true, (.bi .sel (.var 17) (.int 2)), (.bi .sel (.fn 12 (.bi .pair (.var 32) (.bi .pair (.var 34) (.bi .pair (.var 35) (.bi .pair (.var 2) (.bi .pair (.var 4) (.bi .pair (.var 5) (.int 0)))))))) (.int 2))), (true, (.bi .sel (.var 17) (.int 3)), (.bi .sel (.fn 12 (.bi .pair (.var 32) (.bi .pair (.var 34) (.bi .pair (.var 35) (.bi .pair (.var 2) (.bi .pair (.var 4) (.bi .pair (.var 5) (.int 0)))))))) (.int 3))), (true, (.bi .sel (.var 17) (.int 4)), (.bi .sel (.fn 12 (.bi .pair (.var 32) (.bi .pair (.var 34) (.bi .pair (.var 35) (.bi .pair (.var 2) (.bi .pair (.var 4) (.bi .pair (.var 5) (.int 0)))))))) (.int 4))), (true, (.bi .sel (.var 17) (.int 5)), (.bi .sel (.fn 12 (.bi .pair (.var 32) (.bi .pair (.var 34) (.bi .pair (.var 35) (.bi .pair (.var 2) (.bi .pair (.var 4) (.bi .pair (.var 5) (.int 0)))))))) (.int 5))), (true, (.bi .sel (.var 17) (.int 6)), (.bi .sel (.fn 12 (.bi .pair (.var 32) (.bi .pair (.var 34) (.bi .pair (.var 35) (.bi .pair (.var 2) (.bi .pair (.var 4) (.bi .pair (.var 5) (.int 0)))))))) (.int 6))), (true, (.bi .sel (.var 17) (.int 7)), (.bi .sel (.fn 12 (.bi .pair (.var 32) (.bi .pair (.var 34) (.bi .pair (.var 35) (.bi .pair (.var 2) (.bi .pair (.var 4) (.bi .pair (.var 5) (.int 0)))))))) (.int 7))), (true, (.bi .sel (.var 17) (.int 8)), (.bi .sel (.fn 12 (.bi .pair (.var 32) (.bi .pair (.var 34) (.bi .pair (.var 35) (.bi .pair (.var 2) (.bi .pair (.var 4) (.bi .pair (.var 5) (.int 0)))))))) (.int 8))), (true, (.bi .sel (.var 17) (.int 9)), (.bi .sel (.fn 12 (.bi .pair (.var 32) (.bi .pair (.var 34) (.bi .pair (.var 35) (.bi .pair (.var 2) (.bi .pair (.var 4) (.bi .pair (.var 5) (.int 0)))))))) (.int 9))), (true, (.bi .sel (.var 17) (.int 10)), (.bi .sel (.fn 12 (.bi .pair (.var 32) (.bi .pair (.var 34) (.bi .pair (.var 35) (.bi .pair (.var 2) (.bi .pair (.var 4) (.bi .pair (.var 5) (.int 0)))))))) (.int 10))), (true, (.bi .sel (.var 17) (.int 11)), (.bi .sel (.fn 12 (.bi .pair (.var 32) (.bi .pair (.var 34) (.bi .pair (.var 35) (.bi .pair (.var 2) (.bi .pair (.var 4) (.bi .pair (.var 5) (.int 0)))))))) (.int 11))), (true, (.bi .sel (.var 17) (.int 12)), (.bi .sel (.fn 12 (.bi .pair (.var 32) (.bi .pair (.var 34) (.bi .pair (.var 35) (.bi .pair (.var 2) (.bi .pair (.var 4) (.bi .pair (.var 5) (.int 0)))))))) (.int 12))), (true, (.bi .sel (.var 17) (.int 13)), (.bi .sel (.fn 12 (.bi .pair (.var 32) (.bi .pair (.var 34) (.bi .pair (.var 35) (.bi .pair (.var 2) (.bi .pair (.var 4) (.bi .pair (.var 5) (.int 0)))))))) (.int 13))), (true, (.bi .sel (.var 17) (.int 14)), (.bi .sel (.fn 12 (.bi .pair (.var 32) (.bi .pair (.var 34) (.bi .pair (.var 35) (.bi .pair (.var 2) (.bi .pair (.var 4) (.bi .pair (.var 5) (.int 0)))))))) (.int 14))), (true, (.bi .sel (.var 17) (.int 15)), (.bi .sel (.fn 12 (.bi .pair (.var 32) (.bi .pair (.var 34) (.bi .pair (.var 35) (.bi .pair (.var 2) (.bi .pair (.var 4) (.bi .pair (.var 5) (.int 0)))))))) (.int 15))), (true, (.var 18), (.bi .add (.var 35) (.var 5))), (true, (.var 19), (.fn 13 (.bi .pair (.var 32) (.bi .pair (.var 34) (.bi .pair (.var 35) (.bi .pair (.var 2) (.bi .pair (.var 4) (.bi .pair (.var 5) (.int 0)))))))))]
theorem forgCni_y0 : endD forgCni [(7, 7), (5, 5), (3, 3), (1, 1)] 1000 (roundC Try.prog [] [(22, pushC)] [] 3000 40 7 [4, 1, 0, 1, 1, 1, 1, 1, 1, 1] (tellA forgCni_t0) forgCni) = some forgCni_d0 := by kernel_rfl
def forgCni_t1 : List (Q × Bool) := [((.fit .i64 (.var 5)), true),
  ((.le (.var 5) (.var 0)), false),
  ((.le (.int 0) (.var 0)), true),
  ((.le (.int 0) (.bi .add (.var 4) (.var 0))), true),
  ((.le (.var 3) (.bi .add (.var 4) (.var 0))), false),
  ((.le (.int 16) (.un .len (.var 7))), true),
  ((.le (.int 0) (.var 8)), true),
  ((.le (.var 8) (.int 1000000)), true),
  ((.le (.int 16) (.un .len (.var 17))), true),
  ((.le (.int 0) (.var 18)), true),
  ((.le (.var 18) (.int 1000000)), true),
  ((.fit .i64 (.bi .add (.var 0) (.int 1))), true),
  ((.le (.int 16) (.bi .add (.var 0) (.int 1))), true),
  ((.eq (.fn 15 (.bi .pair (.var 9) (.bi .pair (.var 8) (.bi .pair (.var 7) (.bi .pair (.bi .sel (.var 2) (.bi .add (.var 4) (.var 0))) (.int 0)))))) (.fn 15 (.bi .pair (.var 19) (.bi .pair (.var 18) (.bi .pair (.var 17) (.bi .pair (.bi .sel (.var 2) (.bi .add (.var 4) (.var 0))) (.int 0))))))), true)]
def forgCni_d1 : List Duty := []
def forgCni_h1 : List (Nat × E) := [(33, (.var 33)), (32, (.var 32)), (3, (.var 3)), (2, (.var 2)), (19, (.fn 15 (.bi .pair (.var 19) (.bi .pair (.var 18) (.bi .pair (.var 17) (.bi .pair (.bi .sel (.var 2) (.bi .add (.var 4) (.var 0))) (.int 0))))))), (18, (.bi .add (.var 18) (.int 1))), (17, (.tr .upd (.var 17) (.bi (.iop .rem .i64) (.var 18) (.int 16)) (.bi .sel (.var 2) (.bi .add (.var 4) (.var 0))))), (9, (.fn 15 (.bi .pair (.var 9) (.bi .pair (.var 8) (.bi .pair (.var 7) (.bi .pair (.bi .sel (.var 2) (.bi .add (.var 4) (.var 0))) (.int 0))))))), (8, (.bi .add (.var 8) (.int 1))), (7, (.tr .upd (.var 7) (.bi (.iop .rem .i64) (.var 8) (.int 16)) (.bi .sel (.var 2) (.bi .add (.var 4) (.var 0))))), (34, (.var 34)), (35, (.var 35)), (36, (.var 36)), (4, (.var 4)), (5, (.var 5)), (6, (.var 6)), (0, (.bi .add (.var 0) (.int 1)))]
theorem forgCni_h1_0 : lookE forgCni_h1 0 = (.bi .add (.var 0) (.int 1)) := rfl
theorem forgCni_h1_2 : lookE forgCni_h1 2 = (.var 2) := rfl
theorem forgCni_h1_3 : lookE forgCni_h1 3 = (.var 3) := rfl
theorem forgCni_h1_4 : lookE forgCni_h1 4 = (.var 4) := rfl
theorem forgCni_h1_5 : lookE forgCni_h1 5 = (.var 5) := rfl
theorem forgCni_h1_6 : lookE forgCni_h1 6 = (.var 6) := rfl
theorem forgCni_h1_7 : lookE forgCni_h1 7 = (.tr .upd (.var 7) (.bi (.iop .rem .i64) (.var 8) (.int 16)) (.bi .sel (.var 2) (.bi .add (.var 4) (.var 0)))) := rfl
theorem forgCni_h1_8 : lookE forgCni_h1 8 = (.bi .add (.var 8) (.int 1)) := rfl
theorem forgCni_h1_9 : lookE forgCni_h1 9 = (.fn 15 (.bi .pair (.var 9) (.bi .pair (.var 8) (.bi .pair (.var 7) (.bi .pair (.bi .sel (.var 2) (.bi .add (.var 4) (.var 0))) (.int 0)))))) := rfl
theorem forgCni_h1_17 : lookE forgCni_h1 17 = (.tr .upd (.var 17) (.bi (.iop .rem .i64) (.var 18) (.int 16)) (.bi .sel (.var 2) (.bi .add (.var 4) (.var 0)))) := rfl
theorem forgCni_h1_18 : lookE forgCni_h1 18 = (.bi .add (.var 18) (.int 1)) := rfl
theorem forgCni_h1_19 : lookE forgCni_h1 19 = (.fn 15 (.bi .pair (.var 19) (.bi .pair (.var 18) (.bi .pair (.var 17) (.bi .pair (.bi .sel (.var 2) (.bi .add (.var 4) (.var 0))) (.int 0)))))) := rfl
theorem forgCni_h1_32 : lookE forgCni_h1 32 = (.var 32) := rfl
theorem forgCni_h1_33 : lookE forgCni_h1 33 = (.var 33) := rfl
theorem forgCni_h1_34 : lookE forgCni_h1 34 = (.var 34) := rfl
theorem forgCni_h1_35 : lookE forgCni_h1 35 = (.var 35) := rfl
theorem forgCni_h1_36 : lookE forgCni_h1 36 = (.var 36) := rfl
theorem forgCni_y1 : nextD forgCni forgCni_h1 [(7, 7), (5, 5), (3, 3), (1, 1)] (roundC Try.prog [] [(22, pushC)] [] 3000 40 7 [4, 1, 0, 1, 1, 1, 1, 1, 1, 1] (tellA forgCni_t1) forgCni) = some forgCni_d1 := by kernel_rfl
def forgCni_t2 : List (Q × Bool) := [((.fit .i64 (.var 5)), true),
  ((.le (.var 5) (.var 0)), false),
  ((.le (.int 0) (.var 0)), true),
  ((.le (.int 0) (.bi .add (.var 4) (.var 0))), true),
  ((.le (.var 3) (.bi .add (.var 4) (.var 0))), false),
  ((.le (.int 16) (.un .len (.var 7))), true),
  ((.le (.int 0) (.var 8)), true),
  ((.le (.var 8) (.int 1000000)), true),
  ((.le (.int 16) (.un .len (.var 17))), true),
  ((.le (.int 0) (.var 18)), true),
  ((.le (.var 18) (.int 1000000)), true),
  ((.fit .i64 (.bi .add (.var 0) (.int 1))), true),
  ((.le (.int 16) (.bi .add (.var 0) (.int 1))), false)]
def forgCni_d2 : List Duty := []
def forgCni_h2 : List (Nat × E) := [(33, (.var 33)), (32, (.var 32)), (3, (.var 3)), (2, (.var 2)), (19, (.fn 15 (.bi .pair (.var 19) (.bi .pair (.var 18) (.bi .pair (.var 17) (.bi .pair (.bi .sel (.var 2) (.bi .add (.var 4) (.var 0))) (.int 0))))))), (18, (.bi .add (.var 18) (.int 1))), (17, (.tr .upd (.var 17) (.bi (.iop .rem .i64) (.var 18) (.int 16)) (.bi .sel (.var 2) (.bi .add (.var 4) (.var 0))))), (9, (.fn 15 (.bi .pair (.var 9) (.bi .pair (.var 8) (.bi .pair (.var 7) (.bi .pair (.bi .sel (.var 2) (.bi .add (.var 4) (.var 0))) (.int 0))))))), (8, (.bi .add (.var 8) (.int 1))), (7, (.tr .upd (.var 7) (.bi (.iop .rem .i64) (.var 8) (.int 16)) (.bi .sel (.var 2) (.bi .add (.var 4) (.var 0))))), (34, (.var 34)), (35, (.var 35)), (36, (.var 36)), (4, (.var 4)), (5, (.var 5)), (6, (.var 6)), (0, (.bi .add (.var 0) (.int 1)))]
theorem forgCni_h2_0 : lookE forgCni_h2 0 = (.bi .add (.var 0) (.int 1)) := rfl
theorem forgCni_h2_2 : lookE forgCni_h2 2 = (.var 2) := rfl
theorem forgCni_h2_3 : lookE forgCni_h2 3 = (.var 3) := rfl
theorem forgCni_h2_4 : lookE forgCni_h2 4 = (.var 4) := rfl
theorem forgCni_h2_5 : lookE forgCni_h2 5 = (.var 5) := rfl
theorem forgCni_h2_6 : lookE forgCni_h2 6 = (.var 6) := rfl
theorem forgCni_h2_7 : lookE forgCni_h2 7 = (.tr .upd (.var 7) (.bi (.iop .rem .i64) (.var 8) (.int 16)) (.bi .sel (.var 2) (.bi .add (.var 4) (.var 0)))) := rfl
theorem forgCni_h2_8 : lookE forgCni_h2 8 = (.bi .add (.var 8) (.int 1)) := rfl
theorem forgCni_h2_9 : lookE forgCni_h2 9 = (.fn 15 (.bi .pair (.var 9) (.bi .pair (.var 8) (.bi .pair (.var 7) (.bi .pair (.bi .sel (.var 2) (.bi .add (.var 4) (.var 0))) (.int 0)))))) := rfl
theorem forgCni_h2_17 : lookE forgCni_h2 17 = (.tr .upd (.var 17) (.bi (.iop .rem .i64) (.var 18) (.int 16)) (.bi .sel (.var 2) (.bi .add (.var 4) (.var 0)))) := rfl
theorem forgCni_h2_18 : lookE forgCni_h2 18 = (.bi .add (.var 18) (.int 1)) := rfl
theorem forgCni_h2_19 : lookE forgCni_h2 19 = (.fn 15 (.bi .pair (.var 19) (.bi .pair (.var 18) (.bi .pair (.var 17) (.bi .pair (.bi .sel (.var 2) (.bi .add (.var 4) (.var 0))) (.int 0)))))) := rfl
theorem forgCni_h2_32 : lookE forgCni_h2 32 = (.var 32) := rfl
theorem forgCni_h2_33 : lookE forgCni_h2 33 = (.var 33) := rfl
theorem forgCni_h2_34 : lookE forgCni_h2 34 = (.var 34) := rfl
theorem forgCni_h2_35 : lookE forgCni_h2 35 = (.var 35) := rfl
theorem forgCni_h2_36 : lookE forgCni_h2 36 = (.var 36) := rfl
theorem forgCni_y2 : nextD forgCni forgCni_h2 [(7, 7), (5, 5), (3, 3), (1, 1)] (roundC Try.prog [] [(22, pushC)] [] 3000 40 7 [4, 1, 0, 1, 1, 1, 1, 1, 1, 1] (tellA forgCni_t2) forgCni) = some forgCni_d2 := by kernel_rfl
theorem forgCni_holds : LHolds Try.prog (loopAt Try.prog 7 [4, 1, 0, 1, 1, 1, 1, 1, 1, 1]) forgCni F := by
  refine loop_roundsC sound (tableNil _ _) (specsCons pushC_holds (specsNil _ _)) (oversNil _ _) (fuel := 3000) (depth := 40) (by kernel_rfl) (by kernel_rfl) (by kernel_rfl) (fun d => ((d 5).toInt - (d 0).toInt).toNat) fun d hp hR hA => ?_
  have hp := allTold'_iff.2 hp
  simp only [forgCni, allTold', dutiesTold, factsA, factsP, factsR, AV.facts, RW.facts, inK, and_true, Q.holds', E.i, E.s, E.n, D.nat, E.den, BO.den, UO.den, TO.den, D.toInt_int, D.toList_list, D.ints_ofInts, i64min, i64max, u8min, u8max, u16min, u16max, u32min, u32max, u64min, u64max, i32min, i32max, Om.sub, selI, ints_app, ints_cut, ints_upd, ints_rep, ints_splice, len_ints] at hp hR hA
  simp only [F12, F13, D.toInt_int, D.ints_ofInts, Int.zero_add] at hp
  obtain ⟨p0, p1, p2, p3, p4, p5, p6, kA, cA, uA, kB, cB, uB⟩ := hp
  have elA : ((d 7).ints.length : Nat) = 16 := by rw [kA, ringL_len]
  have elB : ((d 17).ints.length : Nat) = 16 := by rw [kB, ringL_len]
  by_cases h : (d 5).toInt ≤ (d 0).toInt
  · have e5 : (d 5).toInt = (d 0).toInt := by omega
    refine ⟨tellA forgCni_t0, tellA_ok (allTold'_iff.1 ?_), .inl ⟨_, _, _, forgCni_y0, dutiesTold_ok ?_⟩⟩
    · simp only [forgCni_t0, allTold', dutiesTold, factsA, factsP, factsR, AV.facts, RW.facts, inK, and_true, Q.holds', E.i, E.s, E.n, D.nat, E.den, BO.den, UO.den, TO.den, D.toInt_int, D.toList_list, D.ints_ofInts, i64min, i64max, u8min, u8max, u16min, u16max, u32min, u32max, u64min, u64max, i32min, i32max, Om.sub, selI, ints_app, ints_cut, ints_upd, ints_rep, ints_splice, len_ints]
      omega
    · simp only [forgCni_d0, F12, F13, Int.zero_add, allTold', dutiesTold, factsA, factsP, factsR, AV.facts, RW.facts, inK, and_true, Q.holds', E.i, E.s, E.n, D.nat, E.den, BO.den, UO.den, TO.den, D.toInt_int, D.toList_list, D.ints_ofInts, i64min, i64max, u8min, u8max, u16min, u16max, u32min, u32max, u64min, u64max, i32min, i32max, Om.sub, selI, ints_app, ints_cut, ints_upd, ints_rep, ints_splice, len_ints]
      rw [e5]
      and_intros <;> first | omega | (rw [kA]; done) | (rw [kB]; done) | exact cA | exact cB | exact uA | exact uB | rfl
  · have lA := two_len (x := (d 2).ints) (y := (d 2).ints) (o := 0) (n := 0) (p := (d 4).toInt) (m := (d 0).toInt) (by omega) (by omega) (by omega) (by omega) (by omega) (by omega)
    have sA := two_step (x := (d 2).ints) (y := (d 2).ints) (o := 0) (n := 0) (p := (d 4).toInt) (m := (d 0).toInt) (by omega) (by omega) (by omega)
    have wA := winL_snoc (twoI (d 2).ints 0 0 (d 2).ints (d 4).toInt (d 0).toInt) (((d 2).ints[((d 4).toInt + (d 0).toInt).toNat]?).getD 0)
    have rA := ringL_snoc (twoI (d 2).ints 0 0 (d 2).ints (d 4).toInt (d 0).toInt) (((d 2).ints[((d 4).toInt + (d 0).toInt).toNat]?).getD 0)
    rw [← sA, lA] at wA
    rw [← sA, show (twoI (d 2).ints 0 0 (d 2).ints (d 4).toInt (d 0).toInt).length % 16 = ((0 + (d 0).toInt) % 16).toNat by omega] at rA
    have mA : iopI .rem .i64 (d 8).toInt 16 = (0 + (d 0).toInt) % 16 := by rw [cA, rem_emod _ (by omega)]; try omega
    rw [← kA, ← uA] at wA
    rw [← kA] at rA
    have lB := two_len (x := (d 32).ints) (y := (d 2).ints) (o := (d 34).toInt) (n := (d 35).toInt) (p := (d 4).toInt) (m := (d 0).toInt) (by omega) (by omega) (by omega) (by omega) (by omega) (by omega)
    have sB := two_step (x := (d 32).ints) (y := (d 2).ints) (o := (d 34).toInt) (n := (d 35).toInt) (p := (d 4).toInt) (m := (d 0).toInt) (by omega) (by omega) (by omega)
    have wB := winL_snoc (twoI (d 32).ints (d 34).toInt (d 35).toInt (d 2).ints (d 4).toInt (d 0).toInt) (((d 2).ints[((d 4).toInt + (d 0).toInt).toNat]?).getD 0)
    have rB := ringL_snoc (twoI (d 32).ints (d 34).toInt (d 35).toInt (d 2).ints (d 4).toInt (d 0).toInt) (((d 2).ints[((d 4).toInt + (d 0).toInt).toNat]?).getD 0)
    rw [← sB, lB] at wB
    rw [← sB, show (twoI (d 32).ints (d 34).toInt (d 35).toInt (d 2).ints (d 4).toInt (d 0).toInt).length % 16 = (((d 35).toInt + (d 0).toInt) % 16).toNat by omega] at rB
    have mB : iopI .rem .i64 (d 18).toInt 16 = ((d 35).toInt + (d 0).toInt) % 16 := by rw [cB, rem_emod _ (by omega)]; try omega
    rw [← kB, ← uB] at wB
    rw [← kB] at rB
    try simp only [Int.zero_add] at wA wB rA rB mA mB
    by_cases g : 16 ≤ (d 0).toInt + 1
    · have zA := win_two (x := (d 2).ints) (y := (d 2).ints) (o := 0) (n := 0) (p := (d 4).toInt) (m := (d 0).toInt + 1) (by omega) (by omega) (by omega) (by omega) (by omega) (by omega)
      have zB := win_two (x := (d 32).ints) (y := (d 2).ints) (o := (d 34).toInt) (n := (d 35).toInt) (p := (d 4).toInt) (m := (d 0).toInt + 1) (by omega) (by omega) (by omega) (by omega) (by omega) (by omega)
      rw [← wA] at zA
      rw [← wB] at zB
      have zz := zA.trans zB.symm
      refine ⟨tellA forgCni_t1, tellA_ok (allTold'_iff.1 ?_), .inr ⟨forgCni_h1, _, _, forgCni_y1, dutiesTold_ok ?_, allTold'_iff.1 ?_, ?_⟩⟩
      · simp only [forgCni_t1, F15, Int.zero_add, allTold', dutiesTold, factsA, factsP, factsR, AV.facts, RW.facts, inK, and_true, Q.holds', E.i, E.s, E.n, D.nat, E.den, BO.den, UO.den, TO.den, D.toInt_int, D.toList_list, D.ints_ofInts, i64min, i64max, u8min, u8max, u16min, u16max, u32min, u32max, u64min, u64max, i32min, i32max, Om.sub, selI, ints_app, ints_cut, ints_upd, ints_rep, ints_splice, len_ints]
        rw [cA, cB]
        omega
      · simp only [forgCni_d1, F12, F13, F15, allTold', dutiesTold, factsA, factsP, factsR, AV.facts, RW.facts, inK, and_true, Q.holds', E.i, E.s, E.n, D.nat, E.den, BO.den, UO.den, TO.den, D.toInt_int, D.toList_list, D.ints_ofInts, i64min, i64max, u8min, u8max, u16min, u16max, u32min, u32max, u64min, u64max, i32min, i32max, Om.sub, selI, ints_app, ints_cut, ints_upd, ints_rep, ints_splice, len_ints]
        try trivial
      · simp only [forgCni, forgCni_h1_0, forgCni_h1_2, forgCni_h1_3, forgCni_h1_4, forgCni_h1_5, forgCni_h1_6, forgCni_h1_7, forgCni_h1_8, forgCni_h1_9, forgCni_h1_17, forgCni_h1_18, forgCni_h1_19, forgCni_h1_32, forgCni_h1_33, forgCni_h1_34, forgCni_h1_35, forgCni_h1_36, F12, F13, F15, Int.zero_add, allTold', dutiesTold, factsA, factsP, factsR, AV.facts, RW.facts, inK, and_true, Q.holds', E.i, E.s, E.n, D.nat, E.den, BO.den, UO.den, TO.den, D.toInt_int, D.toList_list, D.ints_ofInts, i64min, i64max, u8min, u8max, u16min, u16max, u32min, u32max, u64min, u64max, i32min, i32max, Om.sub, selI, ints_app, ints_cut, ints_upd, ints_rep, ints_splice, len_ints]
        and_intros <;> first | omega | (rw [mA, rA]; done) | (rw [mB, rB]; done) | (rw [cA]; exact wA) | (rw [cB]; exact wB) | rfl
      · simp only [forgCni_h1_0, forgCni_h1_2, forgCni_h1_3, forgCni_h1_4, forgCni_h1_5, forgCni_h1_6, forgCni_h1_7, forgCni_h1_8, forgCni_h1_9, forgCni_h1_17, forgCni_h1_18, forgCni_h1_19, forgCni_h1_32, forgCni_h1_33, forgCni_h1_34, forgCni_h1_35, forgCni_h1_36, allTold', dutiesTold, factsA, factsP, factsR, AV.facts, RW.facts, inK, and_true, Q.holds', E.i, E.s, E.n, D.nat, E.den, BO.den, UO.den, TO.den, D.toInt_int, D.toList_list, D.ints_ofInts, i64min, i64max, u8min, u8max, u16min, u16max, u32min, u32max, u64min, u64max, i32min, i32max, Om.sub, selI, ints_app, ints_cut, ints_upd, ints_rep, ints_splice, len_ints]
        omega
    · refine ⟨tellA forgCni_t2, tellA_ok (allTold'_iff.1 ?_), .inr ⟨forgCni_h2, _, _, forgCni_y2, dutiesTold_ok ?_, allTold'_iff.1 ?_, ?_⟩⟩
      · simp only [forgCni_t2, F15, Int.zero_add, allTold', dutiesTold, factsA, factsP, factsR, AV.facts, RW.facts, inK, and_true, Q.holds', E.i, E.s, E.n, D.nat, E.den, BO.den, UO.den, TO.den, D.toInt_int, D.toList_list, D.ints_ofInts, i64min, i64max, u8min, u8max, u16min, u16max, u32min, u32max, u64min, u64max, i32min, i32max, Om.sub, selI, ints_app, ints_cut, ints_upd, ints_rep, ints_splice, len_ints]
        omega
      · simp only [forgCni_d2, F12, F13, F15, allTold', dutiesTold, factsA, factsP, factsR, AV.facts, RW.facts, inK, and_true, Q.holds', E.i, E.s, E.n, D.nat, E.den, BO.den, UO.den, TO.den, D.toInt_int, D.toList_list, D.ints_ofInts, i64min, i64max, u8min, u8max, u16min, u16max, u32min, u32max, u64min, u64max, i32min, i32max, Om.sub, selI, ints_app, ints_cut, ints_upd, ints_rep, ints_splice, len_ints]
        try trivial
      · simp only [forgCni, forgCni_h2_0, forgCni_h2_2, forgCni_h2_3, forgCni_h2_4, forgCni_h2_5, forgCni_h2_6, forgCni_h2_7, forgCni_h2_8, forgCni_h2_9, forgCni_h2_17, forgCni_h2_18, forgCni_h2_19, forgCni_h2_32, forgCni_h2_33, forgCni_h2_34, forgCni_h2_35, forgCni_h2_36, F12, F13, F15, Int.zero_add, allTold', dutiesTold, factsA, factsP, factsR, AV.facts, RW.facts, inK, and_true, Q.holds', E.i, E.s, E.n, D.nat, E.den, BO.den, UO.den, TO.den, D.toInt_int, D.toList_list, D.ints_ofInts, i64min, i64max, u8min, u8max, u16min, u16max, u32min, u32max, u64min, u64max, i32min, i32max, Om.sub, selI, ints_app, ints_cut, ints_upd, ints_rep, ints_splice, len_ints]
        and_intros <;> first | omega | (rw [mA, rA]; done) | (rw [mB, rB]; done) | (rw [cA]; exact wA) | (rw [cB]; exact wB) | rfl
      · simp only [forgCni_h2_0, forgCni_h2_2, forgCni_h2_3, forgCni_h2_4, forgCni_h2_5, forgCni_h2_6, forgCni_h2_7, forgCni_h2_8, forgCni_h2_9, forgCni_h2_17, forgCni_h2_18, forgCni_h2_19, forgCni_h2_32, forgCni_h2_33, forgCni_h2_34, forgCni_h2_35, forgCni_h2_36, allTold', dutiesTold, factsA, factsP, factsR, AV.facts, RW.facts, inK, and_true, Q.holds', E.i, E.s, E.n, D.nat, E.den, BO.den, UO.den, TO.den, D.toInt_int, D.toList_list, D.ints_ofInts, i64min, i64max, u8min, u8max, u16min, u16max, u32min, u32max, u64min, u64max, i32min, i32max, Om.sub, selI, ints_app, ints_cut, ints_upd, ints_rep, ints_splice, len_ints]
        omega

def forgCnn : LSpec := { n := 113, next := 3, pat := [(12, .sint .i64 (.var 0)), (8, .ptr 1 0), (9, .ptr 3 0), (2, .sslice 5 (.var 4) (.var 5) (.var 6) false)], rows := [(1, .cells 37 0 false false [.bool true, .sint .u8 (.bi .sel (.var 7) (.int 0)), .sint .u8 (.bi .sel (.var 7) (.int 1)), .sint .u8 (.bi .sel (.var 7) (.int 2)), .sint .u8 (.bi .sel (.var 7) (.int 3)), .sint .u8 (.bi .sel (.var 7) (.int 4)), .sint .u8 (.bi .sel (.var 7) (.int 5)), .sint .u8 (.bi .sel (.var 7) (.int 6)), .sint .u8 (.bi .sel (.var 7) (.int 7)), .sint .u8 (.bi .sel (.var 7) (.int 8)), .sint .u8 (.bi .sel (.var 7) (.int 9)), .sint .u8 (.bi .sel (.var 7) (.int 10)), .sint .u8 (.bi .sel (.var 7) (.int 11)), .sint .u8 (.bi .sel (.var 7) (.int 12)), .sint .u8 (.bi .sel (.var 7) (.int 13)), .sint .u8 (.bi .sel (.var 7) (.int 14)), .sint .u8 (.bi .sel (.var 7) (.int 15)), .sint .i64 (.var 8), .sint .u32 (.var 9)]), (3, .cells 37 0 false false [.bool true, .sint .u8 (.bi .sel (.var 17) (.int 0)), .sint .u8 (.bi .sel (.var 17) (.int 1)), .sint .u8 (.bi .sel (.var 17) (.int 2)), .sint .u8 (.bi .sel (.var 17) (.int 3)), .sint .u8 (.bi .sel (.var 17) (.int 4)), .sint .u8 (.bi .sel (.var 17) (.int 5)), .sint .u8 (.bi .sel (.var 17) (.int 6)), .sint .u8 (.bi .sel (.var 17) (.int 7)), .sint .u8 (.bi .sel (.var 17) (.int 8)), .sint .u8 (.bi .sel (.var 17) (.int 9)), .sint .u8 (.bi .sel (.var 17) (.int 10)), .sint .u8 (.bi .sel (.var 17) (.int 11)), .sint .u8 (.bi .sel (.var 17) (.int 12)), .sint .u8 (.bi .sel (.var 17) (.int 13)), .sint .u8 (.bi .sel (.var 17) (.int 14)), .sint .u8 (.bi .sel (.var 17) (.int 15)), .sint .i64 (.var 18), .sint .u32 (.var 19)]), (5, .eseq ⟨.u8, .var 3, .var 2⟩)], pre := [(.le (.int 0) (.var 0), true), (.le (.var 0) (.var 5), true), (.le (.bi .add (.var 4) (.var 5)) (.var 3), true), (.le (.var 5) (.int 500), true), (.le (.int 16) (.var 5), true), (.same (.var 7) (.fn 12 (.bi .pair (.var 2) (.bi .pair (.int 0) (.bi .pair (.int 0) (.bi .pair (.var 2) (.bi .pair (.var 4) (.bi .pair (.var 0) (.int 0)))))))), true), (.eq (.var 8) (.bi .add (.int 0) (.var 0)), true), (.eq (.var 9) (.fn 13 (.bi .pair (.var 2) (.bi .pair (.int 0) (.bi .pair (.int 0) (.bi .pair (.var 2) (.bi .pair (.var 4) (.bi .pair (.var 0) (.int 0)))))))), true), (.same (.var 17) (.fn 12 (.bi .pair (.var 2) (.bi .pair (.int 0) (.bi .pair (.int 0) (.bi .pair (.var 2) (.bi .pair (.var 4) (.bi .pair (.var 0) (.int 0)))))))), true), (.eq (.var 18) (.bi .add (.int 0) (.var 0)), true), (.eq (.var 19) (.fn 13 (.bi .pair (.var 2) (.bi .pair (.int 0) (.bi .pair (.int 0) (.bi .pair (.var 2) (.bi .pair (.var 4) (.bi .pair (.var 0) (.int 0)))))))), true)], x := 4, fin := [(8, .ptr 1 0), (9, .ptr 3 0), (2, .sslice 5 (.var 4) (.var 5) (.var 6) false)], frows := [(1, .cells 37 0 false false [.bool true, .sint .u8 (.bi .sel (.fn 12 (.bi .pair (.var 2) (.bi .pair (.int 0) (.bi .pair (.int 0) (.bi .pair (.var 2) (.bi .pair (.var 4) (.bi .pair (.var 5) (.int 0)))))))) (.int 0)), .sint .u8 (.bi .sel (.fn 12 (.bi .pair (.var 2) (.bi .pair (.int 0) (.bi .pair (.int 0) (.bi .pair (.var 2) (.bi .pair (.var 4) (.bi .pair (.var 5) (.int 0)))))))) (.int 1)), .sint .u8 (.bi .sel (.fn 12 (.bi .pair (.var 2) (.bi .pair (.int 0) (.bi .pair (.int 0) (.bi .pair (.var 2) (.bi .pair (.var 4) (.bi .pair (.var 5) (.int 0)))))))) (.int 2)), .sint .u8 (.bi .sel (.fn 12 (.bi .pair (.var 2) (.bi .pair (.int 0) (.bi .pair (.int 0) (.bi .pair (.var 2) (.bi .pair (.var 4) (.bi .pair (.var 5) (.int 0)))))))) (.int 3)), .sint .u8 (.bi .sel (.fn 12 (.bi .pair (.var 2) (.bi .pair (.int 0) (.bi .pair (.int 0) (.bi .pair (.var 2) (.bi .pair (.var 4) (.bi .pair (.var 5) (.int 0)))))))) (.int 4)), .sint .u8 (.bi .sel (.fn 12 (.bi .pair (.var 2) (.bi .pair (.int 0) (.bi .pair (.int 0) (.bi .pair (.var 2) (.bi .pair (.var 4) (.bi .pair (.var 5) (.int 0)))))))) (.int 5)), .sint .u8 (.bi .sel (.fn 12 (.bi .pair (.var 2) (.bi .pair (.int 0) (.bi .pair (.int 0) (.bi .pair (.var 2) (.bi .pair (.var 4) (.bi .pair (.var 5) (.int 0)))))))) (.int 6)), .sint .u8 (.bi .sel (.fn 12 (.bi .pair (.var 2) (.bi .pair (.int 0) (.bi .pair (.int 0) (.bi .pair (.var 2) (.bi .pair (.var 4) (.bi .pair (.var 5) (.int 0)))))))) (.int 7)), .sint .u8 (.bi .sel (.fn 12 (.bi .pair (.var 2) (.bi .pair (.int 0) (.bi .pair (.int 0) (.bi .pair (.var 2) (.bi .pair (.var 4) (.bi .pair (.var 5) (.int 0)))))))) (.int 8)), .sint .u8 (.bi .sel (.fn 12 (.bi .pair (.var 2) (.bi .pair (.int 0) (.bi .pair (.int 0) (.bi .pair (.var 2) (.bi .pair (.var 4) (.bi .pair (.var 5) (.int 0)))))))) (.int 9)), .sint .u8 (.bi .sel (.fn 12 (.bi .pair (.var 2) (.bi .pair (.int 0) (.bi .pair (.int 0) (.bi .pair (.var 2) (.bi .pair (.var 4) (.bi .pair (.var 5) (.int 0)))))))) (.int 10)), .sint .u8 (.bi .sel (.fn 12 (.bi .pair (.var 2) (.bi .pair (.int 0) (.bi .pair (.int 0) (.bi .pair (.var 2) (.bi .pair (.var 4) (.bi .pair (.var 5) (.int 0)))))))) (.int 11)), .sint .u8 (.bi .sel (.fn 12 (.bi .pair (.var 2) (.bi .pair (.int 0) (.bi .pair (.int 0) (.bi .pair (.var 2) (.bi .pair (.var 4) (.bi .pair (.var 5) (.int 0)))))))) (.int 12)), .sint .u8 (.bi .sel (.fn 12 (.bi .pair (.var 2) (.bi .pair (.int 0) (.bi .pair (.int 0) (.bi .pair (.var 2) (.bi .pair (.var 4) (.bi .pair (.var 5) (.int 0)))))))) (.int 13)), .sint .u8 (.bi .sel (.fn 12 (.bi .pair (.var 2) (.bi .pair (.int 0) (.bi .pair (.int 0) (.bi .pair (.var 2) (.bi .pair (.var 4) (.bi .pair (.var 5) (.int 0)))))))) (.int 14)), .sint .u8 (.bi .sel (.fn 12 (.bi .pair (.var 2) (.bi .pair (.int 0) (.bi .pair (.int 0) (.bi .pair (.var 2) (.bi .pair (.var 4) (.bi .pair (.var 5) (.int 0)))))))) (.int 15)), .sint .i64 (.bi .add (.int 0) (.var 5)), .sint .u32 (.fn 13 (.bi .pair (.var 2) (.bi .pair (.int 0) (.bi .pair (.int 0) (.bi .pair (.var 2) (.bi .pair (.var 4) (.bi .pair (.var 5) (.int 0))))))))]), (3, .cells 37 0 false false [.bool true, .sint .u8 (.bi .sel (.fn 12 (.bi .pair (.var 2) (.bi .pair (.int 0) (.bi .pair (.int 0) (.bi .pair (.var 2) (.bi .pair (.var 4) (.bi .pair (.var 5) (.int 0)))))))) (.int 0)), .sint .u8 (.bi .sel (.fn 12 (.bi .pair (.var 2) (.bi .pair (.int 0) (.bi .pair (.int 0) (.bi .pair (.var 2) (.bi .pair (.var 4) (.bi .pair (.var 5) (.int 0)))))))) (.int 1)), .sint .u8 (.bi .sel (.fn 12 (.bi .pair (.var 2) (.bi .pair (.int 0) (.bi .pair (.int 0) (.bi .pair (.var 2) (.bi .pair (.var 4) (.bi .pair (.var 5) (.int 0)))))))) (.int 2)), .sint .u8 (.bi .sel (.fn 12 (.bi .pair (.var 2) (.bi .pair (.int 0) (.bi .pair (.int 0) (.bi .pair (.var 2) (.bi .pair (.var 4) (.bi .pair (.var 5) (.int 0)))))))) (.int 3)), .sint .u8 (.bi .sel (.fn 12 (.bi .pair (.var 2) (.bi .pair (.int 0) (.bi .pair (.int 0) (.bi .pair (.var 2) (.bi .pair (.var 4) (.bi .pair (.var 5) (.int 0)))))))) (.int 4)), .sint .u8 (.bi .sel (.fn 12 (.bi .pair (.var 2) (.bi .pair (.int 0) (.bi .pair (.int 0) (.bi .pair (.var 2) (.bi .pair (.var 4) (.bi .pair (.var 5) (.int 0)))))))) (.int 5)), .sint .u8 (.bi .sel (.fn 12 (.bi .pair (.var 2) (.bi .pair (.int 0) (.bi .pair (.int 0) (.bi .pair (.var 2) (.bi .pair (.var 4) (.bi .pair (.var 5) (.int 0)))))))) (.int 6)), .sint .u8 (.bi .sel (.fn 12 (.bi .pair (.var 2) (.bi .pair (.int 0) (.bi .pair (.int 0) (.bi .pair (.var 2) (.bi .pair (.var 4) (.bi .pair (.var 5) (.int 0)))))))) (.int 7)), .sint .u8 (.bi .sel (.fn 12 (.bi .pair (.var 2) (.bi .pair (.int 0) (.bi .pair (.int 0) (.bi .pair (.var 2) (.bi .pair (.var 4) (.bi .pair (.var 5) (.int 0)))))))) (.int 8)), .sint .u8 (.bi .sel (.fn 12 (.bi .pair (.var 2) (.bi .pair (.int 0) (.bi .pair (.int 0) (.bi .pair (.var 2) (.bi .pair (.var 4) (.bi .pair (.var 5) (.int 0)))))))) (.int 9)), .sint .u8 (.bi .sel (.fn 12 (.bi .pair (.var 2) (.bi .pair (.int 0) (.bi .pair (.int 0) (.bi .pair (.var 2) (.bi .pair (.var 4) (.bi .pair (.var 5) (.int 0)))))))) (.int 10)), .sint .u8 (.bi .sel (.fn 12 (.bi .pair (.var 2) (.bi .pair (.int 0) (.bi .pair (.int 0) (.bi .pair (.var 2) (.bi .pair (.var 4) (.bi .pair (.var 5) (.int 0)))))))) (.int 11)), .sint .u8 (.bi .sel (.fn 12 (.bi .pair (.var 2) (.bi .pair (.int 0) (.bi .pair (.int 0) (.bi .pair (.var 2) (.bi .pair (.var 4) (.bi .pair (.var 5) (.int 0)))))))) (.int 12)), .sint .u8 (.bi .sel (.fn 12 (.bi .pair (.var 2) (.bi .pair (.int 0) (.bi .pair (.int 0) (.bi .pair (.var 2) (.bi .pair (.var 4) (.bi .pair (.var 5) (.int 0)))))))) (.int 13)), .sint .u8 (.bi .sel (.fn 12 (.bi .pair (.var 2) (.bi .pair (.int 0) (.bi .pair (.int 0) (.bi .pair (.var 2) (.bi .pair (.var 4) (.bi .pair (.var 5) (.int 0)))))))) (.int 14)), .sint .u8 (.bi .sel (.fn 12 (.bi .pair (.var 2) (.bi .pair (.int 0) (.bi .pair (.int 0) (.bi .pair (.var 2) (.bi .pair (.var 4) (.bi .pair (.var 5) (.int 0)))))))) (.int 15)), .sint .i64 (.bi .add (.int 0) (.var 5)), .sint .u32 (.fn 13 (.bi .pair (.var 2) (.bi .pair (.int 0) (.bi .pair (.int 0) (.bi .pair (.var 2) (.bi .pair (.var 4) (.bi .pair (.var 5) (.int 0))))))))])], same := [1, 3, 5], chg := [2, 8, 9, 12, 13, 14, 67, 68, 69, 70, 71, 72, 73, 74, 75, 76, 77, 78, 79, 80, 81, 82, 83, 84, 85, 86, 87, 88, 89, 90, 91, 92] }
def forgCnn_t0 : List (Q × Bool) := [((.fit .i64 (.var 5)), true),
  ((.le (.var 5) (.var 0)), true)]
def forgCnn_d0 : List Duty := [(true, (.bi .sel (.var 7) (.int 0)), (.bi .sel (.fn 12 (.bi .pair (.var 2) (.bi .pair (.int 0) (.bi .pair (.int 0) (.bi .pair (.var 2) (.bi .pair (.var 4) (.bi .pair (.var 5) (.int 0)))))))) (.int 0))), (true, (.bi .sel (.var 7) (.int 1)), (.bi .sel (.fn 12 (.bi .pair (.var 2) (.bi .pair (.int 0) (.bi .pair (.int 0) (.bi .pair (.var 2) (.bi .pair (.var 4) (.bi .pair (.var 5) (.int 0)))))))) (.int 1))), (true, (.bi .sel (.var 7) (.int 2)), (.bi .sel (.fn 12 (.bi .pair (.var 2) (.bi .pair (.int 0) (.bi .pair (.int 0) (.bi .pair (.var 2) (.bi .pair (.var 4) (.bi .pair (.var 5) (.int 0)))))))) (.int 2))), (true, (.bi .sel (.var 7) (.int 3)), (.bi .sel (.fn 12 (.bi .pair (.var 2) (.bi .pair (.int 0) (.bi .pair (.int 0) (.bi .pair (.var 2) (.bi .pair (.var 4) (.bi .pair (.var 5) (.int 0)))))))) (.int 3))), (true, (.bi .sel (.var 7) (.int 4)), (.bi .sel (.fn 12 (.bi .pair (.var 2) (.bi .pair (.int 0) (.bi .pair (.int 0) (.bi .pair (.var 2) (.bi .pair (.var 4) (.bi .pair (.var 5) (.int 0)))))))) (.int 4))), (true, (.bi .sel (.var 7) (.int 5)), (.bi .sel (.fn 12 (.bi .pair (.var 2) (.bi .pair (.int 0) (.bi .pair (.int 0) (.bi .pair (.var 2) (.bi .pair (.var 4) (.bi .pair (.var 5) (.int 0)))))))) (.int 5))), (true, (.bi .sel (.var 7) (.int 6)), (.bi .sel (.fn 12 (.bi .pair (.var 2) (.bi .pair (.int 0) (.bi .pair (.int 0) (.bi .pair (.var 2) (.bi .pair (.var 4) (.bi .pair (.var 5) (.int 0)))))))) (.int 6))), (true, (.bi .sel (.var 7) (.int 7)), (.bi .sel (.fn 12 (.bi .pair (.var 2) (.bi .pair (.int 0) (.bi .pair (.int 0) (.bi .pair (.var 2) (.bi .pair (.var 4) (.bi .pair (.var 5) (.int 0)))))))) (.int 7))), (true, (.bi .sel (.var 7) (.int 8)), (.bi .sel (.fn 12 (.bi .pair (.var 2) (.bi .pair (.int 0) (.bi .pair (.int 0) (.bi .pair (.var 2) (.bi .pair (.var 4) (.bi .pair (.var 5) (.int 0)))))))) (.int 8))), (true, (.bi .sel (.var 7) (.int 9)), (.bi .sel (.fn 12 (.bi .pair (.var 2) (.bi .pair (.int 0) (.bi .pair (.int 0) (.bi .pair (.var 2) (.bi .pair (.var 4) (.bi .pair (.var 5) (.int 0)))))))) (.int 9))), (true, (.bi .sel (.var 7) (.int 10)), (.bi .sel (.fn 12 (.bi .pair (.var 2) (.bi .pair (.int 0) (.bi .pair (.int 0) (.bi .pair (.var 2) (.bi .pair (.var 4) (.bi .pair (.var 5) (.int 0)))))))) (.int 10))), (true, (.bi .sel (.var 7) (.int 11)), (.bi .sel (.fn 12 (.bi .pair (.var 2) (.bi .pair (.int 0) (.bi .pair (.int 0) (.bi .pair (.var 2) (.bi .pair (.var 4) (.bi .pair (.var 5) (.int 0)))))))) (.int 11))), (true, (.bi .sel (.var 7) (.int 12)), (.bi .sel (.fn 12 (.bi .pair (.var 2) (.bi .pair (.int 0) (.bi .pair (.int 0) (.bi .pair (.var 2) (.bi .pair (.var 4) (.bi .pair (.var 5) (.int 0)))))))) (.int 12))), (true, (.bi .sel (.var 7) (.int 13)), (.bi .sel (.fn 12 (.bi .pair (.var 2) (.bi .pair (.int 0) (.bi .pair (.int 0) (.bi .pair (.var 2) (.bi .pair (.var 4) (.bi .pair (.var 5) (.int 0)))))))) (.int 13))), (true, (.bi .sel (.var 7) (.int 14)), (.bi .sel (.fn 12 (.bi .pair (.var 2) (.bi .pair (.int 0) (.bi .pair (.int 0) (.bi .pair (.var 2) (.bi .pair (.var 4) (.bi .pair (.var 5) (.int 0)))))))) (.int 14))), (true, (.bi .sel (.var 7) (.int 15)), (.bi .sel (.fn 12 (.bi .pair (.var 2) (.bi .pair (.int 0) (.bi .pair (.int 0) (.bi .pair (.var 2) (.bi .pair (.var 4) (.bi .pair (.var 5) (.int 0)))))))) (.int 15))), (true, (.var 8), (.bi .add (.int 0) (.var 5))), (true, (.var 9), (.fn 13 (.bi .pair (.var 2) (.bi .pair (.int 0) (.bi .pair (.int 0) (.bi .pair (.var 2) (.bi .pair (.var 4) (.bi .pair (.var 5) (.int 0))))))))), (true, (.bi .sel (.var 17) (.int 0)), (.bi .sel (.fn 12 (.bi .pair (.var 2) (.bi .pair (.int 0) (.bi .pair (.int 0) (.bi .pair (.var 2) (.bi .pair (.var 4) (.bi .pair (.var 5) (.int 0)))))))) (.int 0))), (true, (.bi .sel (.var 17) (.int 1)), (.bi .sel (.fn 12 (.bi .pair (.var 2) (.bi .pair (.int 0) (.bi .pair (.int 0) (.bi .pair (.var 2) (.bi .pair (.var 4) (.bi .pair (.var 5) (.int 0)))))))) (.int 1))), (true, (.bi .sel (.var 17) (.int 2)), (.bi .sel (.fn 12 (.bi .pair (.var 2) (.bi .pair (.int 0) (.bi .pair (.int 0) (.bi .pair (.var 2) (.bi .pair (.var 4) (.bi .pair (.var 5) (.int 0)))))))) (.int 2))), (true, (.bi .sel (.var 17) (.int 3)), (.bi .sel (.fn 12 (.bi .pair (.var 2) (.bi .pair (.int 0) (.bi .pair (.int 0) (.bi .pair (.var 2) (.bi .pair (.var 4) (.bi .pair (.var 5) (.int 0)))))))) (.int 3))), (true, (.bi .sel (.var 17) (.int 4)), (.bi .sel (.fn 12 (.bi .pair (.var 2) (.bi .pair (.int 0) (.bi .pair (.int 0) (.bi .pair (.var 2) (.bi .pair (.var 4) (.bi .pair (.var 5) (.int 0)))))))) (.int 4))), (true, (.bi .sel (.var 17) (.int 5)), (.bi .sel (.fn 12 (.bi .pair (.var 2) (.bi .pair (.int 0) (.bi .pair (.int 0) (.bi .pair (.var 2) (.bi .pair (.var 4) (.bi .pair (.var 5) (.int 0)))))))) (.int 5))), (true, (.bi .sel (.var 17) (.int 6)), (.bi .sel (.fn 12 (.bi .pair (.var 2) (.bi .pair (.int 0) (.bi .pair (.int 0) (.bi .pair (.var 2) (.bi .pair (.var 4) (.bi .pair (.var 5) (.int 0)))))))) (.int 6))), (true, (.bi .sel (.var 17) (.int 7)), (.bi .sel (.fn 12 (.bi .pair (.var 2) (.bi .pair (.int 0) (.bi .pair (.int 0) (.bi .pair (.var 2) (.bi .pair (.var 4) (.bi .pair (.var 5) (.int 0)))))))) (.int 7))), (true, (.bi .sel (.var 17) (.int 8)), (.bi .sel (.fn 12 (.bi .pair (.var 2) (.bi .pair (.int 0) (.bi .pair (.int 0) (.bi .pair (.var 2) (.bi .pair (.var 4) (.bi .pair (.var 5) (.int 0)))))))) (.int 8))), (true, (.bi .sel (.var 17) (.int 9)), (.bi .sel (.fn 12 (.bi .pair (.var 2) (.bi .pair (.int 0) (.bi .pair (.int 0) (.bi .pair (.var 2) (.bi .pair (.var 4) (.bi .pair (.var 5) (.int 0)))))))) (.int 9))), (true, (.bi .sel (.var 17) (.int 10)), (.bi .sel (.fn 12 (.bi .pair (.var 2) (.bi .pair (.int 0) (.bi .pair (.int 0) (.bi .pair (.var 2) (.bi .pair (.var 4) (.bi .pair (.var 5) (.int 0)))))))) (.int 10))), (true, (.bi .sel (.var 17) (.int 11)), (.bi .sel (.fn 12 (.bi .pair (.var 2) (.bi .pair (.int 0) (.bi .pair (.int 0) (.bi .pair (.var 2) (.bi .pair (.var 4) (.bi .pair (.var 5) (.int 0)))))))) (.int 11))), (true, (.bi .sel (.var 17) (.int 12)), (.bi .sel (.fn 12 (.bi .pair (.var 2) (.bi .pair (.int 0) (.bi .pair (.int 0) (.bi .pair (.var 2) (.bi .pair (.var 4) (.bi .pair (.var 5) (.int 0)))))))) (.int 12))), (true, (.bi .sel (.var 17) (.int 13)), (.bi .sel (.fn 12 (.bi .pair (.var 2) (.bi .pair (.int 0) (.bi .pair (.int 0) (.bi .pair (.var 2) (.bi .pair (.var 4) (.bi .pair (.var 5) (.int 0)))))))) (.int 13))), (true, (.bi .sel (.var 17) (.int 14)), (.bi .sel (.fn 12 (.bi .pair (.var 2) (.bi .pair (.int 0) (.bi .pair (.int 0) (.bi .pair (.var 2) (.bi .pair (.var 4) (.bi .pair (.var 5) (.int 0)))))))) (.int 14))), (true, (.bi .sel (.var 17) (.int 15)), (.bi .sel (.fn 12 (.bi .pair (.var 2) (.bi .pair (.int 0) (.bi .pair (.int 0) (.bi .pair (.var 2) (.bi .pair (.var 4) (.bi .pair (.var 5) (.int 0)))))))) (.int 15))), (true, (.var 18), (.bi .add (.int 0) (.var 5))), (true, (.var 19), (.fn 13 (.bi .pair (.var 2) (.bi .pair (.int 0) (.bi .pair (.int 0) (.bi .pair (.var 2) (.bi .pair (.var 4) (.bi .pair (.var 5) (.int 0)))))))))]
theorem forgCnn_y0 : endD forgCnn [(5, 5), (3, 3), (1, 1)] 1000 (roundC Try.prog [] [(22, pushC)] [] 3000 40 7 [4, 1, 0, 1, 1, 1, 1, 1, 1, 1] (tellA forgCnn_t0) forgCnn) = some forgCnn_d0 := by kernel_rfl
def forgCnn_t1 : List (Q × Bool) := [((.fit .i64 (.var 5)), true),
  ((.le (.var 5) (.var 0)), false),
  ((.le (.int 0) (.var 0)), true),
  ((.le (.int 0) (.bi .add (.var 4) (.var 0))), true),
  ((.le (.var 3) (.bi .add (.var 4) (.var 0))), false),
  ((.le (.int 16) (.un .len (.var 7))), true),
  ((.le (.int 0) (.var 8)), true),
  ((.le (.var 8) (.int 1000000)), true),
  ((.le (.int 16) (.un .len (.var 17))), true),
  ((.le (.int 0) (.var 18)), true),
  ((.le (.var 18) (.int 1000000)), true),
  ((.fit .i64 (.bi .add (.var 0) (.int 1))), true),
  ((.le (.int 16) (.bi .add (.var 0) (.int 1))), true),
  ((.eq (.fn 15 (.bi .pair (.var 9) (.bi .pair (.var 8) (.bi .pair (.var 7) (.bi .pair (.bi .sel (.var 2) (.bi .add (.var 4) (.var 0))) (.int 0)))))) (.fn 15 (.bi .pair (.var 19) (.bi .pair (.var 18) (.bi .pair (.var 17) (.bi .pair (.bi .sel (.var 2) (.bi .add (.var 4) (.var 0))) (.int 0))))))), true)]
def forgCnn_d1 : List Duty := []
def forgCnn_h1 : List (Nat × E) := [(3, (.var 3)), (2, (.var 2)), (19, (.fn 15 (.bi .pair (.var 19) (.bi .pair (.var 18) (.bi .pair (.var 17) (.bi .pair (.bi .sel (.var 2) (.bi .add (.var 4) (.var 0))) (.int 0))))))), (18, (.bi .add (.var 18) (.int 1))), (17, (.tr .upd (.var 17) (.bi (.iop .rem .i64) (.var 18) (.int 16)) (.bi .sel (.var 2) (.bi .add (.var 4) (.var 0))))), (9, (.fn 15 (.bi .pair (.var 9) (.bi .pair (.var 8) (.bi .pair (.var 7) (.bi .pair (.bi .sel (.var 2) (.bi .add (.var 4) (.var 0))) (.int 0))))))), (8, (.bi .add (.var 8) (.int 1))), (7, (.tr .upd (.var 7) (.bi (.iop .rem .i64) (.var 8) (.int 16)) (.bi .sel (.var 2) (.bi .add (.var 4) (.var 0))))), (4, (.var 4)), (5, (.var 5)), (6, (.var 6)), (0, (.bi .add (.var 0) (.int 1)))]
theorem forgCnn_h1_0 : lookE forgCnn_h1 0 = (.bi .add (.var 0) (.int 1)) := rfl
theorem forgCnn_h1_2 : lookE forgCnn_h1 2 = (.var 2) := rfl
theorem forgCnn_h1_3 : lookE forgCnn_h1 3 = (.var 3) := rfl
theorem forgCnn_h1_4 : lookE forgCnn_h1 4 = (.var 4) := rfl
theorem forgCnn_h1_5 : lookE forgCnn_h1 5 = (.var 5) := rfl
theorem forgCnn_h1_6 : lookE forgCnn_h1 6 = (.var 6) := rfl
theorem forgCnn_h1_7 : lookE forgCnn_h1 7 = (.tr .upd (.var 7) (.bi (.iop .rem .i64) (.var 8) (.int 16)) (.bi .sel (.var 2) (.bi .add (.var 4) (.var 0)))) := rfl
theorem forgCnn_h1_8 : lookE forgCnn_h1 8 = (.bi .add (.var 8) (.int 1)) := rfl
theorem forgCnn_h1_9 : lookE forgCnn_h1 9 = (.fn 15 (.bi .pair (.var 9) (.bi .pair (.var 8) (.bi .pair (.var 7) (.bi .pair (.bi .sel (.var 2) (.bi .add (.var 4) (.var 0))) (.int 0)))))) := rfl
theorem forgCnn_h1_17 : lookE forgCnn_h1 17 = (.tr .upd (.var 17) (.bi (.iop .rem .i64) (.var 18) (.int 16)) (.bi .sel (.var 2) (.bi .add (.var 4) (.var 0)))) := rfl
theorem forgCnn_h1_18 : lookE forgCnn_h1 18 = (.bi .add (.var 18) (.int 1)) := rfl
theorem forgCnn_h1_19 : lookE forgCnn_h1 19 = (.fn 15 (.bi .pair (.var 19) (.bi .pair (.var 18) (.bi .pair (.var 17) (.bi .pair (.bi .sel (.var 2) (.bi .add (.var 4) (.var 0))) (.int 0)))))) := rfl
theorem forgCnn_y1 : nextD forgCnn forgCnn_h1 [(5, 5), (3, 3), (1, 1)] (roundC Try.prog [] [(22, pushC)] [] 3000 40 7 [4, 1, 0, 1, 1, 1, 1, 1, 1, 1] (tellA forgCnn_t1) forgCnn) = some forgCnn_d1 := by kernel_rfl
def forgCnn_t2 : List (Q × Bool) := [((.fit .i64 (.var 5)), true),
  ((.le (.var 5) (.var 0)), false),
  ((.le (.int 0) (.var 0)), true),
  ((.le (.int 0) (.bi .add (.var 4) (.var 0))), true),
  ((.le (.var 3) (.bi .add (.var 4) (.var 0))), false),
  ((.le (.int 16) (.un .len (.var 7))), true),
  ((.le (.int 0) (.var 8)), true),
  ((.le (.var 8) (.int 1000000)), true),
  ((.le (.int 16) (.un .len (.var 17))), true),
  ((.le (.int 0) (.var 18)), true),
  ((.le (.var 18) (.int 1000000)), true),
  ((.fit .i64 (.bi .add (.var 0) (.int 1))), true),
  ((.le (.int 16) (.bi .add (.var 0) (.int 1))), false)]
def forgCnn_d2 : List Duty := []
def forgCnn_h2 : List (Nat × E) := [(3, (.var 3)), (2, (.var 2)), (19, (.fn 15 (.bi .pair (.var 19) (.bi .pair (.var 18) (.bi .pair (.var 17) (.bi .pair (.bi .sel (.var 2) (.bi .add (.var 4) (.var 0))) (.int 0))))))), (18, (.bi .add (.var 18) (.int 1))), (17, (.tr .upd (.var 17) (.bi (.iop .rem .i64) (.var 18) (.int 16)) (.bi .sel (.var 2) (.bi .add (.var 4) (.var 0))))), (9, (.fn 15 (.bi .pair (.var 9) (.bi .pair (.var 8) (.bi .pair (.var 7) (.bi .pair (.bi .sel (.var 2) (.bi .add (.var 4) (.var 0))) (.int 0))))))), (8, (.bi .add (.var 8) (.int 1))), (7, (.tr .upd (.var 7) (.bi (.iop .rem .i64) (.var 8) (.int 16)) (.bi .sel (.var 2) (.bi .add (.var 4) (.var 0))))), (4, (.var 4)), (5, (.var 5)), (6, (.var 6)), (0, (.bi .add (.var 0) (.int 1)))]
theorem forgCnn_h2_0 : lookE forgCnn_h2 0 = (.bi .add (.var 0) (.int 1)) := rfl
theorem forgCnn_h2_2 : lookE forgCnn_h2 2 = (.var 2) := rfl
theorem forgCnn_h2_3 : lookE forgCnn_h2 3 = (.var 3) := rfl
theorem forgCnn_h2_4 : lookE forgCnn_h2 4 = (.var 4) := rfl
theorem forgCnn_h2_5 : lookE forgCnn_h2 5 = (.var 5) := rfl
theorem forgCnn_h2_6 : lookE forgCnn_h2 6 = (.var 6) := rfl
theorem forgCnn_h2_7 : lookE forgCnn_h2 7 = (.tr .upd (.var 7) (.bi (.iop .rem .i64) (.var 8) (.int 16)) (.bi .sel (.var 2) (.bi .add (.var 4) (.var 0)))) := rfl
theorem forgCnn_h2_8 : lookE forgCnn_h2 8 = (.bi .add (.var 8) (.int 1)) := rfl
theorem forgCnn_h2_9 : lookE forgCnn_h2 9 = (.fn 15 (.bi .pair (.var 9) (.bi .pair (.var 8) (.bi .pair (.var 7) (.bi .pair (.bi .sel (.var 2) (.bi .add (.var 4) (.var 0))) (.int 0)))))) := rfl
theorem forgCnn_h2_17 : lookE forgCnn_h2 17 = (.tr .upd (.var 17) (.bi (.iop .rem .i64) (.var 18) (.int 16)) (.bi .sel (.var 2) (.bi .add (.var 4) (.var 0)))) := rfl
theorem forgCnn_h2_18 : lookE forgCnn_h2 18 = (.bi .add (.var 18) (.int 1)) := rfl
theorem forgCnn_h2_19 : lookE forgCnn_h2 19 = (.fn 15 (.bi .pair (.var 19) (.bi .pair (.var 18) (.bi .pair (.var 17) (.bi .pair (.bi .sel (.var 2) (.bi .add (.var 4) (.var 0))) (.int 0)))))) := rfl
theorem forgCnn_y2 : nextD forgCnn forgCnn_h2 [(5, 5), (3, 3), (1, 1)] (roundC Try.prog [] [(22, pushC)] [] 3000 40 7 [4, 1, 0, 1, 1, 1, 1, 1, 1, 1] (tellA forgCnn_t2) forgCnn) = some forgCnn_d2 := by kernel_rfl
theorem forgCnn_holds : LHolds Try.prog (loopAt Try.prog 7 [4, 1, 0, 1, 1, 1, 1, 1, 1, 1]) forgCnn F := by
  refine loop_roundsC sound (tableNil _ _) (specsCons pushC_holds (specsNil _ _)) (oversNil _ _) (fuel := 3000) (depth := 40) (by kernel_rfl) (by kernel_rfl) (by kernel_rfl) (fun d => ((d 5).toInt - (d 0).toInt).toNat) fun d hp hR hA => ?_
  have hp := allTold'_iff.2 hp
  simp only [forgCnn, allTold', dutiesTold, factsA, factsP, factsR, AV.facts, RW.facts, inK, and_true, Q.holds', E.i, E.s, E.n, D.nat, E.den, BO.den, UO.den, TO.den, D.toInt_int, D.toList_list, D.ints_ofInts, i64min, i64max, u8min, u8max, u16min, u16max, u32min, u32max, u64min, u64max, i32min, i32max, Om.sub, selI, ints_app, ints_cut, ints_upd, ints_rep, ints_splice, len_ints] at hp hR hA
  simp only [F12, F13, D.toInt_int, D.ints_ofInts, Int.zero_add] at hp
  obtain ⟨p0, p1, p2, p3, p4, kA, cA, uA, kB, cB, uB⟩ := hp
  have elA : ((d 7).ints.length : Nat) = 16 := by rw [kA, ringL_len]
  have elB : ((d 17).ints.length : Nat) = 16 := by rw [kB, ringL_len]
  by_cases h : (d 5).toInt ≤ (d 0).toInt
  · have e5 : (d 5).toInt = (d 0).toInt := by omega
    refine ⟨tellA forgCnn_t0, tellA_ok (allTold'_iff.1 ?_), .inl ⟨_, _, _, forgCnn_y0, dutiesTold_ok ?_⟩⟩
    · simp only [forgCnn_t0, allTold', dutiesTold, factsA, factsP, factsR, AV.facts, RW.facts, inK, and_true, Q.holds', E.i, E.s, E.n, D.nat, E.den, BO.den, UO.den, TO.den, D.toInt_int, D.toList_list, D.ints_ofInts, i64min, i64max, u8min, u8max, u16min, u16max, u32min, u32max, u64min, u64max, i32min, i32max, Om.sub, selI, ints_app, ints_cut, ints_upd, ints_rep, ints_splice, len_ints]
      omega
    · simp only [forgCnn_d0, F12, F13, Int.zero_add, allTold', dutiesTold, factsA, factsP, factsR, AV.facts, RW.facts, inK, and_true, Q.holds', E.i, E.s, E.n, D.nat, E.den, BO.den, UO.den, TO.den, D.toInt_int, D.toList_list, D.ints_ofInts, i64min, i64max, u8min, u8max, u16min, u16max, u32min, u32max, u64min, u64max, i32min, i32max, Om.sub, selI, ints_app, ints_cut, ints_upd, ints_rep, ints_splice, len_ints]
      rw [e5]
      and_intros <;> first | omega | (rw [kA]; done) | (rw [kB]; done) | exact cA | exact cB | exact uA | exact uB | rfl
  · have lA := two_len (x := (d 2).ints) (y := (d 2).ints) (o := 0) (n := 0) (p := (d 4).toInt) (m := (d 0).toInt) (by omega) (by omega) (by omega) (by omega) (by omega) (by omega)
    have sA := two_step (x := (d 2).ints) (y := (d 2).ints) (o := 0) (n := 0) (p := (d 4).toInt) (m := (d 0).toInt) (by omega) (by omega) (by omega)
    have wA := winL_snoc (twoI (d 2).ints 0 0 (d 2).ints (d 4).toInt (d 0).toInt) (((d 2).ints[((d 4).toInt + (d 0).toInt).toNat]?).getD 0)
    have rA := ringL_snoc (twoI (d 2).ints 0 0 (d 2).ints (d 4).toInt (d 0).toInt) (((d 2).ints[((d 4).toInt + (d 0).toInt).toNat]?).getD 0)
    rw [← sA, lA] at wA
    rw [← sA, show (twoI (d 2).ints 0 0 (d 2).ints (d 4).toInt (d 0).toInt).length % 16 = ((0 + (d 0).toInt) % 16).toNat by omega] at rA
    have mA : iopI .rem .i64 (d 8).toInt 16 = (0 + (d 0).toInt) % 16 := by rw [cA, rem_emod _ (by omega)]; try omega
    rw [← kA, ← uA] at wA
    rw [← kA] at rA
    have lB := two_len (x := (d 2).ints) (y := (d 2).ints) (o := 0) (n := 0) (p := (d 4).toInt) (m := (d 0).toInt) (by omega) (by omega) (by omega) (by omega) (by omega) (by omega)
    have sB := two_step (x := (d 2).ints) (y := (d 2).ints) (o := 0) (n := 0) (p := (d 4).toInt) (m := (d 0).toInt) (by omega) (by omega) (by omega)
    have wB := winL_snoc (twoI (d 2).ints 0 0 (d 2).ints (d 4).toInt (d 0).toInt) (((d 2).ints[((d 4).toInt + (d 0).toInt).toNat]?).getD 0)
    have rB := ringL_snoc (twoI (d 2).ints 0 0 (d 2).ints (d 4).toInt (d 0).toInt) (((d 2).ints[((d 4).toInt + (d 0).toInt).toNat]?).getD 0)
    rw [← sB, lB] at wB
    rw [← sB, show (twoI (d 2).ints 0 0 (d 2).ints (d 4).toInt (d 0).toInt).length % 16 = ((0 + (d 0).toInt) % 16).toNat by omega] at rB
    have mB : iopI .rem .i64 (d 18).toInt 16 = (0 + (d 0).toInt) % 16 := by rw [cB, rem_emod _ (by omega)]; try omega
    rw [← kB, ← uB] at wB
    rw [← kB] at rB
    try simp only [Int.zero_add] at wA wB rA rB mA mB
    by_cases g : 16 ≤ (d 0).toInt + 1
    · have zA := win_two (x := (d 2).ints) (y := (d 2).ints) (o := 0) (n := 0) (p := (d 4).toInt) (m := (d 0).toInt + 1) (by omega) (by omega) (by omega) (by omega) (by omega) (by omega)
      have zB := win_two (x := (d 2).ints) (y := (d 2).ints) (o := 0) (n := 0) (p := (d 4).toInt) (m := (d 0).toInt + 1) (by omega) (by omega) (by omega) (by omega) (by omega) (by omega)
      rw [← wA] at zA
      rw [← wB] at zB
      have zz := zA.trans zB.symm
      refine ⟨tellA forgCnn_t1, tellA_ok (allTold'_iff.1 ?_), .inr ⟨forgCnn_h1, _, _, forgCnn_y1, dutiesTold_ok ?_, allTold'_iff.1 ?_, ?_⟩⟩
      · simp only [forgCnn_t1, F15, Int.zero_add, allTold', dutiesTold, factsA, factsP, factsR, AV.facts, RW.facts, inK, and_true, Q.holds', E.i, E.s, E.n, D.nat, E.den, BO.den, UO.den, TO.den, D.toInt_int, D.toList_list, D.ints_ofInts, i64min, i64max, u8min, u8max, u16min, u16max, u32min, u32max, u64min, u64max, i32min, i32max, Om.sub, selI, ints_app, ints_cut, ints_upd, ints_rep, ints_splice, len_ints]
        rw [cA, cB]
        omega
      · simp only [forgCnn_d1, F12, F13, F15, allTold', dutiesTold, factsA, factsP, factsR, AV.facts, RW.facts, inK, and_true, Q.holds', E.i, E.s, E.n, D.nat, E.den, BO.den, UO.den, TO.den, D.toInt_int, D.toList_list, D.ints_ofInts, i64min, i64max, u8min, u8max, u16min, u16max, u32min, u32max, u64min, u64max, i32min, i32max, Om.sub, selI, ints_app, ints_cut, ints_upd, ints_rep, ints_splice, len_ints]
        try trivial
      · simp only [forgCnn, forgCnn_h1_0, forgCnn_h1_2, forgCnn_h1_3, forgCnn_h1_4, forgCnn_h1_5, forgCnn_h1_6, forgCnn_h1_7, forgCnn_h1_8, forgCnn_h1_9, forgCnn_h1_17, forgCnn_h1_18, forgCnn_h1_19, F12, F13, F15, Int.zero_add, allTold', dutiesTold, factsA, factsP, factsR, AV.facts, RW.facts, inK, and_true, Q.holds', E.i, E.s, E.n, D.nat, E.den, BO.den, UO.den, TO.den, D.toInt_int, D.toList_list, D.ints_ofInts, i64min, i64max, u8min, u8max, u16min, u16max, u32min, u32max, u64min, u64max, i32min, i32max, Om.sub, selI, ints_app, ints_cut, ints_upd, ints_rep, ints_splice, len_ints]
        and_intros <;> first | omega | (rw [mA, rA]; done) | (rw [mB, rB]; done) | (rw [cA]; exact wA) | (rw [cB]; exact wB) | rfl
      · simp only [forgCnn_h1_0, forgCnn_h1_2, forgCnn_h1_3, forgCnn_h1_4, forgCnn_h1_5, forgCnn_h1_6, forgCnn_h1_7, forgCnn_h1_8, forgCnn_h1_9, forgCnn_h1_17, forgCnn_h1_18, forgCnn_h1_19, allTold', dutiesTold, factsA, factsP, factsR, AV.facts, RW.facts, inK, and_true, Q.holds', E.i, E.s, E.n, D.nat, E.den, BO.den, UO.den, TO.den, D.toInt_int, D.toList_list, D.ints_ofInts, i64min, i64max, u8min, u8max, u16min, u16max, u32min, u32max, u64min, u64max, i32min, i32max, Om.sub, selI, ints_app, ints_cut, ints_upd, ints_rep, ints_splice, len_ints]
        omega
    · refine ⟨tellA forgCnn_t2, tellA_ok (allTold'_iff.1 ?_), .inr ⟨forgCnn_h2, _, _, forgCnn_y2, dutiesTold_ok ?_, allTold'_iff.1 ?_, ?_⟩⟩
      · simp only [forgCnn_t2, F15, Int.zero_add, allTold', dutiesTold, factsA, factsP, factsR, AV.facts, RW.facts, inK, and_true, Q.holds', E.i, E.s, E.n, D.nat, E.den, BO.den, UO.den, TO.den, D.toInt_int, D.toList_list, D.ints_ofInts, i64min, i64max, u8min, u8max, u16min, u16max, u32min, u32max, u64min, u64max, i32min, i32max, Om.sub, selI, ints_app, ints_cut, ints_upd, ints_rep, ints_splice, len_ints]
        omega
      · simp only [forgCnn_d2, F12, F13, F15, allTold', dutiesTold, factsA, factsP, factsR, AV.facts, RW.facts, inK, and_true, Q.holds', E.i, E.s, E.n, D.nat, E.den, BO.den, UO.den, TO.den, D.toInt_int, D.toList_list, D.ints_ofInts, i64min, i64max, u8min, u8max, u16min, u16max, u32min, u32max, u64min, u64max, i32min, i32max, Om.sub, selI, ints_app, ints_cut, ints_upd, ints_rep, ints_splice, len_ints]
        try trivial
      · simp only [forgCnn, forgCnn_h2_0, forgCnn_h2_2, forgCnn_h2_3, forgCnn_h2_4, forgCnn_h2_5, forgCnn_h2_6, forgCnn_h2_7, forgCnn_h2_8, forgCnn_h2_9, forgCnn_h2_17, forgCnn_h2_18, forgCnn_h2_19, F12, F13, F15, Int.zero_add, allTold', dutiesTold, factsA, factsP, factsR, AV.facts, RW.facts, inK, and_true, Q.holds', E.i, E.s, E.n, D.nat, E.den, BO.den, UO.den, TO.den, D.toInt_int, D.toList_list, D.ints_ofInts, i64min, i64max, u8min, u8max, u16min, u16max, u32min, u32max, u64min, u64max, i32min, i32max, Om.sub, selI, ints_app, ints_cut, ints_upd, ints_rep, ints_splice, len_ints]
        and_intros <;> first | omega | (rw [mA, rA]; done) | (rw [mB, rB]; done) | (rw [cA]; exact wA) | (rw [cB]; exact wB) | rfl
      · simp only [forgCnn_h2_0, forgCnn_h2_2, forgCnn_h2_3, forgCnn_h2_4, forgCnn_h2_5, forgCnn_h2_6, forgCnn_h2_7, forgCnn_h2_8, forgCnn_h2_9, forgCnn_h2_17, forgCnn_h2_18, forgCnn_h2_19, allTold', dutiesTold, factsA, factsP, factsR, AV.facts, RW.facts, inK, and_true, Q.holds', E.i, E.s, E.n, D.nat, E.den, BO.den, UO.den, TO.den, D.toInt_int, D.toList_list, D.ints_ofInts, i64min, i64max, u8min, u8max, u16min, u16max, u32min, u32max, u64min, u64max, i32min, i32max, Om.sub, selI, ints_app, ints_cut, ints_upd, ints_rep, ints_splice, len_ints]
        omega

def tab : List LEntry := [⟨14, [4, 1, 0, 1, 1], sumL⟩, ⟨14, [4, 1, 0, 1, 1], sumLO⟩, ⟨15, [4, 1, 0, 1, 1], rsumL⟩, ⟨15, [4, 1, 0, 1, 1], rsumLO⟩, ⟨6, [4, 1, 0, 1, 1, 1, 1], alongL⟩, ⟨9, [4, 1, 0, 1, 1, 1, 1], joinsL⟩, ⟨4, [4, 1, 0, 1, 1, 1], windL⟩, ⟨7, [4, 1, 0, 1, 1, 1, 1, 1], forgA⟩, ⟨7, [4, 1, 0, 1, 1, 1, 1, 1, 1], forgB⟩, ⟨7, [4, 1, 0, 1, 1, 1, 1, 1, 1, 1], forgCii⟩, ⟨7, [4, 1, 0, 1, 1, 1, 1, 1, 1, 1], forgCin⟩, ⟨7, [4, 1, 0, 1, 1, 1, 1, 1, 1, 1], forgCni⟩, ⟨7, [4, 1, 0, 1, 1, 1, 1, 1, 1, 1], forgCnn⟩]
def specs : List (FuncId × CSpec) := [(14, sumC), (14, sumCO), (15, rsumC), (15, rsumCO), (11, lentC), (18, keptC), (25, pickC), (19, awakeC), (22, pushC)]
def overs : Overs := []
theorem tab_ok : TableOK Try.prog tab F := tableCons sumL_holds (tableCons sumLO_holds (tableCons rsumL_holds (tableCons rsumLO_holds (tableCons alongL_holds (tableCons joinsL_holds (tableCons windL_holds (tableCons forgA_holds (tableCons forgB_holds (tableCons forgCii_holds (tableCons forgCin_holds (tableCons forgCni_holds (tableCons forgCnn_holds (tableNil _ _)))))))))))))
theorem specs_ok : SpecsOK Try.prog specs F := specsCons sumC_holds (specsCons sumCO_holds (specsCons rsumC_holds (specsCons rsumCO_holds (specsCons lentC_holds (specsCons keptC_holds (specsCons pickC_holds (specsCons awakeC_holds (specsCons pushC_holds (specsNil _ _)))))))))
theorem overs_ok : OversOK Try.prog overs F := oversNil _ _
def tab0 : List LEntry := []
def specs0 : List (FuncId × CSpec) := [(19, awakeC)]
def overs0 : Overs := []
theorem tab0_ok : TableOK Try.prog tab0 F := tableNil _ _
theorem specs0_ok : SpecsOK Try.prog specs0 F := specsCons awakeC_holds (specsNil _ _)
theorem overs0_ok : OversOK Try.prog overs0 F := oversNil _ _
end Go.Proofs.Ytfmnbdnapmpahaa.Ra
