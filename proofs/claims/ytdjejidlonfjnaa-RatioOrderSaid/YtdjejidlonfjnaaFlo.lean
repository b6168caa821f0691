/- Floats: how two of them stand to one another is how two whole numbers do (their keys). No condition. -/
import Ieee.Arith
import Derived.Laws.FloatBits
namespace Go.Flo
open Ieee

theorem cmp_lt {a b : Int} (h : a < b) : compare a b = .lt := by simp [compare, compareOfLessAndEq, h]
theorem cmp_eq {a b : Int} (h : a = b) : compare a b = .eq := by simp [compare, compareOfLessAndEq, h]
theorem cmp_gt {a b : Int} (h : b < a) : compare a b = .gt := by
  have h1 : ¬ a < b := by omega
  have h2 : ¬ a = b := by omega
  simp [compare, compareOfLessAndEq, h1, h2]
theorem cmp_scale (a b c : Int) (hc : 0 < c) : compare (a * c) (b * c) = compare a b := by
  rcases Int.lt_trichotomy a b with h | h | h
  · rw [cmp_lt h, cmp_lt (Int.mul_lt_mul_of_pos_right h hc)]
  · rw [cmp_eq h, cmp_eq (by rw [h])]
  · rw [cmp_gt h, cmp_gt (Int.mul_lt_mul_of_pos_right h hc)]

theorem signed_up (s : Bool) (m u v : Nat) : signed s m (u + v) = signed s m u * (2 ^ v : Nat) := by
  unfold signed
  rw [Nat.shiftLeft_eq, Nat.shiftLeft_eq, Nat.pow_add, ← Nat.mul_assoc]
  cases s
  · simp only [Bool.false_eq_true, if_false]; exact Int.natCast_mul ..
  · simp only [if_true]; rw [Int.natCast_mul, Int.neg_mul]

/-- What a finite word's place is above the least one. -/
def up (f : Format) (e : Int) : Nat := (e - f.leastPlace).toNat

/-- Above all that is finite. -/
theorem top_ex : ∃ t : Nat, ∀ n, n < 2100 → 2 ^ n < t := ⟨2 ^ 2100, fun n h => Nat.pow_lt_pow_right (by decide) h⟩
noncomputable def top : Nat := Classical.choose top_ex
theorem pow_lt_top {n : Nat} (h : n < 2100) : 2 ^ n < top := Classical.choose_spec top_ex n h
theorem top_pos : (0 : Int) < (top : Int) := Int.natCast_pos.2 (Nat.lt_trans (Nat.two_pow_pos 0) (pow_lt_top (by decide)))

noncomputable def keyD (f : Format) : Datum → Option Int
  | .nan .. => none
  | .infinity s => some (if s then -(top : Int) else top)
  | .number s m e => some (signed s m (up f e))

noncomputable def key (x : Nat) : Option Int := keyD double (double.read x)

def cmpO : Option Int → Option Int → Option Ordering
  | some a, some b => some (compare a b)
  | _, _ => none

/-- A datum that stands for a word of the format. -/
def Sane (f : Format) : Datum → Prop
  | .number _ m e => f.leastPlace ≤ e ∧ m * 2 ^ up f e < top
  | _ => True

theorem sane_read (x : Nat) : Sane double (double.read x) := by
  unfold Format.read
  dsimp only
  split
  · rename_i h
    refine ⟨Int.le_refl _, ?_⟩
    unfold up
    rw [Int.sub_self]
    have hb : double.binade = 2 ^ 52 := rfl
    rw [hb] at h
    rw [Int.toNat_zero, Nat.pow_zero, Nat.mul_one]
    exact Nat.lt_trans h (pow_lt_top (by decide))
  · split
    · rename_i h1 h2
      have hb : double.binade = 2 ^ 52 := rfl
      have hi : double.infRung = 2047 * 2 ^ 52 := rfl
      rw [hb] at h1 ⊢
      rw [hi] at h2
      generalize x % double.signWeight = r at h1 h2 ⊢
      refine ⟨by omega, ?_⟩
      unfold up
      have e : (double.leastPlace + ((r / 2 ^ 52 - 1 : Nat) : Int) - double.leastPlace).toNat = r / 2 ^ 52 - 1 := by omega
      rw [e]
      have h3 : r / 2 ^ 52 - 1 ≤ 2046 := by omega
      have h4 : 2 ^ 52 + r % 2 ^ 52 < 2 ^ 53 := by omega
      calc (2 ^ 52 + r % 2 ^ 52) * 2 ^ (r / 2 ^ 52 - 1) < 2 ^ 53 * 2 ^ (r / 2 ^ 52 - 1) := Nat.mul_lt_mul_of_pos_right h4 (Nat.two_pow_pos _)
        _ < top := by rw [← Nat.pow_add]; exact pow_lt_top (by omega)
    · split
      · trivial
      · trivial

theorem signed_abs (s : Bool) (m u : Nat) : signed s m u ≤ (m * 2 ^ u : Nat) ∧ -((m * 2 ^ u : Nat) : Int) ≤ signed s m u := by
  unfold signed
  rw [Nat.shiftLeft_eq]
  generalize m * 2 ^ u = z
  cases s
  · simp only [Bool.false_eq_true, if_false]; omega
  · simp only [if_true]; omega

theorem orderD {a b : Datum} (ha : Sane double a) (hb : Sane double b) : a.order b = cmpO (keyD double a) (keyD double b) := by
  cases a with
  | nan s t => cases b <;> rfl
  | infinity s => cases b with
    | nan => cases s <;> rfl
    | infinity t => cases s <;> cases t <;> simp only [Datum.order, keyD, cmpO, if_true, Bool.false_eq_true, if_false] <;> congr 1 <;> symm <;> first | exact cmp_eq rfl | exact cmp_lt (by have := top_pos; generalize (top : Int) = T at *; omega) | exact cmp_gt (by have := top_pos; generalize (top : Int) = T at *; omega)
    | number t n j =>
      have h := signed_abs t n (up double j)
      have h2 : ((n * 2 ^ up double j : Nat) : Int) < (top : Int) := Int.ofNat_lt.2 hb.2
      generalize ((n * 2 ^ up double j : Nat) : Int) = z at h h2
      cases s <;> simp only [Datum.order, keyD, cmpO, if_true, Bool.false_eq_true, if_false] <;> congr 1 <;> symm <;> generalize (top : Int) = T at * <;> generalize signed t n (up double j) = y at *
      · exact cmp_gt (by omega)
      · exact cmp_lt (by omega)
  | number s m i => cases b with
    | nan => rfl
    | infinity t =>
      have h := signed_abs s m (up double i)
      have h2 : ((m * 2 ^ up double i : Nat) : Int) < (top : Int) := Int.ofNat_lt.2 ha.2
      generalize ((m * 2 ^ up double i : Nat) : Int) = z at h h2
      cases t <;> simp only [Datum.order, keyD, cmpO, if_true, Bool.false_eq_true, if_false] <;> congr 1 <;> symm <;> generalize (top : Int) = T at * <;> generalize signed s m (up double i) = y at *
      · exact cmp_lt (by omega)
      · exact cmp_gt (by omega)
    | number t n j =>
      simp only [Datum.order, keyD, cmpO]
      congr 1
      have hi := ha.1
      have hj := hb.1
      unfold up
      generalize double.leastPlace = L at *
      have e1 : (i - L).toNat = (i - min i j).toNat + (min i j - L).toNat := by omega
      have e2 : (j - L).toNat = (j - min i j).toNat + (min i j - L).toNat := by omega
      rw [e1, e2, signed_up, signed_up, cmp_scale _ _ _ (by exact_mod_cast Nat.two_pow_pos _)]

theorem order_eq (x y : Nat) : double.order x y = cmpO (key x) (key y) := orderD (sane_read x) (sane_read y)

end Go.Flo
