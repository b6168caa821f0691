/- Floats: how numbers are rounded: to the nearest rung, and so that greater ones come no lower. No condition. -/
import Derived.Test.YtgfaopbifonacaaSycp
namespace Go.Flo
open Ieee

/-- 'n / g' made whole: the nearest one, between two the even one. -/
def RE (n g : Nat) : Nat := n / g + (if g < 2 * (n % g) ∨ (g = 2 * (n % g) ∧ n / g % 2 = 1) then 1 else 0)

theorem RE_scale (n g : Nat) {c : Nat} (hc : 0 < c) : RE (n * c) (g * c) = RE n g := by
  unfold RE
  rw [Nat.mul_div_mul_right _ _ hc, Nat.mul_mod_mul_right]
  have h1 : g * c < 2 * (n % g * c) ↔ g < 2 * (n % g) := by rw [← Nat.mul_assoc]; exact Nat.mul_lt_mul_right hc
  have h2 : g * c = 2 * (n % g * c) ↔ g = 2 * (n % g) := by rw [← Nat.mul_assoc]; exact Nat.mul_left_inj (by omega)
  simp only [h1, h2]

theorem RE_int (k : Nat) {g : Nat} (hg : 0 < g) : RE (k * g) g = k := by
  unfold RE
  rw [Nat.mul_div_cancel _ hg, Nat.mul_mod_left, if_neg (by omega)]; rfl

theorem RE_mono1 {n m g : Nat} (h : n ≤ m) : RE n g ≤ RE m g := by
  unfold RE
  have h1 : n / g ≤ m / g := Nat.div_le_div_right h
  rcases Nat.lt_or_eq_of_le h1 with h2 | h2
  · split <;> split <;> omega
  · have e1 := Nat.div_add_mod n g
    have e2 := Nat.div_add_mod m g
    rw [h2] at e1
    rw [h2]
    have h3 : n % g ≤ m % g := by omega
    split <;> split <;> omega

theorem RE_mono {a b c d : Nat} (hb : 0 < b) (hd : 0 < d) (h : a * d ≤ c * b) : RE a b ≤ RE c d := by
  rw [← RE_scale a b hd, ← RE_scale c d hb, Nat.mul_comm d b]
  exact RE_mono1 h

theorem RE_le {a b k : Nat} (hb : 0 < b) (h : a ≤ k * b) : RE a b ≤ k := by
  have := RE_mono1 (g := b) h
  rwa [RE_int k hb] at this
theorem le_RE {a b k : Nat} (hb : 0 < b) (h : k * b ≤ a) : k ≤ RE a b := by
  have := RE_mono1 (g := b) h
  rwa [RE_int k hb] at this

/-- The magnitude of a rung, in units of the least place. -/
def vr (r : Nat) : Nat := if r < 2 ^ 52 then r else (2 ^ 52 + r % 2 ^ 52) * 2 ^ (r / 2 ^ 52 - 1)
/-- How many places are dropped of 'a / b' units. -/
def qq (a b : Nat) : Nat := if a / b < 2 ^ 53 then 0 else (a / b).log2 - 52
def RRu (a b : Nat) : Nat := qq a b * 2 ^ 52 + RE a (b * 2 ^ qq a b)
def infR : Nat := 2047 * 2 ^ 52
/-- The rung of 'a / b' units. -/
def RR (a b : Nat) : Nat := min (RRu a b) infR

theorem qq_lt (a b : Nat) : a / b < 2 ^ (qq a b + 53) := by
  unfold qq
  split
  · rename_i h; simpa using h
  · rename_i h
    have h1 : a / b < 2 ^ ((a / b).log2 + 1) := Nat.lt_log2_self
    have h2 : 53 ≤ (a / b).log2 := (Nat.le_log2 (by omega)).2 (by omega)
    rwa [show (a / b).log2 - 52 + 53 = (a / b).log2 + 1 by omega]
theorem qq_ge {a b : Nat} (h : 0 < qq a b) : 2 ^ (qq a b + 52) ≤ a / b := by
  unfold qq at *
  split at h
  · omega
  · rename_i h2
    rw [if_neg h2]
    have h3 : 53 ≤ (a / b).log2 := (Nat.le_log2 (by omega)).2 (by omega)
    rw [show (a / b).log2 - 52 + 52 = (a / b).log2 by omega]
    exact Nat.log2_self_le (by omega)
theorem qq_mono {a b c d : Nat} (h : a / b ≤ c / d) : qq a b ≤ qq c d := by
  by_cases h0 : qq a b = 0
  · omega
  · have h1 := qq_ge (Nat.pos_of_ne_zero h0)
    have h2 := qq_lt c d
    have h3 : 2 ^ (qq a b + 52) < 2 ^ (qq c d + 53) := by omega
    have := (Nat.pow_lt_pow_iff_right (by decide)).1 h3
    omega
theorem qq_of {a b q : Nat} (h1 : a / b < 2 ^ (q + 53)) (h2 : 0 < q → 2 ^ (q + 52) ≤ a / b) : qq a b = q := by
  have h3 := qq_lt a b
  by_cases hq : q = 0
  · subst hq
    by_cases h0 : qq a b = 0
    · exact h0
    · have h4 := qq_ge (Nat.pos_of_ne_zero h0)
      have h5 : 2 ^ (qq a b + 52) < 2 ^ (0 + 53) := by omega
      have := (Nat.pow_lt_pow_iff_right (by decide)).1 h5
      omega
  · have h2 := h2 (Nat.pos_of_ne_zero hq)
    have h5 : 2 ^ (q + 52) < 2 ^ (qq a b + 53) := by omega
    have h6 := (Nat.pow_lt_pow_iff_right (by decide)).1 h5
    by_cases h0 : qq a b = 0
    · omega
    · have h4 := qq_ge (Nat.pos_of_ne_zero h0)
      have h7 : 2 ^ (qq a b + 52) < 2 ^ (q + 53) := by omega
      have := (Nat.pow_lt_pow_iff_right (by decide)).1 h7
      omega

theorem div_le_div' {a b c d : Nat} (hb : 0 < b) (hd : 0 < d) (h : a * d ≤ c * b) : a / b ≤ c / d := by
  rw [Nat.le_div_iff_mul_le hd]
  have h1 : a / b * b ≤ a := Nat.div_mul_le_self a b
  have h2 : a / b * b * d ≤ a * d := Nat.mul_le_mul_right d h1
  have h3 : a / b * d * b ≤ c * b := by
    calc a / b * d * b = a / b * b * d := by rw [Nat.mul_assoc, Nat.mul_comm d b, ← Nat.mul_assoc]
      _ ≤ a * d := h2
      _ ≤ c * b := h
  exact Nat.le_of_mul_le_mul_right h3 hb

theorem RRu_mono {a b c d : Nat} (hb : 0 < b) (hd : 0 < d) (h : a * d ≤ c * b) : RRu a b ≤ RRu c d := by
  unfold RRu
  have hq := qq_mono (div_le_div' hb hd h)
  rcases Nat.lt_or_eq_of_le hq with hq | hq
  · have h1 : RE a (b * 2 ^ qq a b) ≤ 2 ^ 53 := by
      refine RE_le (Nat.mul_pos hb (Nat.two_pow_pos _)) ?_
      have := qq_lt a b
      rw [Nat.div_lt_iff_lt_mul hb] at this
      rw [Nat.pow_add] at this
      calc a ≤ 2 ^ qq a b * 2 ^ 53 * b := Nat.le_of_lt this
        _ = 2 ^ 53 * (b * 2 ^ qq a b) := by rw [Nat.mul_comm (2 ^ qq a b), Nat.mul_assoc, Nat.mul_comm b]
    have h2 : 2 ^ 52 ≤ RE c (d * 2 ^ qq c d) := by
      refine le_RE (Nat.mul_pos hd (Nat.two_pow_pos _)) ?_
      have := qq_ge (a := c) (b := d) (by omega)
      rw [Nat.le_div_iff_mul_le hd, Nat.pow_add] at this
      calc 2 ^ 52 * (d * 2 ^ qq c d) = 2 ^ qq c d * 2 ^ 52 * d := by rw [Nat.mul_comm (2 ^ qq c d), Nat.mul_assoc, Nat.mul_comm d]
        _ ≤ c := this
    have h3 : (qq a b + 1) * 2 ^ 52 ≤ qq c d * 2 ^ 52 := Nat.mul_le_mul_right _ hq
    omega
  · rw [hq]
    refine Nat.add_le_add_left (RE_mono (Nat.mul_pos hb (Nat.two_pow_pos _)) (Nat.mul_pos hd (Nat.two_pow_pos _)) ?_) _
    rw [← Nat.mul_assoc, ← Nat.mul_assoc]
    exact Nat.mul_le_mul_right _ h
theorem RR_mono {a b c d : Nat} (hb : 0 < b) (hd : 0 < d) (h : a * d ≤ c * b) : RR a b ≤ RR c d := by
  have := RRu_mono hb hd h
  unfold RR; omega
theorem RR_scale (a b : Nat) {c : Nat} (hc : 0 < c) : RR (a * c) (b * c) = RR a b := by
  have hq : qq (a * c) (b * c) = qq a b := by unfold qq; rw [Nat.mul_div_mul_right _ _ hc]
  unfold RR RRu
  rw [hq, Nat.mul_right_comm b c, RE_scale _ _ hc]
theorem RR_le (a b : Nat) : RR a b ≤ infR := by unfold RR; omega

theorem RRu_vr (r : Nat) : RRu (vr r) 1 = r := by
  unfold vr
  split
  · rename_i h
    have hq : qq r 1 = 0 := qq_of (by rw [Nat.div_one]; omega) (by omega)
    unfold RRu
    rw [hq]
    have := RE_int r (g := 1) (by decide)
    simpa using this
  · rename_i h
    have h1 : 1 ≤ r / 2 ^ 52 := by omega
    have h2 : r % 2 ^ 52 < 2 ^ 52 := Nat.mod_lt _ (by decide)
    have h3 := Nat.div_add_mod r (2 ^ 52)
    generalize r / 2 ^ 52 = e at *
    generalize r % 2 ^ 52 = f at *
    have hq : qq ((2 ^ 52 + f) * 2 ^ (e - 1)) 1 = e - 1 := by
      refine qq_of ?_ fun h4 => ?_
      · rw [Nat.div_one, Nat.pow_add, Nat.mul_comm (2 ^ (e - 1))]
        exact Nat.mul_lt_mul_of_pos_right (by omega) (Nat.two_pow_pos _)
      · rw [Nat.div_one, Nat.pow_add, Nat.mul_comm (2 ^ (e - 1))]
        exact Nat.mul_le_mul_right _ (by omega)
    unfold RRu
    rw [hq, Nat.one_mul, RE_int _ (Nat.two_pow_pos _)]
    have : e = e - 1 + 1 := by omega
    rw [this] at h3
    omega
theorem RR_vr {r : Nat} (h : r ≤ infR) : RR (vr r) 1 = r := by
  unfold RR; rw [RRu_vr]; omega
theorem vr_lt {r s : Nat} (h : r < s) : vr r < vr s := by
  rcases Nat.lt_or_ge (vr r) (vr s) with h1 | h1
  · exact h1
  · have := RRu_mono (a := vr s) (b := 1) (c := vr r) (d := 1) (by decide) (by decide) (by omega)
    rw [RRu_vr, RRu_vr] at this
    omega
theorem vr_le {r s : Nat} (h : r ≤ s) : vr r ≤ vr s := by
  rcases Nat.lt_or_eq_of_le h with h | h
  · exact Nat.le_of_lt (vr_lt h)
  · rw [h]; exact Nat.le_refl _
theorem vr0 : vr 0 = 0 := rfl

/-! ### the model's rounding is this -/
theorem cut_even (n d : Nat) (neg : Bool) : Toward.even.cut neg n d = RE n (2 ^ d) := by
  unfold Toward.cut RE
  simp only [Nat.shiftLeft_eq, Nat.one_mul]
  have key : ∀ g : Nat, ((decide (g < 2 * (n % g)) || (g == 2 * (n % g) && n / g % 2 == 1)).toNat) = if g < 2 * (n % g) ∨ (g = 2 * (n % g) ∧ n / g % 2 = 1) then 1 else 0 := by
    intro g
    split
    · rename_i h
      rcases h with h | ⟨h1, h2⟩
      · simp [h]
      · rw [beq_iff_eq.2 h1, beq_iff_eq.2 h2]; simp
    · rename_i h
      have a1 : ¬ g < 2 * (n % g) := fun x => h (.inl x)
      by_cases a2 : g = 2 * (n % g)
      · have a3 : ¬ n / g % 2 = 1 := fun x => h (.inr ⟨a2, x⟩)
        have : (n / g % 2 == 1) = false := by simpa using a3
        rw [this]; simp; omega
      · have : (g == 2 * (n % g)) = false := by simpa using a2
        rw [this]; simp; omega
  by_cases h : d ≤ n.log2 + 2
  · rw [Nat.min_eq_left h]
    exact congrArg _ (key _)
  · rw [Nat.min_eq_right (by omega)]
    have l1 : n < 2 ^ (n.log2 + 1) := Nat.lt_log2_self
    have l2 : 2 ^ (n.log2 + 2) ≤ 2 ^ d := Nat.pow_le_pow_right (by decide) (by omega)
    have l3 : 2 ^ (n.log2 + 2) = 2 * 2 ^ (n.log2 + 1) := by rw [Nat.pow_succ]; omega
    have l4 : 2 ^ (n.log2 + 3) ≤ 2 ^ d := Nat.pow_le_pow_right (by decide) (by omega)
    rw [Nat.div_eq_of_lt (show n < 2 ^ (n.log2 + 2) by omega), Nat.mod_eq_of_lt (show n < 2 ^ (n.log2 + 2) by omega), Nat.div_eq_of_lt (show n < 2 ^ d by omega), Nat.mod_eq_of_lt (show n < 2 ^ d by omega)]
    rw [if_neg (by omega)]
    have a1 : ¬ 2 ^ (n.log2 + 2) < 2 * n := by omega
    have a2 : (2 ^ (n.log2 + 2) == 2 * n) = false := by simp; omega
    simp [a1, a2]

theorem qq_pow {n d k : Nat} (hn : n ≠ 0) : qq (n * 2 ^ k) (2 ^ d) = n.log2 + k - d - 52 := by
  have l1 : n < 2 ^ (n.log2 + 1) := Nat.lt_log2_self
  have l2 : 2 ^ n.log2 ≤ n := Nat.log2_self_le hn
  have l3 : n * 2 ^ k < 2 ^ (n.log2 + 1 + k) := by rw [Nat.pow_add]; exact Nat.mul_lt_mul_of_pos_right l1 (Nat.two_pow_pos _)
  have l4 : 2 ^ (n.log2 + k) ≤ n * 2 ^ k := by rw [Nat.pow_add]; exact Nat.mul_le_mul_right _ l2
  refine qq_of ?_ fun h => ?_
  · rw [Nat.div_lt_iff_lt_mul (Nat.two_pow_pos _), ← Nat.pow_add]
    exact Nat.lt_of_lt_of_le l3 (Nat.pow_le_pow_right (by decide) (by omega))
  · rw [Nat.le_div_iff_mul_le (Nat.two_pow_pos _), ← Nat.pow_add]
    refine Nat.le_trans (Nat.pow_le_pow_right (by decide) ?_) l4
    omega

/-- A magnitude at a place, in units of the least one: over, under. -/
theorem nearest_eq (neg : Bool) (mag : Nat) (place : Int) : double.nearest neg mag place = double.word neg (RR (mag * 2 ^ (place - double.leastPlace).toNat) (2 ^ (double.leastPlace - place).toNat)) := by
  unfold Format.nearest
  split
  · rename_i h
    subst h
    rw [Nat.zero_mul]
    have : RR 0 (2 ^ (double.leastPlace - place).toNat) = 0 := by
      have h1 : qq 0 (2 ^ (double.leastPlace - place).toNat) = 0 := qq_of (by rw [Nat.zero_div]; exact Nat.two_pow_pos _) (by omega)
      unfold RR RRu
      rw [h1]
      have := RE_int 0 (g := 2 ^ (double.leastPlace - place).toNat * 2 ^ 0) (by rw [Nat.pow_zero, Nat.mul_one]; exact Nat.two_pow_pos _)
      rw [Nat.zero_mul] at this
      rw [this]; rfl
    rw [this]
  · rename_i hm
    have hb : double.binade = 2 ^ 52 := rfl
    have hf : (double.fractionBits : Int) = 52 := rfl
    have hi : double.infRung = infR := rfl
    dsimp only
    rw [hb, hf, hi]
    generalize double.leastPlace = L
    refine congrArg (double.word neg) ?_
    unfold RR RRu
    refine congrArg (fun z => min z infR) ?_
    rw [qq_pow hm]
    rw [cut_even, Nat.shiftLeft_eq]
    have e1 : (max (place + (mag.log2 : Int) - 52) L - L).toNat = mag.log2 + (place - L).toNat - (L - place).toNat - 52 := by omega
    rw [e1]
    generalize hq : mag.log2 + (place - L).toNat - (L - place).toNat - 52 = q
    refine congrArg (fun z => q * 2 ^ 52 + z) ?_
    rw [← Nat.pow_add]
    -- both sides are the same quotient
    have e2 : max (place + (mag.log2 : Int) - 52) L = L + q := by omega
    rw [e2]
    by_cases h1 : place ≤ L + q
    · rw [show (place - (L + (q : Int))).toNat = 0 by omega, Nat.pow_zero, Nat.mul_one]
      have e3 : 2 ^ ((L - place).toNat + q) = 2 ^ (L + (q : Int) - place).toNat * 2 ^ (place - L).toNat := by
        rw [← Nat.pow_add]; congr 1; omega
      rw [e3, RE_scale _ _ (Nat.two_pow_pos _)]
    · rw [show (L + (q : Int) - place).toNat = 0 by omega, show (L - place).toNat = 0 by omega, Nat.zero_add, Nat.pow_zero]
      have e3 : mag * 2 ^ (place - L).toNat = mag * 2 ^ (place - (L + (q : Int))).toNat * 2 ^ q := by
        rw [Nat.mul_assoc, ← Nat.pow_add]; congr 2; omega
      rw [e3, RE_int _ (Nat.two_pow_pos _)]
      have := RE_int (mag * 2 ^ (place - (L + (q : Int))).toNat) (g := 1) (by decide)
      rwa [Nat.mul_one] at this

/-! ### words as signed rungs -/
def sgB (x : Nat) : Bool := x / double.signWeight % 2 == 1
def rgN (x : Nat) : Nat := x % double.signWeight
/-- The rung of a word, with its sign; none: it is no number. -/
def sr (x : Nat) : Option Int := if rgN x ≤ infR then some (if sgB x then -(rgN x : Int) else rgN x) else none
/-- What a rung stands for, in units of the least place. -/
def V (r : Int) : Int := if r < 0 then -(vr r.natAbs : Int) else vr r.natAbs
/-- The rung of 'n / b' units. -/
def Sr (n : Int) (b : Nat) : Int := if n < 0 then -(RR n.natAbs b : Int) else RR n.natAbs b
def Fin (r : Int) : Prop := -(infR : Int) < r ∧ r < infR

theorem V_nat (r : Nat) : V r = vr r := by unfold V; rw [if_neg (by omega)]; rfl
theorem V_neg (r : Int) : V (-r) = -V r := by
  unfold V
  rcases Int.lt_trichotomy r 0 with h | h | h
  · rw [if_neg (by omega), if_pos h, Int.natAbs_neg, Int.neg_neg]
  · subst h; rfl
  · rw [if_pos (by omega), if_neg (by omega), Int.natAbs_neg]
theorem V0 : V 0 = 0 := rfl
theorem V_lt {r s : Int} (h : r < s) : V r < V s := by
  unfold V
  split <;> split
  · have := vr_lt (r := s.natAbs) (s := r.natAbs) (by omega); omega
  · have := vr_lt (r := 0) (s := r.natAbs) (by omega); rw [vr0] at this; omega
  · omega
  · have := vr_lt (r := r.natAbs) (s := s.natAbs) (by omega); omega
theorem V_le {r s : Int} (h : r ≤ s) : V r ≤ V s := by
  rcases Int.lt_or_eq_of_le h with h | h
  · exact Int.le_of_lt (V_lt h)
  · rw [h]; exact Int.le_refl _
theorem V_le_iff {r s : Int} : V r ≤ V s ↔ r ≤ s := by
  constructor
  · intro h
    rcases (by omega : s < r ∨ r ≤ s) with h1 | h1
    · have := V_lt h1; omega
    · exact h1
  · exact V_le
theorem V_lt_iff {r s : Int} : V r < V s ↔ r < s := by
  constructor
  · intro h
    rcases (by omega : r < s ∨ s ≤ r) with h1 | h1
    · exact h1
    · have := V_le h1; omega
  · exact V_lt

theorem RR0 (b : Nat) (hb : 0 < b) : RR 0 b = 0 := by
  have h1 : qq 0 b = 0 := qq_of (by rw [Nat.zero_div]; exact Nat.two_pow_pos _) (by omega)
  unfold RR RRu
  rw [h1]
  have := RE_int 0 (g := b * 2 ^ 0) (by rw [Nat.pow_zero, Nat.mul_one]; exact hb)
  rw [Nat.zero_mul] at this
  rw [this]; rfl
theorem Sr_mono {n m : Int} {b d : Nat} (hb : 0 < b) (hd : 0 < d) (h : n * d ≤ m * b) : Sr n b ≤ Sr m d := by
  unfold Sr
  have hd' : (0 : Int) < d := by omega
  have hb' : (0 : Int) < b := by omega
  split <;> split
  · rename_i h1 h2
    have : RR m.natAbs d ≤ RR n.natAbs b := RR_mono hd hb (by
      have e1 : ((m.natAbs * b : Nat) : Int) = -(m * b) := by rw [Int.natCast_mul, Int.ofNat_natAbs_of_nonpos (by omega), Int.neg_mul]
      have e2 : ((n.natAbs * d : Nat) : Int) = -(n * d) := by rw [Int.natCast_mul, Int.ofNat_natAbs_of_nonpos (by omega), Int.neg_mul]
      omega)
    omega
  · omega
  · rename_i h1 h2
    have a1 : 0 ≤ n * (d : Int) := Int.mul_nonneg (by omega) (by omega)
    have a2 : m * (b : Int) < 0 := Int.mul_neg_of_neg_of_pos h2 hb'
    omega
  · rename_i h1 h2
    have : RR n.natAbs b ≤ RR m.natAbs d := RR_mono hb hd (by
      have e1 : ((m.natAbs * b : Nat) : Int) = m * b := by rw [Int.natCast_mul, Int.natAbs_of_nonneg (by omega)]
      have e2 : ((n.natAbs * d : Nat) : Int) = n * d := by rw [Int.natCast_mul, Int.natAbs_of_nonneg (by omega)]
      omega)
    omega
theorem Sr_neg (n : Int) (b : Nat) (hb : 0 < b) : Sr (-n) b = -Sr n b := by
  unfold Sr
  rcases Int.lt_trichotomy n 0 with h | h | h
  · rw [if_neg (by omega), if_pos h, Int.natAbs_neg, Int.neg_neg]
  · subst h
    have := RR0 b hb
    simp [this]
  · rw [if_pos (by omega), if_neg (by omega), Int.natAbs_neg]
theorem Sr_V {r : Int} (h : -(infR : Int) ≤ r ∧ r ≤ infR) : Sr (V r) 1 = r := by
  have key : ∀ k : Nat, k ≤ infR → Sr (vr k) 1 = k := fun k hk => by
    unfold Sr
    rw [if_neg (by omega), Int.natAbs_natCast, RR_vr hk]
  rcases (by omega : r < 0 ∨ 0 ≤ r) with h1 | h1
  · have e : r = -((r.natAbs : Nat) : Int) := by omega
    rw [e, V_neg, V_nat, Sr_neg _ _ (by decide), key _ (by omega)]
  · have e : r = ((r.natAbs : Nat) : Int) := by omega
    rw [e, V_nat, key _ (by omega)]
theorem Sr_in (n : Int) (b : Nat) : -(infR : Int) ≤ Sr n b ∧ Sr n b ≤ infR := by
  unfold Sr
  have := RR_le n.natAbs b
  split <;> omega
/-- What is no more than a rung stands for is rounded to no more than the rung. -/
theorem Sr_le {n r : Int} {b : Nat} (hb : 0 < b) (hr : -(infR : Int) ≤ r ∧ r ≤ infR) (h : n ≤ V r * b) : Sr n b ≤ r := by
  have := Sr_mono (n := n) (m := V r) (b := b) (d := 1) hb (by decide) (by simpa using h)
  rwa [Sr_V hr] at this
theorem le_Sr {n r : Int} {b : Nat} (hb : 0 < b) (hr : -(infR : Int) ≤ r ∧ r ≤ infR) (h : V r * b ≤ n) : r ≤ Sr n b := by
  have := Sr_mono (n := V r) (m := n) (b := 1) (d := b) (by decide) hb (by simpa using h)
  rwa [Sr_V hr] at this

theorem sw : double.signWeight = 2 ^ 63 := rfl
theorem leastP : double.leastPlace = -1074 := rfl
theorem infR_lt : infR < 2 ^ 63 := by decide
theorem word_sg (neg : Bool) {r : Nat} (h : r ≤ infR) : sgB (double.word neg r) = neg ∧ rgN (double.word neg r) = r := by
  have := infR_lt
  unfold sgB rgN Format.word
  rw [sw]
  cases neg
  · simp only [Bool.false_eq_true, if_false]
    exact ⟨by rw [Nat.div_eq_of_lt (by omega)]; rfl, by rw [Nat.mod_eq_of_lt (by omega)]⟩
  · simp only [if_true]
    rw [Nat.add_comm, Nat.add_div_right _ (by decide), Nat.div_eq_of_lt (by omega), Nat.add_mod_right]
    exact ⟨rfl, by rw [Nat.mod_eq_of_lt (by omega)]⟩
theorem sr_word (neg : Bool) {r : Nat} (h : r ≤ infR) : sr (double.word neg r) = some (if neg then -(r : Int) else r) := by
  obtain ⟨h1, h2⟩ := word_sg neg h
  unfold sr
  rw [h1, h2, if_pos h]

/-- What a word of a rung that is no edge stands for. -/
theorem read_fin {x : Nat} {a : Int} (h : sr x = some a) (hf : Fin a) : ∃ m e, double.read x = .number (sgB x) m e ∧ double.leastPlace ≤ e ∧ signed (sgB x) m (e - double.leastPlace).toNat = V a := by
  have hb : double.binade = 2 ^ 52 := rfl
  have hi : double.infRung = infR := rfl
  unfold sr at h
  split at h
  · rename_i hr
    simp only [Option.some.injEq] at h
    have hlt : rgN x < infR := by
      unfold Fin at hf
      split at h <;> omega
    have key : ∀ m e, double.leastPlace ≤ e → m * 2 ^ (e - double.leastPlace).toNat = vr (rgN x) → signed (sgB x) m (e - double.leastPlace).toNat = V a := by
      intro m e _ he
      unfold signed
      rw [Nat.shiftLeft_eq, he, ← h]
      split
      · rw [V_neg, V_nat]
      · rw [V_nat]
    by_cases h1 : rgN x < 2 ^ 52
    · refine ⟨rgN x, double.leastPlace, ?_, Int.le_refl _, key _ _ (Int.le_refl _) ?_⟩
      · unfold Format.read
        dsimp only
        rw [hb, if_pos (show x % double.signWeight < 2 ^ 52 from h1)]; rfl
      · rw [Int.sub_self, Int.toNat_zero, Nat.pow_zero, Nat.mul_one]; unfold vr; rw [if_pos h1]
    · have hle : double.leastPlace ≤ double.leastPlace + (rgN x / 2 ^ 52 - 1 : Nat) := by omega
      refine ⟨2 ^ 52 + rgN x % 2 ^ 52, double.leastPlace + (rgN x / 2 ^ 52 - 1 : Nat), ?_, hle, key _ _ hle ?_⟩
      · unfold Format.read
        dsimp only
        rw [hb, hi, if_neg (show ¬ x % double.signWeight < 2 ^ 52 from h1), if_pos (show x % double.signWeight < infR from hlt)]; rfl
      · rw [show (double.leastPlace + ((rgN x / 2 ^ 52 - 1 : Nat) : Int) - double.leastPlace).toNat = rgN x / 2 ^ 52 - 1 by omega]
        unfold vr; rw [if_neg h1]
  · cases h
theorem read_inf {x : Nat} (h : rgN x = infR) : double.read x = .infinity (sgB x) := by
  have hb : double.binade = 2 ^ 52 := rfl
  have hi : double.infRung = infR := rfl
  have h0 : infR = 2047 * 2 ^ 52 := rfl
  unfold Format.read
  dsimp only
  have e : x % double.signWeight = infR := h
  rw [e, hb, hi, if_neg (by omega), if_neg (by omega), if_pos rfl]; rfl
theorem read_nan {x : Nat} (h : sr x = none) : ∃ s f, double.read x = .nan s f := by
  have hb : double.binade = 2 ^ 52 := rfl
  have hi : double.infRung = infR := rfl
  have h0 : infR = 2047 * 2 ^ 52 := rfl
  unfold sr at h
  split at h
  · cases h
  · rename_i hr
    have hr : ¬ x % double.signWeight ≤ infR := hr
    refine ⟨sgB x, x % double.signWeight - infR, ?_⟩
    unfold Format.read
    dsimp only
    rw [hb, hi, if_neg (by omega), if_neg (by omega), if_neg (by omega)]; rfl
/-- An edge: an infinity. -/
theorem sr_inf {x : Nat} {a : Int} (h : sr x = some a) (hf : ¬ Fin a) : rgN x = infR ∧ a = if sgB x then -(infR : Int) else infR := by
  unfold sr at h
  split at h
  · simp only [Option.some.injEq] at h
    unfold Fin at hf
    have : rgN x = infR := by split at h <;> omega
    rw [this] at h
    exact ⟨this, h.symm⟩
  · cases h

theorem sr_nearest (neg : Bool) (mag : Nat) (place : Int) : sr (double.nearest neg mag place) = some (if neg then -(RR (mag * 2 ^ (place - double.leastPlace).toNat) (2 ^ (double.leastPlace - place).toNat) : Int) else RR (mag * 2 ^ (place - double.leastPlace).toNat) (2 ^ (double.leastPlace - place).toNat)) := by
  rw [nearest_eq, sr_word _ (RR_le _ _)]

theorem signed_toNat (s : Bool) (m u v : Nat) : signed s m (u + v) = signed s m u * (2 ^ v : Nat) := by
  unfold signed
  rw [Nat.shiftLeft_eq, Nat.shiftLeft_eq, Nat.pow_add, ← Nat.mul_assoc]
  cases s
  · simp only [Bool.false_eq_true, if_false]; exact Int.natCast_mul ..
  · simp only [if_true]; rw [Int.natCast_mul, Int.neg_mul]

/-- A sum is rounded once. -/
theorem sum_number {s t : Bool} {m n : Nat} {i j : Int} (hi : double.leastPlace ≤ i) (hj : double.leastPlace ≤ j) {a b : Int} (ha : signed s m (i - double.leastPlace).toNat = V a) (hb : signed t n (j - double.leastPlace).toNat = V b) :
    ∃ z, ((Datum.number s m i).sum (.number t n j)).map double.write = some z ∧ sr z = some (Sr (V a + V b) 1) := by
  refine ⟨_, rfl, ?_⟩
  show sr (double.nearest _ _ _) = _
  rw [sr_nearest]
  generalize hL : double.leastPlace = L at *
  have e1 : (i - L).toNat = (i - min i j).toNat + (min i j - L).toNat := by omega
  have e2 : (j - L).toNat = (j - min i j).toNat + (min i j - L).toNat := by omega
  rw [e1, signed_toNat] at ha
  rw [e2, signed_toNat] at hb
  have e3 : (L - min i j).toNat = 0 := by omega
  rw [e3, Nat.pow_zero]
  rw [← ha, ← hb, ← Int.add_mul]
  generalize signed s m (i - min i j).toNat + signed t n (j - min i j).toNat = T
  generalize (min i j - L).toNat = k
  have hp : (0 : Int) < ((2 ^ k : Nat) : Int) := by exact_mod_cast Nat.two_pow_pos k
  unfold Sr
  rw [Int.natAbs_mul, Int.natAbs_natCast]
  have h0 : T.natAbs * 2 ^ k = 0 → RR (T.natAbs * 2 ^ k) 1 = 0 := fun h => by rw [h, RR0 1 (by decide)]
  rcases Int.lt_trichotomy T 0 with h | h | h
  · have h2 : T * ((2 ^ k : Nat) : Int) < 0 := Int.mul_neg_of_neg_of_pos h hp
    rw [if_neg (by omega : ¬ T = 0), if_pos h2]
    simp [h]
  · subst h
    rw [Int.zero_mul, if_pos rfl, if_neg (show ¬ (0 : Int) < 0 by omega)]
    have : RR (Int.natAbs 0 * 2 ^ k) 1 = 0 := h0 (by simp)
    rw [this]
    cases s && t <;> rfl
  · have h2 : ¬ T * ((2 ^ k : Nat) : Int) < 0 := by have := Int.mul_pos h hp; omega
    rw [if_neg (by omega : ¬ T = 0), if_neg h2]
    have : decide (T < 0) = false := by simp; omega
    simp [this]

theorem add_fin {x y : Nat} {a b : Int} (ha : sr x = some a) (hb : sr y = some b) (fa : Fin a) (fb : Fin b) : ∃ z, double.add x y = some z ∧ sr z = some (Sr (V a + V b) 1) := by
  obtain ⟨m, i, r1, h1, g1⟩ := read_fin ha fa
  obtain ⟨n, j, r2, h2, g2⟩ := read_fin hb fb
  unfold Format.add
  rw [r1, r2]
  exact sum_number h1 h2 g1 g2
theorem signed_not (s : Bool) (m u : Nat) : signed (!s) m u = -signed s m u := by
  unfold signed; cases s <;> simp
theorem sub_fin {x y : Nat} {a b : Int} (ha : sr x = some a) (hb : sr y = some b) (fa : Fin a) (fb : Fin b) : ∃ z, double.sub x y = some z ∧ sr z = some (Sr (V a - V b) 1) := by
  obtain ⟨m, i, r1, h1, g1⟩ := read_fin ha fa
  obtain ⟨n, j, r2, h2, g2⟩ := read_fin hb fb
  unfold Format.sub
  rw [r1, r2]
  have := sum_number (s := sgB x) (t := !sgB y) (m := m) (n := n) (i := i) (j := j) h1 h2 (a := a) (b := -b) g1 (by rw [signed_not, g2, V_neg])
  rw [V_neg, ← Int.sub_eq_add_neg] at this
  exact this

theorem signed_mul (s t : Bool) (m n u v : Nat) : signed s m u * signed t n v = signed (s ^^ t) (m * n) (u + v) := by
  unfold signed
  simp only [Nat.shiftLeft_eq]
  have : ((m * 2 ^ u : Nat) : Int) * (n * 2 ^ v : Nat) = (m * n * 2 ^ (u + v) : Nat) := by
    rw [← Int.natCast_mul]; congr 1; rw [Nat.pow_add]; ac_rfl
  cases s <;> cases t <;> simp only [Bool.xor_false, Bool.xor_true, Bool.not_true, Bool.not_false, Bool.false_eq_true, if_true, if_false, Int.neg_mul, Int.mul_neg, Int.neg_neg, this]
theorem mul_fin {x y : Nat} {a b : Int} (ha : sr x = some a) (hb : sr y = some b) (fa : Fin a) (fb : Fin b) : ∃ z, double.mul x y = some z ∧ sr z = some (Sr (V a * V b) (2 ^ 1074)) := by
  obtain ⟨m, i, r1, h1, g1⟩ := read_fin ha fa
  obtain ⟨n, j, r2, h2, g2⟩ := read_fin hb fb
  refine ⟨double.nearest (sgB x ^^ sgB y) (m * n) (i + j), by unfold Format.mul; rw [r1, r2]; rfl, ?_⟩
  rw [sr_nearest, ← g1, ← g2, signed_mul]
  rw [leastP] at h1 h2 ⊢
  have hsc : RR (m * n * 2 ^ (i + j - -1074).toNat) (2 ^ (-1074 - (i + j)).toNat) = RR (m * n * 2 ^ ((i - -1074).toNat + (j - -1074).toNat)) (2 ^ 1074) := by
    have e1 : (i - -1074).toNat + (j - -1074).toNat = (i + j - -1074).toNat + (1074 - (-1074 - (i + j)).toNat) := by omega
    have e2 : 2 ^ 1074 = 2 ^ (-1074 - (i + j)).toNat * 2 ^ (1074 - (-1074 - (i + j)).toNat) := by rw [← Nat.pow_add]; congr 1; omega
    rw [e1, e2, Nat.pow_add, ← Nat.mul_assoc, RR_scale _ _ (Nat.two_pow_pos _)]
  rw [hsc]
  generalize (i - -1074).toNat + (j - -1074).toNat = u
  generalize hb2 : 2 ^ 1074 = B
  have hB : 0 < B := by rw [← hb2]; exact Nat.two_pow_pos 1074
  unfold Sr signed
  rw [Nat.shiftLeft_eq]
  cases sgB x ^^ sgB y
  · simp only [Bool.false_eq_true, if_false]
    rw [if_neg (by omega), Int.natAbs_natCast]
  · simp only [if_true]
    by_cases h0 : m * n * 2 ^ u = 0
    · rw [h0, RR0 _ hB]; simp [RR0 _ hB]
    · rw [if_pos (by omega), Int.natAbs_neg, Int.natAbs_natCast]

/-! ### quotients -/
theorem RE_sticky {N D z : Nat} (hD : 0 < D) : RE (2 * (N / D) + (N % D != 0).toNat) (2 ^ (z + 2)) = RE (2 * N) (D * 2 ^ (z + 2)) := by
  have hr := Nat.mod_lt N hD
  have hN := Nat.div_add_mod N D
  generalize hF : N / D = F at *
  generalize hR : N % D = r at *
  have hs : (r != 0).toNat = if r = 0 then 0 else 1 := by
    by_cases h : r = 0
    · subst h; rfl
    · have : (r != 0) = true := by simpa using h
      rw [this, if_neg h]; rfl
  rw [hs]
  generalize hS : (if r = 0 then 0 else 1) = s
  have hs1 : s = 0 ∧ r = 0 ∨ s = 1 ∧ 0 < r := by
    rw [← hS]
    by_cases h : r = 0
    · exact .inl ⟨if_pos h, h⟩
    · exact .inr ⟨if_neg h, by omega⟩
  have p1 : 2 ^ (z + 2) = 2 * 2 ^ (z + 1) := by rw [Nat.pow_succ]; omega
  have p2 : 2 ^ (z + 1) = 2 * 2 ^ z := by rw [Nat.pow_succ]; omega
  have hz : 0 < 2 ^ z := Nat.two_pow_pos z
  have e1 : (2 * F + s) / 2 ^ (z + 2) = F / 2 ^ (z + 1) := by
    rw [p1, ← Nat.div_div_eq_div_mul]; congr 1; omega
  have fm := Nat.div_add_mod F (2 ^ (z + 1))
  have fl := Nat.mod_lt F (Nat.two_pow_pos (z + 1))
  have m1 := Nat.div_add_mod (2 * F + s) (2 ^ (z + 2))
  rw [e1] at m1
  -- the other one
  have hD2 : D * 2 ^ (z + 2) = 2 * (D * 2 ^ (z + 1)) := by rw [p1, Nat.mul_left_comm]
  have e2 : 2 * N / (D * 2 ^ (z + 2)) = F / 2 ^ (z + 1) := by
    rw [hD2, Nat.mul_div_mul_left _ _ (by decide), ← Nat.div_div_eq_div_mul, hF]
  have m2 : 2 * N % (D * 2 ^ (z + 2)) = 2 * (D * (F % 2 ^ (z + 1)) + r) := by
    rw [hD2, Nat.mul_mod_mul_left]
    congr 1
    rw [Nat.mod_mul, hR, hF]; omega
  generalize hc : F / 2 ^ (z + 1) = c at *
  generalize hf : F % 2 ^ (z + 1) = f at *
  have m1' : (2 * F + s) % 2 ^ (z + 2) = 2 * f + s := by
    have : 2 ^ (z + 2) * c = 2 * (2 ^ (z + 1) * c) := by rw [p1, Nat.mul_assoc]
    omega
  unfold RE
  rw [e1, e2, m1', m2, hD2]
  have key : (2 ^ (z + 2) < 2 * (2 * f + s) ↔ 2 * (D * 2 ^ (z + 1)) < 2 * (2 * (D * f + r))) ∧ (2 ^ (z + 2) = 2 * (2 * f + s) ↔ 2 * (D * 2 ^ (z + 1)) = 2 * (2 * (D * f + r))) := by
    have q1 : D * 2 ^ (z + 1) = 2 * (D * 2 ^ z) := by rw [p2, Nat.mul_left_comm]
    rcases Nat.lt_trichotomy f (2 ^ z) with h | h | h
    · have : D * (f + 1) ≤ D * 2 ^ z := Nat.mul_le_mul_left _ h
      rw [Nat.mul_add, Nat.mul_one] at this
      omega
    · rw [h]; omega
    · have : D * (2 ^ z + 1) ≤ D * f := Nat.mul_le_mul_left _ h
      rw [Nat.mul_add, Nat.mul_one] at this
      omega
  simp only [key.1, key.2]

theorem pow_split (a b : Nat) (h : a ≤ b) : 2 ^ b = 2 ^ (b - a) * 2 ^ a := by rw [← Nat.pow_add]; congr 1; omega

theorem RR_sticky {N D u v : Nat} (hD : 0 < D) (hF : 2 ^ 53 ≤ N / D) : RR ((2 * (N / D) + (N % D != 0).toNat) * 2 ^ u) (2 ^ v) = RR (2 * N * 2 ^ u) (D * 2 ^ v) := by
  have hs : (N % D != 0).toNat ≤ 1 := by cases (N % D != 0) <;> decide
  have hN := Nat.div_add_mod N D
  have hr := Nat.mod_lt N hD
  generalize hM : 2 * (N / D) + (N % D != 0).toNat = M at *
  generalize hq : qq (M * 2 ^ u) (2 ^ v) = q
  have b1 := qq_lt (M * 2 ^ u) (2 ^ v)
  rw [hq, Nat.div_lt_iff_lt_mul (Nat.two_pow_pos _), ← Nat.pow_add] at b1
  -- at least two places are dropped
  have hw : u + 2 ≤ q + v := by
    have h1 : 2 ^ (54 + u) ≤ M * 2 ^ u := by rw [Nat.pow_add]; exact Nat.mul_le_mul_right _ (by omega)
    have h2 : 2 ^ (54 + u) < 2 ^ (q + 53 + v) := by omega
    have := (Nat.pow_lt_pow_iff_right (by decide)).1 h2
    omega
  obtain ⟨z, hz⟩ : ∃ z, q + v = u + (z + 2) := ⟨q + v - u - 2, by omega⟩
  obtain ⟨X, hX⟩ : ∃ X, 2 ^ (z + 53) = X := ⟨_, rfl⟩
  obtain ⟨Y, hY⟩ : ∃ Y, 2 ^ u = Y := ⟨_, rfl⟩
  have hYp : 0 < Y := by rw [← hY]; exact Nat.two_pow_pos u
  have p2 : 2 ^ (z + 54) = 2 * X := by rw [← hX, Nat.mul_comm]; exact Nat.pow_succ 2 (z + 53)
  have p1 : 2 ^ (z + 55) = 2 * (2 * X) := by rw [← p2, Nat.mul_comm]; exact Nat.pow_succ 2 (z + 54)
  have e5 : 2 ^ (q + 53) * 2 ^ v = 2 * (2 * X) * Y := by
    rw [← p1, ← hY, ← Nat.pow_add, ← Nat.pow_add]; exact congrArg (fun k => 2 ^ k) (by omega)
  have e4 : 2 ^ (q + 52) * 2 ^ v = 2 * X * Y := by
    rw [← p2, ← hY, ← Nat.pow_add, ← Nat.pow_add]; exact congrArg (fun k => 2 ^ k) (by omega)
  have b2 : M < 2 * (2 * X) := by
    rw [Nat.pow_add, e5, hY] at b1
    exact Nat.lt_of_mul_lt_mul_right b1
  have hq2 : qq (2 * N * 2 ^ u) (D * 2 ^ v) = q := by
    refine qq_of ?_ fun h0 => ?_
    · rw [Nat.div_lt_iff_lt_mul (Nat.mul_pos hD (Nat.two_pow_pos _)), Nat.mul_left_comm, e5, hY, ← Nat.mul_assoc]
      refine Nat.mul_lt_mul_of_pos_right ?_ hYp
      have hF1 : N / D + 1 ≤ 2 * X := by clear e5 e4 hq b1 hw p1 p2; omega
      have : D * (N / D + 1) ≤ D * (2 * X) := Nat.mul_le_mul_left _ hF1
      rw [Nat.mul_add, Nat.mul_one] at this
      rw [Nat.mul_left_comm D 2]
      clear e5 e4 hq b1 hw p1 p2
      omega
    · have b3 := qq_ge (a := M * 2 ^ u) (b := 2 ^ v) (by omega)
      rw [hq, Nat.le_div_iff_mul_le (Nat.two_pow_pos _), e4, hY] at b3
      have b4 : 2 * X ≤ M := Nat.le_of_mul_le_mul_right b3 hYp
      have b5 : X ≤ N / D := by clear e5 e4 hq b1 hw p1 p2; omega
      rw [Nat.le_div_iff_mul_le hD] at b5
      rw [Nat.le_div_iff_mul_le (Nat.mul_pos hD (Nat.two_pow_pos _)), Nat.mul_left_comm, e4, hY, ← Nat.mul_assoc]
      refine Nat.mul_le_mul_right _ ?_
      rw [Nat.mul_left_comm, Nat.mul_comm D]
      exact Nat.mul_le_mul_left _ b5
  unfold RR RRu
  rw [hq, hq2]
  have e1 : 2 ^ v * 2 ^ q = 2 ^ (z + 2) * 2 ^ u := by rw [← Nat.pow_add, ← Nat.pow_add]; exact congrArg (fun k => 2 ^ k) (by omega)
  have e2 : D * 2 ^ v * 2 ^ q = D * 2 ^ (z + 2) * 2 ^ u := by rw [Nat.mul_assoc, e1, Nat.mul_assoc]
  rw [e1, e2, RE_scale _ _ (Nat.two_pow_pos _), RE_scale _ _ (Nat.two_pow_pos _), ← hM, RE_sticky hD]

/-- A quotient is rounded once. -/
theorem div_fin {x y : Nat} {a b : Int} (ha : sr x = some a) (hb : sr y = some b) (fa : Fin a) (fb : Fin b) (h0 : 0 ≤ a) (h1 : 0 < b) : ∃ z, double.div x y = some z ∧ sr z = some (Sr (V a * 2 ^ 1074) (V b).toNat) := by
  obtain ⟨m, i, r1, i1, g1⟩ := read_fin ha fa
  obtain ⟨n, j, r2, j1, g2⟩ := read_fin hb fb
  have vb : 0 < V b := by have := V_lt h1; rwa [V0] at this
  have va : 0 ≤ V a := by have := V_le h0; rwa [V0] at this
  have hsy : sgB y = false := by
    cases h : sgB y
    · rfl
    · rw [h] at g2; unfold signed at g2; rw [if_pos rfl, Nat.shiftLeft_eq] at g2; generalize n * 2 ^ (j - double.leastPlace).toNat = Q at g2; clear g1 ha hb fa fb; omega
  rw [hsy] at g2 r2
  have g2' : ((n * 2 ^ (j - double.leastPlace).toNat : Nat) : Int) = V b := by
    rw [← g2]; unfold signed; rw [if_neg (by decide), Nat.shiftLeft_eq]
  have hn : n ≠ 0 := by intro h; subst h; rw [Nat.zero_mul] at g2'; omega
  refine ⟨_, by unfold Format.div; rw [r1, r2]; unfold Datum.quotient; dsimp only; rw [if_neg hn]; rfl, ?_⟩
  show sr (double.nearest _ _ _) = _
  have hf : double.fractionBits + 2 = 54 := rfl
  rw [hf, sr_nearest, leastP]
  rw [leastP] at g1 g2' i1 j1
  generalize hmore : 54 + n.log2 - m.log2 = more
  by_cases hm : m = 0
  · subst hm
    have hva : V a = 0 := by rw [← g1]; unfold signed; rw [Nat.shiftLeft_eq, Nat.zero_mul]; split <;> rfl
    have e0 : 2 * ((0 : Nat) <<< more / n) + ((0 : Nat) <<< more % n != 0).toNat = 0 := by
      rw [Nat.shiftLeft_eq, Nat.zero_mul, Nat.zero_div, Nat.zero_mod]; rfl
    rw [e0, Nat.zero_mul, RR0 _ (Nat.two_pow_pos _), hva, Int.zero_mul]
    have hz0 : RR (Int.natAbs 0) (V b).toNat = 0 := RR0 _ (by omega)
    have hz1 : Sr 0 (V b).toNat = 0 := by unfold Sr; rw [if_neg (by decide), hz0]; rfl
    rw [hz1]
    split <;> rfl
  · have hsx : sgB x = false := by
      cases h : sgB x
      · rfl
      · rw [h] at g1; unfold signed at g1; rw [if_pos rfl, Nat.shiftLeft_eq] at g1
        have := Nat.mul_pos (Nat.pos_of_ne_zero hm) (Nat.two_pow_pos (i - -1074).toNat)
        omega
    rw [hsx] at g1 ⊢
    have g1' : ((m * 2 ^ (i - -1074).toNat : Nat) : Int) = V a := by
      rw [← g1]; unfold signed; rw [if_neg (by decide), Nat.shiftLeft_eq]
    rw [show (false ^^ false) = false from rfl, if_neg (by decide), Nat.shiftLeft_eq]
    have hF : 2 ^ 53 ≤ m * 2 ^ more / n := by
      rw [Nat.le_div_iff_mul_le (Nat.pos_of_ne_zero hn)]
      have l1 : n < 2 ^ (n.log2 + 1) := Nat.lt_log2_self
      have l2 : 2 ^ m.log2 ≤ m := Nat.log2_self_le hm
      calc 2 ^ 53 * n ≤ 2 ^ 53 * 2 ^ (n.log2 + 1) := Nat.mul_le_mul_left _ (Nat.le_of_lt l1)
        _ = 2 ^ (54 + n.log2) := by rw [← Nat.pow_add]; congr 1; omega
        _ ≤ 2 ^ (m.log2 + more) := Nat.pow_le_pow_right (by decide) (by omega)
        _ = 2 ^ m.log2 * 2 ^ more := Nat.pow_add ..
        _ ≤ m * 2 ^ more := Nat.mul_le_mul_right _ l2
    rw [RR_sticky (Nat.pos_of_ne_zero hn) hF]
    unfold Sr
    have hneg : ¬ V a * 2 ^ 1074 < 0 := by
      have : (0 : Int) ≤ V a * 2 ^ 1074 := Int.mul_nonneg va (Int.le_of_lt (Int.pow_pos (by decide)))
      omega
    rw [if_neg hneg]
    refine congrArg (fun z : Nat => some (z : Int)) ?_
    -- the same quotient
    have eA : (V a * 2 ^ 1074).natAbs = m * 2 ^ (i - -1074).toNat * 2 ^ 1074 := by
      have e2 : Int.natAbs 2 = 2 := rfl
      rw [← g1', Int.natAbs_mul, Int.natAbs_natCast, Int.natAbs_pow, e2]
    have eB : (V b).toNat = n * 2 ^ (j - -1074).toNat := by rw [← g2']; rfl
    rw [eA, eB]
    generalize hu : (i - j - (more : Int) - 1 - -1074).toNat = u
    generalize hv : (-1074 - (i - j - (more : Int) - 1)).toNat = v
    generalize hi' : (i - -1074).toNat = i'
    generalize hj' : (j - -1074).toNat = j'
    generalize hB : (1074 : Nat) = B at *
    have ex : more + 1 + u + j' = i' + B + v := by omega
    -- m 2^(more+1+u) / (n 2^v) = m 2^(i'+B) / (n 2^j')
    have s1 : RR (2 * (m * 2 ^ more) * 2 ^ u) (n * 2 ^ v) = RR (2 * (m * 2 ^ more) * 2 ^ u * 2 ^ j') (n * 2 ^ v * 2 ^ j') := (RR_scale _ _ (Nat.two_pow_pos _)).symm
    have s2 : RR (m * 2 ^ i' * 2 ^ B) (n * 2 ^ j') = RR (m * 2 ^ i' * 2 ^ B * 2 ^ v) (n * 2 ^ j' * 2 ^ v) := (RR_scale _ _ (Nat.two_pow_pos _)).symm
    rw [s1, s2]
    have t1 : 2 * (m * 2 ^ more) * 2 ^ u * 2 ^ j' = m * 2 ^ i' * 2 ^ B * 2 ^ v := by
      have : 2 * (m * 2 ^ more) * 2 ^ u * 2 ^ j' = m * 2 ^ (more + 1 + u + j') := by
        rw [Nat.pow_add, Nat.pow_add, Nat.pow_add, Nat.pow_one]; ac_rfl
      rw [this, ex, Nat.pow_add, Nat.pow_add]; ac_rfl
    have t2 : n * 2 ^ v * 2 ^ j' = n * 2 ^ j' * 2 ^ v := by ac_rfl
    rw [t1, t2]

/-! ### words and rungs -/
open Go Go.Ev
/-- A word (no NaN) of this rung. -/
def FV (x a : Int) : Prop := 0 ≤ x ∧ sr x.toNat = some a

theorem nan_sr {b : Nat} : (double.read b).isNaN = true ↔ sr b = none := by
  constructor
  · intro h
    cases hs : sr b with
    | none => rfl
    | some a =>
      by_cases hf : Fin a
      · obtain ⟨m, e, hr, _⟩ := read_fin hs hf
        rw [hr] at h; cases h
      · have := read_inf (sr_inf hs hf).1
        rw [this] at h; cases h
  · intro h
    obtain ⟨s, f, hr⟩ := read_nan h
    rw [hr]; rfl
theorem nrm_sr {b : Nat} {a : Int} (h : sr b = some a) : FV (nrmI b) a := by
  rcases nrmI_or b with ⟨_, h5⟩ | ⟨h4, _⟩
  · rw [nan_sr.1 h5] at h; cases h
  · rw [h4]; exact ⟨by omega, h⟩
theorem nrm_cases (b : Nat) : (nrmI b = -1 ∧ sr b = none) ∨ ∃ a, sr b = some a ∧ FV (nrmI b) a := by
  cases h : sr b with
  | none =>
    rcases nrmI_or b with ⟨h4, _⟩ | ⟨_, h5⟩
    · exact .inl ⟨h4, rfl⟩
    · rw [nan_sr.2 h] at h5; cases h5
  | some a => exact .inr ⟨a, rfl, nrm_sr h⟩
theorem FV_range {x a : Int} (h : FV x a) : -(infR : Int) ≤ a ∧ a ≤ infR := by
  have := h.2
  unfold sr at this
  split at this
  · simp only [Option.some.injEq] at this
    split at this <;> omega
  · cases this

/-- How two words stand is how their rungs do. -/
def cmpI (a b : Int) : Int := if a < b then -1 else if a = b then 0 else 1
theorem order_sr {x y : Nat} {a b : Int} (ha : sr x = some a) (hb : sr y = some b) : double.order x y = some (if a < b then .lt else if a = b then .eq else .gt) := by
  have ra := FV_range (nrm_sr ha)
  have rb := FV_range (nrm_sr hb)
  have ip : (0 : Int) < infR := by decide
  unfold Format.order
  by_cases fa : Fin a
  · obtain ⟨m, i, r1, i1, g1⟩ := read_fin ha fa
    by_cases fb : Fin b
    · obtain ⟨n, j, r2, j1, g2⟩ := read_fin hb fb
      rw [r1, r2]
      unfold Datum.order
      dsimp only
      generalize double.leastPlace = L at *
      have e1 : (i - L).toNat = (i - min i j).toNat + (min i j - L).toNat := by omega
      have e2 : (j - L).toNat = (j - min i j).toNat + (min i j - L).toNat := by omega
      rw [e1, signed_toNat] at g1
      rw [e2, signed_toNat] at g2
      generalize signed (sgB x) m (i - min i j).toNat = p at *
      generalize signed (sgB y) n (j - min i j).toNat = q at *
      have hp : (0 : Int) < ((2 ^ (min i j - L).toNat : Nat) : Int) := by exact_mod_cast Nat.two_pow_pos _
      generalize ((2 ^ (min i j - L).toNat : Nat) : Int) = c at *
      have lt_iff : p < q ↔ a < b := by
        rw [← V_lt_iff (r := a) (s := b), ← g1, ← g2]
        exact ⟨fun h => Int.mul_lt_mul_of_pos_right h hp, fun h => Int.lt_of_mul_lt_mul_right h (Int.le_of_lt hp)⟩
      have gt_iff : q < p ↔ b < a := by
        rw [← V_lt_iff (r := b) (s := a), ← g1, ← g2]
        exact ⟨fun h => Int.mul_lt_mul_of_pos_right h hp, fun h => Int.lt_of_mul_lt_mul_right h (Int.le_of_lt hp)⟩
      refine congrArg some ?_
      show (if p < q then Ordering.lt else if p = q then Ordering.eq else Ordering.gt) = _
      by_cases h1 : a < b
      · rw [if_pos (lt_iff.2 h1), if_pos h1]
      · rw [if_neg (fun h => h1 (lt_iff.1 h)), if_neg h1]
        by_cases h2 : a = b
        · have : p = q := by
            have n1 : ¬ p < q := fun h => h1 (lt_iff.1 h)
            have n2 : ¬ q < p := fun h => by have := gt_iff.1 h; omega
            omega
          rw [if_pos this, if_pos h2]
        · have : ¬ p = q := fun h => by
            have : q < p := gt_iff.2 (by omega)
            omega
          rw [if_neg this, if_neg h2]
    · obtain ⟨s1, s2⟩ := sr_inf hb fb
      rw [r1, read_inf s1]
      unfold Datum.order
      unfold Fin at fa
      cases h : sgB y <;> rw [h] at s2 <;> simp only [Bool.false_eq_true, if_false, if_true] at s2 ⊢
      · rw [if_pos (by omega)]
      · rw [if_neg (by omega), if_neg (by omega)]
  · obtain ⟨s1, s2⟩ := sr_inf ha fa
    rw [read_inf s1]
    by_cases fb : Fin b
    · obtain ⟨n, j, r2, j1, g2⟩ := read_fin hb fb
      rw [r2]
      unfold Datum.order
      unfold Fin at fb
      cases h : sgB x <;> rw [h] at s2 <;> simp only [Bool.false_eq_true, if_false, if_true] at s2 ⊢
      · rw [if_neg (by omega), if_neg (by omega)]
      · rw [if_pos (by omega)]
    · obtain ⟨t1, t2⟩ := sr_inf hb fb
      rw [read_inf t1]
      unfold Datum.order
      cases h : sgB x <;> cases g : sgB y <;> rw [h] at s2 <;> rw [g] at t2 <;> simp only [Bool.false_eq_true, if_false, if_true] at s2 t2
      · rw [if_neg (by omega), if_pos (by omega)]; rfl
      · rw [if_neg (by omega), if_neg (by omega)]; rfl
      · rw [if_pos (by omega)]; rfl
      · rw [if_neg (by omega), if_pos (by omega)]; rfl

theorem fcm_eq {x y a b : Int} (hx : FV x a) (hy : FV y b) : fcmI x y = cmpI a b := by
  have e1 : x = (x.toNat : Int) := by have := hx.1; omega
  have e2 : y = (y.toNat : Int) := by have := hy.1; omega
  rw [e1, e2, fcmI_nat, order_sr hx.2 hy.2]
  unfold cmpI
  by_cases h1 : a < b
  · rw [if_pos h1, if_pos h1]
  · rw [if_neg h1, if_neg h1]
    by_cases h2 : a = b
    · rw [if_pos h2, if_pos h2]
    · rw [if_neg h2, if_neg h2]
theorem fcm_nan1 {y : Int} : fcmI (-1) y = 2 := fcmI_neg (.inl (by decide))
theorem fcm_nan2 {x : Int} : fcmI x (-1) = 2 := fcmI_neg (.inr (by decide))

theorem fop_of {op : BinOp} {x y a b c : Int} (hx : FV x a) (hy : FV y b) (h : ∃ z, fbinN op x.toNat y.toNat = some z ∧ sr z = some c) : FV (fopI op x y) c := by
  have e1 : x = (x.toNat : Int) := by have := hx.1; omega
  have e2 : y = (y.toNat : Int) := by have := hy.1; omega
  obtain ⟨z, h1, h2⟩ := h
  rw [e1, e2, fopI_nat, h1]
  exact nrm_sr h2
theorem FV_add {x y a b : Int} (hx : FV x a) (hy : FV y b) (fa : Fin a) (fb : Fin b) : FV (fopI .add x y) (Sr (V a + V b) 1) := fop_of hx hy (add_fin hx.2 hy.2 fa fb)
theorem FV_sub {x y a b : Int} (hx : FV x a) (hy : FV y b) (fa : Fin a) (fb : Fin b) : FV (fopI .sub x y) (Sr (V a - V b) 1) := fop_of hx hy (sub_fin hx.2 hy.2 fa fb)
theorem FV_mul {x y a b : Int} (hx : FV x a) (hy : FV y b) (fa : Fin a) (fb : Fin b) : FV (fopI .mul x y) (Sr (V a * V b) (2 ^ 1074)) := fop_of hx hy (mul_fin hx.2 hy.2 fa fb)
theorem FV_quo {x y a b : Int} (hx : FV x a) (hy : FV y b) (fa : Fin a) (fb : Fin b) (h0 : 0 ≤ a) (h1 : 0 < b) : FV (fopI .quo x y) (Sr (V a * 2 ^ 1074) (V b).toNat) := fop_of hx hy (div_fin hx.2 hy.2 fa fb h0 h1)

/-! ### numbers that floats have -/
/-- A number of at most 53 digits, at a place, has a rung. -/
theorem vr_of {c j : Nat} (hc : c ≤ 2 ^ 53) : ∃ r, vr r = c * 2 ^ j := by
  suffices H : ∀ c j, c < 2 ^ 53 → ∃ r, vr r = c * 2 ^ j by
    rcases Nat.lt_or_eq_of_le hc with h | h
    · exact H c j h
    · obtain ⟨r, hr⟩ := H (2 ^ 52) (j + 1) (by decide)
      refine ⟨r, ?_⟩
      rw [hr, h, Nat.pow_succ 2 j, Nat.mul_comm (2 ^ j), ← Nat.mul_assoc]
  intro c j hc
  by_cases h0 : c = 0
  · subst h0; exact ⟨0, by rw [Nat.zero_mul]; rfl⟩
  have l1 : c < 2 ^ (c.log2 + 1) := Nat.lt_log2_self
  have l2 : 2 ^ c.log2 ≤ c := Nat.log2_self_le h0
  have l3 : c.log2 < 53 := (Nat.log2_lt h0).2 hc
  -- made to have 53 digits, or as many places as there are
  by_cases hj : c.log2 + j < 52
  · refine ⟨c * 2 ^ j, ?_⟩
    unfold vr
    rw [if_pos]
    calc c * 2 ^ j < 2 ^ (c.log2 + 1) * 2 ^ j := Nat.mul_lt_mul_of_pos_right l1 (Nat.two_pow_pos _)
      _ = 2 ^ (c.log2 + 1 + j) := (Nat.pow_add ..).symm
      _ ≤ 2 ^ 52 := Nat.pow_le_pow_right (by decide) (by omega)
  · generalize hL : c.log2 = L at *
    have hk : L ≤ 52 := by omega
    -- c 2^j = (c 2^(52-L)) 2^(L+j-52)
    have hlo : 2 ^ 52 ≤ c * 2 ^ (52 - L) := by
      calc 2 ^ 52 = 2 ^ L * 2 ^ (52 - L) := by rw [← Nat.pow_add]; congr 1; omega
        _ ≤ c * 2 ^ (52 - L) := Nat.mul_le_mul_right _ l2
    have hhi : c * 2 ^ (52 - L) < 2 ^ 53 := by
      calc c * 2 ^ (52 - L) < 2 ^ (L + 1) * 2 ^ (52 - L) := Nat.mul_lt_mul_of_pos_right l1 (Nat.two_pow_pos _)
        _ = 2 ^ 53 := by rw [← Nat.pow_add]; congr 1; omega
    have he : c * 2 ^ j = c * 2 ^ (52 - L) * 2 ^ (L + j - 52) := by rw [Nat.mul_assoc, ← Nat.pow_add]; congr 2; omega
    rw [he]
    generalize c * 2 ^ (52 - L) = m at *
    generalize L + j - 52 = q
    refine ⟨q * 2 ^ 52 + m, ?_⟩
    unfold vr
    rw [if_neg (by omega)]
    have e1 : (q * 2 ^ 52 + m) / 2 ^ 52 = q + 1 := by omega
    have e2 : (q * 2 ^ 52 + m) % 2 ^ 52 = m - 2 ^ 52 := by omega
    rw [e1, e2]
    have e3 : 2 ^ 52 + (m - 2 ^ 52) = m := by omega
    rw [e3, Nat.add_sub_cancel]
theorem vr_inf : vr infR = 2 ^ 52 * 2 ^ 2046 := by
  have e1 : infR / 2 ^ 52 - 1 = 2046 := by decide
  have e2 : infR % 2 ^ 52 = 0 := by decide
  unfold vr
  rw [if_neg (by decide), e1, e2, Nat.add_zero]
theorem zm (k : Nat) : 0 * k = 0 := Nat.zero_mul k
theorem plt (a b c d : Nat) (h : a + b < c + d) : 2 ^ a * 2 ^ b < 2 ^ c * 2 ^ d := by
  rw [← Nat.pow_add, ← Nat.pow_add]
  exact Nat.pow_lt_pow_right (by decide) h
/-- What 'n' wholes have. -/
theorem whole {n : Nat} (h : n ≤ 2 ^ 53) : ∃ r : Nat, vr r = n * 2 ^ 1074 ∧ r < infR ∧ (n = 0 → r = 0) ∧ (0 < n → 0 < r) := by
  obtain ⟨r, hr⟩ := vr_of (c := n) (j := 1074) h
  have hlt : vr r < vr infR := by
    rw [hr, vr_inf]
    have h1 : n * 2 ^ 1074 ≤ 2 ^ 53 * 2 ^ 1074 := by
      generalize 2 ^ 1074 = B
      exact Nat.mul_le_mul_right B h
    have h2 : 2 ^ 53 * 2 ^ 1074 < 2 ^ 52 * 2 ^ 2046 := plt 53 1074 52 2046 (by decide)
    exact Nat.lt_of_le_of_lt h1 h2
  refine ⟨r, hr, ?_, ?_, ?_⟩
  · rcases Nat.lt_or_ge r infR with h1 | h1
    · exact h1
    · have := vr_le h1; omega
  · intro h0
    generalize 2 ^ 1074 = B at hr
    subst h0
    rw [Nat.zero_mul] at hr
    rcases Nat.eq_zero_or_pos r with h1 | h1
    · exact h1
    · have := vr_lt h1; rw [vr0] at this; omega
  · intro h0
    rcases Nat.eq_zero_or_pos r with h1 | h1
    · subst h1
      rw [vr0] at hr
      have h2 := Nat.mul_pos h0 (Nat.two_pow_pos 1074)
      generalize 2 ^ 1074 = B at *
      omega
    · exact h1
theorem FV_fof {n : Nat} (h : n ≤ 2 ^ 53) : ∃ r : Nat, FV (fofI n) r ∧ vr r = n * 2 ^ 1074 ∧ r < infR ∧ (n = 0 → r = 0) ∧ (0 < n → 0 < r) := by
  obtain ⟨r, h1, h2, h3, h4⟩ := whole h
  refine ⟨r, ?_, h1, h2, h3, h4⟩
  unfold fofI
  refine nrm_sr ?_
  show sr (double.nearest _ _ _) = _
  rw [sr_nearest, leastP]
  have e1 : (0 - (-1074 : Int)).toNat = 1074 := rfl
  have e2 : ((-1074 : Int) - 0).toNat = 0 := rfl
  have hd : decide ((n : Int) < 0) = false := by simp
  rw [e1, e2, hd, Int.natAbs_natCast, ← h1, Nat.pow_zero, RR_vr (by omega)]
  rfl
end Go.Flo
