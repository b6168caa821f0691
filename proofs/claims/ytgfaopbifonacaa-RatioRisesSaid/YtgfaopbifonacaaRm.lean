/- Means of floats lie between, but for rounding; waits rise. No condition. -/
import Derived.Test.YtgfaopbifonacaaSyrn
set_option linter.unusedSimpArgs false
set_option linter.unusedVariables false
namespace Go.Flo
open Ieee Go Go.Ev

theorem pw (a b c : Nat) (h : a + b = c) : 2 ^ a * 2 ^ b = 2 ^ c := by
  subst h
  exact (Nat.pow_add ..).symm
theorem pw1 (a c : Nat) (h : a + 1 = c) : 2 ^ c = 2 * 2 ^ a := by
  subst h
  rw [Nat.pow_succ, Nat.mul_comm]
theorem pw3 (k a b c : Nat) (h : a + b = c) : k * 2 ^ a * 2 ^ b = k * 2 ^ c := by
  rw [Nat.mul_assoc, pw a b c h]
theorem ple (b : Nat) (h : 53 ≤ b) : 9007199254740992 ≤ 2 ^ b := Nat.le_trans (show 9007199254740992 ≤ 2 ^ 53 by decide) (Nat.pow_le_pow_right (by decide) h)
theorem infR_pos : (0 : Int) < infR := by decide
theorem Fin.range {a : Int} (h : Fin a) : -(infR : Int) ≤ a ∧ a ≤ infR := by unfold Fin at h; omega
theorem V_nonneg {a : Int} (h : 0 ≤ a) : 0 ≤ V a := by have := V_le h; rwa [V0] at this
theorem V_nonpos {a : Int} (h : a ≤ 0) : V a ≤ 0 := by have := V_le h; rwa [V0] at this

/-- A great rung: 2^k wholes. -/
theorem two_rung {k : Nat} (h : k ≤ 2097) : ∃ t : Nat, vr t = 2 ^ k ∧ t < infR := by
  obtain ⟨t, ht⟩ := vr_of (c := 1) (j := k) (by decide)
  rw [Nat.one_mul] at ht
  refine ⟨t, ht, ?_⟩
  rcases Nat.lt_or_ge t infR with h1 | h1
  · exact h1
  · have h2 := vr_le h1
    rw [vr_inf, ht, ← Nat.pow_add 2 52 2046] at h2
    have h3 := (Nat.pow_le_pow_iff_right (by decide)).1 h2
    clear h2 ht
    omega

/-- What is within 2^k is rounded to no edge. -/
theorem Sr_fin {n : Int} {b k : Nat} (hb : 0 < b) (hk : k ≤ 2097) (h1 : n ≤ (2 ^ k : Nat) * b) (h2 : -((2 ^ k : Nat) * b : Int) ≤ n) : Fin (Sr n b) ∧ V (Sr n b) ≤ (2 ^ k : Nat) ∧ -((2 ^ k : Nat) : Int) ≤ V (Sr n b) := by
  obtain ⟨t, ht, hlt⟩ := two_rung (k := k) (by omega)
  have e1 : V (t : Int) = (2 ^ k : Nat) := by rw [V_nat, ht]
  have e2 : V (-(t : Int)) = -((2 ^ k : Nat) : Int) := by rw [V_neg, e1]
  have r1 : Sr n b ≤ t := Sr_le hb ⟨by omega, by omega⟩ (by rw [e1]; exact h1)
  have r2 : -(t : Int) ≤ Sr n b := le_Sr hb ⟨by omega, by omega⟩ (by rw [e2, Int.neg_mul]; exact h2)
  refine ⟨by unfold Fin; omega, ?_, ?_⟩
  · rw [← e1]; exact V_le r1
  · rw [← e2]; exact V_le r2

/-- A whole number of units is rounded by no more than so much: a 2^52nd part of a power of two below it. -/
theorem Sr_near {e M : Nat} (he : e ≤ 2 ^ M) (hM : M ≤ 2000) : V (Sr e 1) ≤ e ∨ ∃ L, 53 ≤ L ∧ L ≤ M ∧ 2 ^ L ≤ e ∧ V (Sr e 1) ≤ e + (2 ^ (L - 52) : Nat) := by
  have key : ∀ r y : Nat, vr r = y → (∃ k, k ≤ 2097 ∧ y ≤ 2 ^ k) → e ≤ y → V (Sr e 1) ≤ y := by
    intro r y hr ⟨k, hk, hyk⟩ hey
    obtain ⟨t, ht, hlt⟩ := two_rung hk
    have hrt : r ≤ t := by
      rcases Nat.lt_or_ge t r with h | h
      · have := vr_lt h; omega
      · exact h
    have : Sr e 1 ≤ r := Sr_le (by decide) ⟨by omega, by omega⟩ (by rw [V_nat, hr]; omega)
    have := V_le this
    rwa [V_nat, hr] at this
  by_cases hs : e ≤ 2 ^ 53
  · left
    obtain ⟨r, hr⟩ := vr_of (c := e) (j := 0) hs
    rw [Nat.pow_zero, Nat.mul_one] at hr
    exact key r e hr ⟨53, by decide, hs⟩ (Nat.le_refl _)
  · right
    have l1 : e < 2 ^ (e.log2 + 1) := Nat.lt_log2_self
    have l2 : 2 ^ e.log2 ≤ e := Nat.log2_self_le (by omega)
    have l3 : 53 ≤ e.log2 := (Nat.le_log2 (by omega)).2 (by omega)
    have l4 : e.log2 ≤ M := (Nat.pow_le_pow_iff_right (by decide)).1 (Nat.le_trans l2 he)
    generalize e.log2 = L at *
    refine ⟨L, l3, l4, l2, ?_⟩
    obtain ⟨P, hP⟩ : ∃ P, 2 ^ (L - 52) = P := ⟨_, rfl⟩
    rw [hP]
    have hPp : 0 < P := by rw [← hP]; exact Nat.two_pow_pos _
    have hc : e / P + 1 ≤ 2 ^ 53 := by
      have : 2 ^ (L + 1) = 2 ^ 53 * P := by rw [← hP, ← Nat.pow_add]; exact congrArg (fun k => 2 ^ k) (by omega)
      rw [this, ← Nat.div_lt_iff_lt_mul hPp] at l1
      omega
    obtain ⟨r, hr⟩ := vr_of (c := e / P + 1) (j := L - 52) hc
    rw [hP] at hr
    have hm := Nat.div_add_mod e P
    have hml := Nat.mod_lt e hPp
    have hdm : (e / P + 1) * P = P * (e / P) + P := by rw [Nat.add_mul, Nat.one_mul, Nat.mul_comm]
    have hb : (e / P + 1) * P ≤ 2 ^ (L + 1) := by
      have : 2 ^ (L + 1) = 2 ^ 53 * P := by rw [← hP, ← Nat.pow_add]; exact congrArg (fun k => 2 ^ k) (by omega)
      rw [this]
      exact Nat.mul_le_mul_right _ hc
    have := key r _ hr ⟨L + 1, by omega, hb⟩ (by rw [hdm]; omega)
    rw [hdm] at this
    clear hb l1 l2 he hP hr hc
    omega

/-- The rungs of a mean. a, b: old and new; c: the part; k: a 2^30th at least. -/
structure MeanR (a b c k : Int) : Prop where
  fa : Fin a
  fb : Fin b
  ma : V a ≤ (2 ^ 1573 : Nat) ∧ -((2 ^ 1573 : Nat) : Int) ≤ V a
  mb : V b ≤ (2 ^ 1573 : Nat) ∧ -((2 ^ 1573 : Nat) : Int) ≤ V b
  c0 : 0 ≤ c
  c1 : V c ≤ (2 ^ 1074 : Nat)
  k0 : (2 ^ 1044 : Nat) ≤ V k
  k1 : V k ≤ (2 ^ 1074 : Nat)

def mD (a b : Int) : Int := Sr (V b - V a) 1
def mQ (a b c : Int) : Int := Sr (V c * V (mD a b)) (2 ^ 1074)
def mX (a b c : Int) : Int := Sr (V a + V (mQ a b c)) 1
def mT (a b : Int) : Int := Sr (V (Int.natAbs a) + V (Int.natAbs b)) 1
def mS (a b k : Int) : Int := Sr (V k * V (mT a b)) (2 ^ 1074)

theorem Sr0 {b : Nat} (hb : 0 < b) : Sr 0 b = 0 := by
  unfold Sr
  rw [if_neg (by decide)]
  have h : RR (Int.natAbs 0) b = 0 := RR0 b hb
  rw [h]; rfl
theorem V_abs (a : Int) : V (Int.natAbs a) = (V a).natAbs := by
  rcases (by omega : a < 0 ∨ 0 ≤ a) with h | h
  · have e : (Int.natAbs a : Int) = -a := by omega
    rw [e, V_neg]
    have := V_nonpos (a := a) (by omega)
    omega
  · have e : (Int.natAbs a : Int) = a := by omega
    rw [e]
    have := V_nonneg h
    omega

theorem slack_ok {a b k : Int} (k0 : (2 ^ 1044 : Nat) ≤ V k) {e : Nat} (he : e ≤ 2 ^ 1574) (hs : (e : Int) ≤ V (Int.natAbs a) + V (Int.natAbs b)) (hS : 0 ≤ V (mS a b k)) : V (Sr e 1) ≤ e + V (mS a b k) := by
  rcases Sr_near he (by decide) with h | ⟨L, l1, l2, l3, l4⟩
  · omega
  · have key : ((2 ^ (L - 52) : Nat) : Int) ≤ V (mS a b k) := by
      obtain ⟨t, ht, hlt⟩ := two_rung (k := L - 52) (by omega)
      obtain ⟨u, hu, hlu⟩ := two_rung (k := L) (by omega)
      have h1 : (u : Int) ≤ mT a b := le_Sr (by decide) ⟨by omega, by omega⟩ (by
        rw [V_nat, hu]
        have : ((2 ^ L : Nat) : Int) ≤ e := by exact_mod_cast l3
        generalize ((2 ^ L : Nat) : Int) = P at *
        simp only [Int.natCast_one, Int.mul_one]
        omega)
      have h2 := V_le h1
      rw [V_nat, hu] at h2
      have h3 : (t : Int) ≤ mS a b k := le_Sr (Nat.two_pow_pos 1074) ⟨by omega, by omega⟩ (by
        rw [V_nat, ht]
        have e1 : ((2 ^ (L - 52) : Nat) : Int) * ((2 ^ 1074 : Nat) : Int) ≤ ((2 ^ 1044 : Nat) : Int) * ((2 ^ L : Nat) : Int) := by
          rw [← Int.natCast_mul, ← Int.natCast_mul, ← Nat.pow_add 2 (L - 52) 1074, ← Nat.pow_add 2 1044 L]
          exact_mod_cast Nat.pow_le_pow_right (by decide) (by omega)
        refine Int.le_trans e1 ?_
        exact Int.mul_le_mul k0 h2 (by exact_mod_cast Nat.zero_le _) (Int.le_trans (by exact_mod_cast Nat.zero_le _) k0))
      have := V_le h3
      rwa [V_nat, ht] at this
    generalize ((2 ^ (L - 52) : Nat) : Int) = P at *
    omega

/-- All that a mean is made of is no edge. -/
structure MeanF (a b c k : Int) : Prop where
  d : Fin (mD a b)
  q : Fin (mQ a b c)
  x : Fin (mX a b c)
  t : Fin (mT a b)
  s : Fin (mS a b k)
  s0 : 0 ≤ V (mS a b k)
  lo : ∀ z, z = a ∨ z = b → Fin (Sr (V z - V (mS a b k)) 1)
  hi : ∀ z, z = a ∨ z = b → Fin (Sr (V z + V (mS a b k)) 1)
  zero : c = 0 → mX a b c = a
  up : a ≤ b → Sr (V a - V (mS a b k)) 1 ≤ mX a b c ∧ mX a b c ≤ Sr (V b + V (mS a b k)) 1
  down : b ≤ a → Sr (V b - V (mS a b k)) 1 ≤ mX a b c ∧ mX a b c ≤ Sr (V a + V (mS a b k)) 1

theorem mean_ok {a b c k : Int} (h : MeanR a b c k) : MeanF a b c k := by
  obtain ⟨fa, fb, ⟨a1, a2⟩, ⟨b1, b2⟩, c0, c1, k0, k1⟩ := h
  obtain ⟨P, hP⟩ : ∃ P : Nat, 2 ^ 1573 = P := ⟨_, rfl⟩
  have p4 : 2 ^ 1574 = 2 * P := by rw [← hP]; exact pw1 1573 1574 rfl
  have p5 : 2 ^ 1575 = 2 * (2 * P) := by rw [← p4]; exact pw1 1574 1575 rfl
  obtain ⟨B, hB⟩ : ∃ B : Nat, 2 ^ 1074 = B := ⟨_, rfl⟩
  have hBp : 0 < B := by rw [← hB]; exact Nat.two_pow_pos 1074
  rw [hP] at a1 a2 b1 b2
  rw [hB] at c1 k1
  have C0 := V_nonneg c0
  have K0 : 0 ≤ V k := Int.le_trans (by exact_mod_cast Nat.zero_le _) k0
  obtain ⟨d1, d2, d3⟩ := Sr_fin (n := V b - V a) (b := 1) (k := 1574) (by decide) (by decide) (by rw [p4]; simp only [Int.natCast_one, Int.mul_one]; omega) (by rw [p4]; simp only [Int.natCast_one, Int.mul_one]; omega)
  rw [p4] at d2 d3
  have hmul : ∀ y z : Int, 0 ≤ y → y ≤ B → z ≤ (2 * P : Nat) → -((2 * P : Nat) : Int) ≤ z → y * z ≤ (2 * P : Nat) * B ∧ -(((2 * P : Nat) : Int) * B) ≤ y * z := by
    intro y z y0 y1 z1 z2
    have hQ : (0 : Int) ≤ (2 * P : Nat) := by omega
    generalize ((2 * P : Nat) : Int) = R at *
    constructor
    · calc y * z ≤ y * R := Int.mul_le_mul_of_nonneg_left z1 y0
        _ ≤ B * R := Int.mul_le_mul_of_nonneg_right y1 hQ
        _ = R * B := Int.mul_comm _ _
    · have : y * (-z) ≤ R * B := by
        calc y * (-z) ≤ y * R := Int.mul_le_mul_of_nonneg_left (by omega) y0
          _ ≤ B * R := Int.mul_le_mul_of_nonneg_right y1 hQ
          _ = R * B := Int.mul_comm _ _
      rw [Int.mul_neg] at this
      omega
  obtain ⟨m1, m2⟩ := hmul (V c) (V (mD a b)) C0 c1 d2 d3
  obtain ⟨q1, q2, q3⟩ := Sr_fin (n := V c * V (mD a b)) (b := 2 ^ 1074) (k := 1574) (Nat.two_pow_pos 1074) (by decide) (by rw [p4, hB]; exact m1) (by rw [p4, hB]; exact m2)
  rw [p4] at q2 q3
  have q2 : V (mQ a b c) ≤ (2 * P : Nat) := q2
  have q3 : -((2 * P : Nat) : Int) ≤ V (mQ a b c) := q3
  obtain ⟨x1, _, _⟩ := Sr_fin (n := V a + V (mQ a b c)) (b := 1) (k := 1575) (by decide) (by decide) (by rw [p5]; simp only [Int.natCast_one, Int.mul_one]; omega) (by rw [p5]; simp only [Int.natCast_one, Int.mul_one]; omega)
  have ea := V_abs a
  have eb := V_abs b
  obtain ⟨t1, t2, t3⟩ := Sr_fin (n := V (Int.natAbs a) + V (Int.natAbs b)) (b := 1) (k := 1574) (by decide) (by decide) (by rw [p4]; simp only [Int.natCast_one, Int.mul_one]; omega) (by rw [p4]; simp only [Int.natCast_one, Int.mul_one]; omega)
  rw [p4] at t2 t3
  have T0 : 0 ≤ V (mT a b) := V_nonneg (le_Sr (by decide) ⟨by have := infR_pos; omega, by have := infR_pos; omega⟩ (by rw [V0]; omega))
  obtain ⟨s1, s2⟩ := hmul (V k) (V (mT a b)) K0 k1 t2 t3
  obtain ⟨u1, u2, u3⟩ := Sr_fin (n := V k * V (mT a b)) (b := 2 ^ 1074) (k := 1574) (Nat.two_pow_pos 1074) (by decide) (by rw [p4, hB]; exact s1) (by rw [p4, hB]; exact s2)
  rw [p4] at u2 u3
  have S0 : 0 ≤ V (mS a b k) := V_nonneg (le_Sr (Nat.two_pow_pos 1074) ⟨by have := infR_pos; omega, by have := infR_pos; omega⟩ (by rw [V0, Int.zero_mul]; exact Int.mul_nonneg K0 T0))
  have u2 : V (mS a b k) ≤ (2 * P : Nat) := u2
  have edges : ∀ z : Int, V z ≤ (P : Nat) → -((P : Nat) : Int) ≤ V z → Fin (Sr (V z - V (mS a b k)) 1) ∧ Fin (Sr (V z + V (mS a b k)) 1) := by
    intro z z1 z2
    constructor
    · exact (Sr_fin (n := V z - V (mS a b k)) (b := 1) (k := 1575) (by decide) (by decide) (by rw [p5]; simp only [Int.natCast_one, Int.mul_one]; omega) (by rw [p5]; simp only [Int.natCast_one, Int.mul_one]; omega)).1
    · exact (Sr_fin (n := V z + V (mS a b k)) (b := 1) (k := 1575) (by decide) (by decide) (by rw [p5]; simp only [Int.natCast_one, Int.mul_one]; omega) (by rw [p5]; simp only [Int.natCast_one, Int.mul_one]; omega)).1
  have ra := fa.range
  have rb := fb.range
  have r0 : -(infR : Int) ≤ 0 ∧ (0 : Int) ≤ infR := by have := infR_pos; omega
  have hB' : ((2 ^ 1074 : Nat) : Int) = B := by rw [hB]
  -- what the product is
  have qpos : 0 ≤ mD a b → 0 ≤ mQ a b c ∧ mQ a b c ≤ mD a b := fun hd => by
    have hv := V_nonneg hd
    constructor
    · exact le_Sr (Nat.two_pow_pos 1074) r0 (by rw [V0, Int.zero_mul]; exact Int.mul_nonneg C0 hv)
    · refine Sr_le (Nat.two_pow_pos 1074) d1.range ?_
      rw [hB', Int.mul_comm (V c)]
      exact Int.mul_le_mul_of_nonneg_left c1 hv
  have qneg : mD a b ≤ 0 → mQ a b c ≤ 0 ∧ mD a b ≤ mQ a b c := fun hd => by
    have hv := V_nonpos hd
    constructor
    · refine Sr_le (Nat.two_pow_pos 1074) r0 ?_
      rw [V0, Int.zero_mul]
      have := Int.mul_nonneg C0 (show 0 ≤ -V (mD a b) by omega)
      rw [Int.mul_neg] at this
      omega
    · refine le_Sr (Nat.two_pow_pos 1074) d1.range ?_
      rw [hB']
      have : V c * (-V (mD a b)) ≤ B * (-V (mD a b)) := Int.mul_le_mul_of_nonneg_right c1 (by omega)
      rw [Int.mul_neg, Int.mul_neg, Int.mul_comm (B : Int)] at this
      omega
  refine ⟨d1, q1, x1, t1, u1, S0, ?_, ?_, ?_, ?_, ?_⟩
  · rintro z (rfl | rfl)
    · exact (edges z a1 a2).1
    · exact (edges z b1 b2).1
  · rintro z (rfl | rfl)
    · exact (edges z a1 a2).2
    · exact (edges z b1 b2).2
  · intro hc
    subst hc
    have : mQ a b 0 = 0 := by
      unfold mQ
      rw [V0, Int.zero_mul]
      exact Sr0 (Nat.two_pow_pos 1074)
    unfold mX
    rw [this, V0, Int.add_zero, Sr_V ra]
  · intro hab
    have hV := V_le hab
    have hd : 0 ≤ mD a b := le_Sr (by decide) r0 (by rw [V0]; omega)
    obtain ⟨g1, g2⟩ := qpos hd
    have v1 := V_nonneg g1
    have v2 := V_le g2
    have hx : a ≤ mX a b c := le_Sr (by decide) ra (by simp only [Int.natCast_one, Int.mul_one]; omega)
    constructor
    · refine Int.le_trans (Sr_le (by decide) ra ?_) hx
      simp only [Int.natCast_one, Int.mul_one]; omega
    · refine Sr_mono (by decide) (by decide) ?_
      have hn := slack_ok (a := a) (b := b) k0 (e := (V b - V a).toNat) (by rw [p4]; omega) (by omega) S0
      have e1 : (((V b - V a).toNat : Nat) : Int) = V b - V a := by omega
      rw [e1] at hn
      have hn : V (mD a b) ≤ V b - V a + V (mS a b k) := hn
      simp only [Int.natCast_one, Int.mul_one]
      omega
  · intro hab
    have hV := V_le hab
    have hd : mD a b ≤ 0 := Sr_le (by decide) r0 (by rw [V0, Int.zero_mul]; omega)
    obtain ⟨g1, g2⟩ := qneg hd
    have v1 := V_nonpos g1
    have v2 := V_le g2
    have hx : mX a b c ≤ a := Sr_le (by decide) ra (by simp only [Int.natCast_one, Int.mul_one]; omega)
    constructor
    · refine Sr_mono (by decide) (by decide) ?_
      have hn := slack_ok (a := a) (b := b) k0 (e := (V a - V b).toNat) (by rw [p4]; omega) (by omega) S0
      have e1 : (((V a - V b).toNat : Nat) : Int) = V a - V b := by omega
      rw [e1] at hn
      have e2 : mD a b = -Sr (V a - V b) 1 := by
        unfold mD
        rw [← Sr_neg _ 1 (by decide)]; exact congrArg (fun z => Sr z 1) (by omega)
      have e3 : V (mD a b) = -V (Sr (V a - V b) 1) := by rw [e2, V_neg]
      simp only [Int.natCast_one, Int.mul_one]
      omega
    · refine Int.le_trans hx (le_Sr (by decide) ra ?_)
      simp only [Int.natCast_one, Int.mul_one]; omega
end Go.Flo

/-! ### words that are numbers, or none; edges too -/
namespace Go.Flo
open Ieee Go Go.Ev

def Wd (x : Int) : Prop := x = -1 ∨ ∃ a, FV x a
def rg (x : Int) : Int := (sr x.toNat).getD 0
theorem FV.rg {x a : Int} (h : FV x a) : Go.Flo.rg x = a := by unfold Go.Flo.rg; rw [h.2]; rfl
theorem Wd.fv {x : Int} (h : Wd x) (h0 : 0 ≤ x) : FV x (rg x) := by
  rcases h with h | ⟨a, h⟩
  · omega
  · rw [h.rg]; exact h
theorem Wd_nrm (b : Nat) : Wd (nrmI b) := by
  rcases nrm_cases b with ⟨h, _⟩ | ⟨a, _, h⟩
  · exact .inl h
  · exact .inr ⟨a, h⟩
theorem Wd_fop (op : BinOp) (x y : Int) : Wd (fopI op x y) := by
  unfold fopI
  split
  · split
    · exact Wd_nrm _
    · exact .inl rfl
  · exact .inl rfl
theorem fop_pos {op : BinOp} {x y : Int} (h : 0 ≤ fopI op x y) : 0 ≤ x ∧ 0 ≤ y := by
  by_cases h0 : x < 0 ∨ y < 0
  · rw [fopI_neg h0] at h; omega
  · omega

instance (a : Int) : Decidable (Fin a) := by unfold Fin; infer_instance
def addR (a b : Int) : Int := if Fin a ∧ Fin b then Sr (V a + V b) 1 else if Fin a then b else a
def addOk (a b : Int) : Prop := Fin a ∨ Fin b ∨ a = b
instance (a b : Int) : Decidable (addOk a b) := by unfold addOk; infer_instance

theorem inf_word (s : Bool) : sr (double.write (.infinity s)) = some (if s then -(infR : Int) else infR) := sr_word s (Nat.le_refl _)

theorem add_rg {x y a b : Int} (hx : FV x a) (hy : FV y b) : (addOk a b → FV (fopI .add x y) (addR a b)) ∧ (¬ addOk a b → fopI .add x y = -1) := by
  have key : ∀ d, (double.read x.toNat).sum (double.read y.toNat) = d → (∀ c, (∃ w, d = some w ∧ sr (double.write w) = some c) → FV (fopI .add x y) c) ∧ (d = none → fopI .add x y = -1) := by
    intro d hd
    have e1 : x = (x.toNat : Int) := by have := hx.1; omega
    have e2 : y = (y.toNat : Int) := by have := hy.1; omega
    constructor
    · rintro c ⟨w, h1, h2⟩
      exact fop_of hx hy ⟨double.write w, by show Option.map double.write _ = _; rw [hd, h1]; rfl, h2⟩
    · intro h
      rw [e1, e2, fopI_nat]
      have : fbinN .add x.toNat y.toNat = none := by show Option.map double.write _ = _; rw [hd, h]; rfl
      rw [this]
  by_cases fa : Fin a
  · refine ⟨fun _ => ?_, fun h => absurd (.inl fa) h⟩
    by_cases fb : Fin b
    · unfold addR; rw [if_pos ⟨fa, fb⟩]; exact FV_add hx hy fa fb
    · unfold addR
      rw [if_neg (fun h => fb h.2), if_pos fa]
      obtain ⟨t1, t2⟩ := sr_inf hy.2 fb
      obtain ⟨m, i, r1, _⟩ := read_fin hx.2 fa
      refine (key _ rfl).1 b ⟨.infinity (sgB y.toNat), by rw [r1, read_inf t1]; rfl, ?_⟩
      rw [inf_word, t2]
  · obtain ⟨s1, s2⟩ := sr_inf hx.2 fa
    by_cases fb : Fin b
    · refine ⟨fun _ => ?_, fun h => absurd (.inr (.inl fb)) h⟩
      unfold addR
      rw [if_neg (fun h => fa h.1), if_neg fa]
      obtain ⟨m, i, r2, _⟩ := read_fin hy.2 fb
      refine (key _ rfl).1 a ⟨.infinity (sgB x.toNat), by rw [r2, read_inf s1]; rfl, ?_⟩
      rw [inf_word, s2]
    · obtain ⟨t1, t2⟩ := sr_inf hy.2 fb
      have ip := infR_pos
      by_cases hs : sgB x.toNat = sgB y.toNat
      · have hab : a = b := by rw [s2, t2, hs]
        refine ⟨fun _ => ?_, fun h => absurd (.inr (.inr hab)) h⟩
        unfold addR
        rw [if_neg (fun h => fa h.1), if_neg fa]
        refine (key _ rfl).1 a ⟨.infinity (sgB x.toNat), by rw [read_inf s1, read_inf t1]; show (if _ then _ else _) = _; rw [if_pos hs], ?_⟩
        rw [inf_word, s2]
      · have hab : a ≠ b := by
          rw [s2, t2]
          cases h1 : sgB x.toNat <;> cases h2 : sgB y.toNat <;> rw [h1, h2] at hs <;> simp only [Bool.false_eq_true, if_true, if_false, ne_eq] <;> first | exact absurd rfl hs | omega
        refine ⟨fun h => ?_, fun _ => ?_⟩
        · rcases h with h | h | h
          · exact absurd h fa
          · exact absurd h fb
          · exact absurd h hab
        · exact (key _ rfl).2 (by rw [read_inf s1, read_inf t1]; show (if _ then _ else _) = _; rw [if_neg hs])

theorem addR_in {a b : Int} (ra : -(infR : Int) ≤ a ∧ a ≤ infR) (rb : -(infR : Int) ≤ b ∧ b ≤ infR) : -(infR : Int) ≤ addR a b ∧ addR a b ≤ infR := by
  unfold addR
  split
  · exact Sr_in _ _
  · split <;> assumption
theorem addR_mono {a a' b : Int} (ra : -(infR : Int) ≤ a ∧ a ≤ infR) (ra' : -(infR : Int) ≤ a' ∧ a' ≤ infR) (rb : -(infR : Int) ≤ b ∧ b ≤ infR) (h : a ≤ a') (o : addOk a b) (o' : addOk a' b) : addR a b ≤ addR a' b := by
  have i1 := addR_in ra rb
  have i2 := addR_in ra' rb
  by_cases fb : Fin b
  · by_cases fa : Fin a
    · by_cases fa' : Fin a'
      · unfold addR
        rw [if_pos ⟨fa, fb⟩, if_pos ⟨fa', fb⟩]
        have := V_le h
        exact Sr_mono (by decide) (by decide) (by simp only [Int.natCast_one, Int.mul_one]; omega)
      · have : addR a' b = a' := by unfold addR; rw [if_neg (fun h => fa' h.1), if_neg fa']
        unfold Fin at fa fa'
        omega
    · have e : addR a b = a := by unfold addR; rw [if_neg (fun h => fa h.1), if_neg fa]
      by_cases fa' : Fin a'
      · unfold Fin at fa fa'
        omega
      · have : addR a' b = a' := by unfold addR; rw [if_neg (fun h => fa' h.1), if_neg fa']
        omega
  · have e : ∀ z, addOk z b → addR z b = b := by
      intro z hz
      unfold addR
      rw [if_neg (fun h => fb h.2)]
      split
      · rfl
      · rename_i fz
        rcases hz with h | h | h
        · exact absurd h fz
        · exact absurd h fb
        · exact h
    rw [e a o, e a' o']
    exact Int.le_refl _
theorem addR_comm (a b : Int) (o : addOk a b) : addR a b = addR b a := by
  unfold addR
  by_cases fa : Fin a <;> by_cases fb : Fin b
  · rw [if_pos ⟨fa, fb⟩, if_pos ⟨fb, fa⟩, Int.add_comm]
  · rw [if_neg (fun h => fb h.2), if_pos fa, if_neg (fun h => fb h.1), if_neg fb]
  · rw [if_neg (fun h => fa h.1), if_neg fa, if_neg (fun h => fa h.2), if_pos fb]
  · rw [if_neg (fun h => fa h.1), if_neg fa, if_neg (fun h => fa h.2), if_neg fb]
    rcases o with h | h | h
    · exact absurd h fa
    · exact absurd h fb
    · exact h
theorem addOk_comm {a b : Int} (o : addOk a b) : addOk b a := by
  rcases o with h | h | h
  · exact .inr (.inl h)
  · exact .inl h
  · exact .inr (.inr h.symm)
/-- What is added is no less. -/
theorem le_addR {a b : Int} (ra : -(infR : Int) ≤ a ∧ a ≤ infR) (rb : -(infR : Int) ≤ b ∧ b ≤ infR) (h : 0 ≤ b) (o : addOk a b) : a ≤ addR a b := by
  unfold addR
  split
  · rename_i hf
    have := V_nonneg h
    exact le_Sr (by decide) ra (by simp only [Int.natCast_one, Int.mul_one]; omega)
  · split
    · rename_i h1 h2
      have : ¬ Fin b := fun x => h1 ⟨h2, x⟩
      unfold Fin at this
      omega
    · exact Int.le_refl _

/-! ### four times -/
def four : Nat := 4616189618054758400
theorem sr_four : sr four = some 4616189618054758400 := by decide +kernel
def mulR (c b : Int) : Int := if Fin b then Sr (V c * V b) (2 ^ 1074) else b
theorem mul4_rg {y b : Int} (hy : FV y b) : FV (fopI .mul four y) (mulR 4616189618054758400 b) := by
  have hx : FV (four : Int) 4616189618054758400 := ⟨by decide, sr_four⟩
  have fx : Fin 4616189618054758400 := by unfold Fin; decide
  by_cases fb : Fin b
  · unfold mulR; rw [if_pos fb]; exact FV_mul hx hy fx fb
  · unfold mulR
    rw [if_neg fb]
    obtain ⟨t1, t2⟩ := sr_inf hy.2 fb
    refine fop_of hx hy ⟨double.write (.infinity (sgB y.toNat)), ?_, by rw [inf_word, t2]⟩
    show Option.map double.write _ = _
    rw [read_inf t1]
    have : double.read (four : Int).toNat = .number false (2 ^ 52) (-50) := by decide +kernel
    rw [this]
    unfold Datum.product
    dsimp only
    rw [if_neg (by decide), Bool.xor_false]; rfl
theorem mulR_mono {c b b' : Int} (hc : 0 ≤ c) (rb : -(infR : Int) ≤ b ∧ b ≤ infR) (rb' : -(infR : Int) ≤ b' ∧ b' ≤ infR) (h : b ≤ b') : mulR c b ≤ mulR c b' := by
  unfold mulR
  have i1 := Sr_in (V c * V b) (2 ^ 1074)
  have i2 := Sr_in (V c * V b') (2 ^ 1074)
  split <;> split
  · refine Sr_mono (Nat.two_pow_pos 1074) (Nat.two_pow_pos 1074) (Int.mul_le_mul_of_nonneg_right ?_ (by exact_mod_cast Nat.zero_le _))
    exact Int.mul_le_mul_of_nonneg_left (V_le h) (V_nonneg hc)
  · rename_i h1 h2; unfold Fin at h1 h2; omega
  · rename_i h1 h2; unfold Fin at h1 h2; omega
  · exact h
theorem mulR_nonneg {c b : Int} (hc : 0 ≤ c) (h : 0 ≤ b) : 0 ≤ mulR c b := by
  unfold mulR
  split
  · have ip := infR_pos
    exact le_Sr (Nat.two_pow_pos 1074) ⟨by omega, by omega⟩ (by rw [V0, Int.zero_mul]; exact Int.mul_nonneg (V_nonneg hc) (V_nonneg h))
  · exact h
theorem mulR_in {c b : Int} (rb : -(infR : Int) ≤ b ∧ b ≤ infR) : -(infR : Int) ≤ mulR c b ∧ mulR c b ≤ infR := by
  unfold mulR
  split
  · exact Sr_in _ _
  · exact rb

/-! ### rounded up -/
theorem cut_up (n d : Nat) : Toward.up.cut false n d = (n + (2 ^ d - 1)) / 2 ^ d := by
  have key : ∀ g : Nat, 0 < g → n / g + (!false && n % g != 0).toNat = (n + (g - 1)) / g := by
    intro g hg
    have h1 := Nat.div_add_mod n g
    have h2 := Nat.mod_lt n hg
    symm
    by_cases h0 : n % g = 0
    · have : (!false && n % g != 0).toNat = 0 := by rw [h0]; rfl
      rw [this, Nat.add_zero]
      refine Nat.div_eq_of_lt_le ?_ ?_
      · rw [Nat.mul_comm]; omega
      · rw [Nat.add_mul, Nat.one_mul, Nat.mul_comm]; omega
    · have : (!false && n % g != 0).toNat = 1 := by
        have e : (n % g != 0) = true := by simpa using h0
        rw [e]; rfl
      rw [this]
      refine Nat.div_eq_of_lt_le ?_ ?_
      · rw [Nat.add_mul, Nat.one_mul, Nat.mul_comm]; omega
      · rw [Nat.add_mul, Nat.add_mul, Nat.one_mul, Nat.mul_comm]; omega
  unfold Toward.cut
  simp only [Nat.shiftLeft_eq, Nat.one_mul]
  by_cases h : d ≤ n.log2 + 2
  · rw [Nat.min_eq_left h]
    exact key _ (Nat.two_pow_pos d)
  · rw [Nat.min_eq_right (by omega), key _ (Nat.two_pow_pos _)]
    have l1 : n < 2 ^ (n.log2 + 1) := Nat.lt_log2_self
    have l2 : 2 ^ (n.log2 + 2) ≤ 2 ^ d := Nat.pow_le_pow_right (by decide) (by omega)
    have l3 : 2 ^ (n.log2 + 2) = 2 * 2 ^ (n.log2 + 1) := by rw [Nat.mul_comm]; exact Nat.pow_succ 2 _
    have lp : 0 < 2 ^ (n.log2 + 1) := Nat.two_pow_pos _
    generalize 2 ^ (n.log2 + 2) = G at *
    generalize 2 ^ d = H at *
    generalize 2 ^ (n.log2 + 1) = I at *
    by_cases h0 : n = 0
    · subst h0
      rw [Nat.zero_add, Nat.zero_add, Nat.div_eq_of_lt (by omega), Nat.div_eq_of_lt (by omega)]
    · have e1 : (n + (G - 1)) / G = 1 := Nat.div_eq_of_lt_le (by omega) (by omega)
      have e2 : (n + (H - 1)) / H = 1 := Nat.div_eq_of_lt_le (by omega) (by omega)
      rw [e1, e2]

/-- Whole numbers up to sixty are read as they were written. -/
theorem small_whole : ∀ n, n < 61 → fintO (nrmI (double.nearest false n 0)) = some (n : Int) := by decide +kernel

/-- The least whole number that is no less, of units. -/
def ceilN (v : Nat) : Nat := (v + (2 ^ 1074 - 1)) / 2 ^ 1074
theorem ceilN_mono {v w : Nat} (h : v ≤ w) : ceilN v ≤ ceilN w := by
  unfold ceilN
  generalize 2 ^ 1074 = B
  exact Nat.div_le_div_right (Nat.add_le_add_right h (B - 1))
theorem ceilN_le {v n : Nat} (h : v ≤ n * 2 ^ 1074) : ceilN v ≤ n := by
  unfold ceilN
  have hp : 0 < 2 ^ 1074 := Nat.two_pow_pos 1074
  generalize 2 ^ 1074 = B at *
  rw [← Nat.lt_succ_iff, Nat.div_lt_iff_lt_mul hp, Nat.succ_mul]
  omega
theorem le_ceilN (v : Nat) : v ≤ ceilN v * 2 ^ 1074 := by
  unfold ceilN
  have hp : 0 < 2 ^ 1074 := Nat.two_pow_pos 1074
  generalize 2 ^ 1074 = B at *
  have h1 := Nat.div_add_mod (v + (B - 1)) B
  have h2 := Nat.mod_lt (v + (B - 1)) hp
  rw [Nat.mul_comm]
  omega
theorem ceilN_ge {v n : Nat} (h : n * 2 ^ 1074 ≤ v) : n ≤ ceilN v := by
  have := le_ceilN v
  have hp : 0 < 2 ^ 1074 := Nat.two_pow_pos 1074
  generalize 2 ^ 1074 = B at *
  exact Nat.le_of_mul_le_mul_right (Nat.le_trans h this) hp

theorem fceil_small {x r : Int} (hx : FV x r) (h0 : 0 ≤ r) (h1 : V r ≤ (60 * 2 ^ 1074 : Nat)) : fintO (fceilI x) = some (ceilN (vr r.toNat) : Int) := by
  have e1 : x = (x.toNat : Int) := by have := hx.1; omega
  have fr : Fin r := by
    obtain ⟨t, ht, hlt⟩ := two_rung (k := 1080) (by decide)
    have : r ≤ t := V_le_iff.1 (by
      rw [V_nat, ht]
      refine Int.le_trans h1 ?_
      have : 60 * 2 ^ 1074 ≤ 2 ^ 1080 := by
        have : 2 ^ 1080 = 2 ^ 6 * 2 ^ 1074 := (pw 6 1074 1080 rfl).symm
        rw [this]
        generalize 2 ^ 1074 = B
        exact Nat.mul_le_mul_right B (by decide)
      exact_mod_cast this)
    have ip := infR_pos
    unfold Fin; omega
  obtain ⟨m, e, hr, hl, hv⟩ := read_fin hx.2 fr
  have hvr : V r = vr r.toNat := by
    have : r = (r.toNat : Int) := by omega
    rw [this, V_nat]; rfl
  rw [hvr] at hv h1
  have hle : vr r.toNat ≤ 60 * 2 ^ 1074 := by exact_mod_cast h1
  have hc := ceilN_le hle
  unfold fceilI
  have hd : decide (0 ≤ x) = true := decide_eq_true hx.1
  rw [hd]
  simp only
  rw [hr]
  show fintO (nrmI (double.write (.number (sgB x.toNat) (Toward.up.cut (sgB x.toNat) (m <<< e.toNat) (-e).toNat) 0))) = _
  rw [leastP] at hv hl
  -- the sign is none, or it is nought
  have hcut : Toward.up.cut false (m <<< e.toNat) (-e).toNat = ceilN (m * 2 ^ (e - -1074).toNat) := by
    rw [cut_up, Nat.shiftLeft_eq]
    unfold ceilN
    by_cases he : 0 ≤ e
    · rw [show (-e).toNat = 0 by omega, Nat.pow_zero, Nat.div_one, Nat.sub_self, Nat.add_zero]
      have : 2 ^ (e - -1074).toNat = 2 ^ e.toNat * 2 ^ 1074 := (pw e.toNat 1074 _ (by omega)).symm
      rw [this, ← Nat.mul_assoc]
      have hp : 0 < 2 ^ 1074 := Nat.two_pow_pos 1074
      generalize 2 ^ 1074 = B at *
      generalize m * 2 ^ e.toNat = N
      symm
      exact Nat.div_eq_of_lt_le (by omega) (by rw [Nat.add_mul, Nat.one_mul]; omega)
    · rw [show e.toNat = 0 by omega, Nat.pow_zero, Nat.mul_one]
      have hB : 2 ^ 1074 = 2 ^ (-e).toNat * 2 ^ (e - -1074).toNat := (pw (-e).toNat (e - -1074).toNat 1074 (by omega)).symm
      rw [hB]
      have h1 : 0 < 2 ^ (-e).toNat := Nat.two_pow_pos _
      have h2 : 0 < 2 ^ (e - -1074).toNat := Nat.two_pow_pos _
      generalize 2 ^ (-e).toNat = X at *
      generalize 2 ^ (e - -1074).toNat = Y at *
      -- (m + (X - 1)) / X = (m Y + (X Y - 1)) / (X Y)
      have h3 := Nat.div_add_mod (m + (X - 1)) X
      have h4 := Nat.mod_lt (m + (X - 1)) h1
      generalize (m + (X - 1)) / X = k at *
      symm
      have h5 : k * X ≤ m + (X - 1) := by rw [Nat.mul_comm]; omega
      have h6 : m + X ≤ (k + 1) * X := by rw [Nat.add_mul, Nat.one_mul, Nat.mul_comm k]; omega
      have hXY : 0 < X * Y := Nat.mul_pos h1 h2
      refine Nat.div_eq_of_lt_le ?_ ?_
      · -- k X Y ≤ m Y + X Y - 1
        have : k * X + 1 ≤ m + X := by omega
        have := Nat.mul_le_mul_right Y this
        rw [Nat.add_mul, Nat.add_mul, Nat.one_mul, Nat.mul_assoc] at this
        omega
      · have := Nat.mul_le_mul_right Y h6
        rw [Nat.add_mul, Nat.mul_assoc] at this
        omega
  have hwhole : m * 2 ^ (e - -1074).toNat = vr r.toNat := by
    unfold signed at hv
    rw [Nat.shiftLeft_eq] at hv
    split at hv <;> omega
  cases hs : sgB x.toNat
  · rw [hcut, hwhole]
    exact small_whole _ (by omega)
  · have hz : vr r.toNat = 0 := by
      rw [hs] at hv
      unfold signed at hv
      rw [if_pos rfl, Nat.shiftLeft_eq] at hv
      omega
    have hm : m = 0 := by
      rw [hz] at hwhole
      rcases Nat.mul_eq_zero.1 hwhole with h | h
      · exact h
      · have := Nat.two_pow_pos (e - -1074).toNat; omega
    have h5 : Toward.up.cut true (m <<< e.toNat) (-e).toNat = 0 := by
      rw [hm, Nat.shiftLeft_eq, Nat.zero_mul]
      unfold Toward.cut
      simp
    rw [h5, hz]
    have : ceilN 0 = 0 := by
      unfold ceilN
      have hp : 0 < 2 ^ 1074 := Nat.two_pow_pos 1074
      generalize 2 ^ 1074 = B at *
      rw [Nat.zero_add]
      exact Nat.div_eq_of_lt (by omega)
    rw [this]
    decide +kernel
end Go.Flo

/-! ### parts -/
namespace Go.Flo
open Ieee Go Go.Ev

theorem sr_one : sr 4607182418800017408 = some 4607182418800017408 := by decide +kernel
theorem FV_one : FV 4607182418800017408 4607182418800017408 := ⟨by decide, sr_one⟩
theorem FV_zero : FV 0 0 := ⟨by decide, by decide +kernel⟩
theorem V_one : V 4607182418800017408 = (2 ^ 1074 : Nat) := by
  have : V (4607182418800017408 : Int) = vr 4607182418800017408 := V_nat 4607182418800017408
  rw [this]
  refine congrArg (fun n : Nat => (n : Int)) ?_
  have e1 : 4607182418800017408 / 2 ^ 52 - 1 = 1022 := by decide
  have e2 : 4607182418800017408 % 2 ^ 52 = 0 := by decide
  unfold vr
  rw [if_neg (by decide), e1, e2, Nat.add_zero]
  exact pw 52 1022 1074 rfl
theorem fin_one : Fin 4607182418800017408 := by unfold Fin; decide

theorem part_word {n f : Nat} (h1 : n ≤ f) (h2 : 1 ≤ f) (h3 : f ≤ 9007199254740992) : ∃ r : Int, FV (fopI .quo (fofI n) (fofI f)) r ∧ r = Sr ((n * 2 ^ 1074 * 2 ^ 1074 : Nat) : Int) (f * 2 ^ 1074) ∧ 0 ≤ r ∧ r ≤ 4607182418800017408 ∧ (n < f → r ≤ 4607182418800017407) ∧ (n = 0 → r = 0) ∧ (0 < n → 0 < r) ∧ (n = f → r = 4607182418800017408) := by
  have hB : 0 < 2 ^ 1074 := Nat.two_pow_pos 1074
  obtain ⟨a, fa, va, la, _, _⟩ := FV_fof (n := n) (by omega)
  obtain ⟨b, fb, vb, lb, _, pb⟩ := FV_fof (n := f) (by omega)
  have hq := FV_quo fa fb (by unfold Fin; omega) (by unfold Fin; omega) (by omega) (by have := pb (by omega); omega)
  rw [V_nat, V_nat, va, vb] at hq
  have ip := infR_pos
  have hd : 0 < f * 2 ^ 1074 := Nat.mul_pos (by omega) hB
  have e2 : (((f * 2 ^ 1074 : Nat) : Int)).toNat = f * 2 ^ 1074 := by omega
  rw [e2] at hq
  have hB2 : ((2 ^ 1074 : Nat) : Int) = (2 : Int) ^ 1074 := by
    have e2 : ((2 : Nat) : Int) = 2 := rfl
    rw [Int.natCast_pow 2 1074, e2]
  have eN : ((n * 2 ^ 1074 : Nat) : Int) * (2 : Int) ^ 1074 = ((n * 2 ^ 1074 * 2 ^ 1074 : Nat) : Int) := by rw [← hB2, ← Int.natCast_mul]
  rw [eN] at hq
  have e3 : (((n * 2 ^ 1074 : Nat) : Int) * ((2 ^ 1074 : Nat) : Int)) = ((n * 2 ^ 1074 * 2 ^ 1074 : Nat) : Int) := by rw [← Int.natCast_mul]
  refine ⟨_, hq, rfl, ?_, ?_, ?_, ?_, ?_, ?_⟩
  · refine le_Sr hd ⟨by omega, by omega⟩ ?_
    rw [V0, Int.zero_mul]; exact_mod_cast Nat.zero_le _
  · refine Sr_le hd fin_one.range ?_
    rw [V_one, ← Int.natCast_mul]
    have : n * 2 ^ 1074 * 2 ^ 1074 ≤ 2 ^ 1074 * (f * 2 ^ 1074) := by
      calc n * 2 ^ 1074 * 2 ^ 1074 = 2 ^ 1074 * (n * 2 ^ 1074) := Nat.mul_comm _ _
        _ ≤ _ := Nat.mul_le_mul_left _ (Nat.mul_le_mul_right _ h1)
    exact_mod_cast this
  · intro h
    have v1 : vr 4607182418800017407 = 9007199254740991 * 2 ^ 1021 := by
      have e1 : 4607182418800017407 / 2 ^ 52 - 1 = 1021 := by decide
      have e2 : 2 ^ 52 + 4607182418800017407 % 2 ^ 52 = 9007199254740991 := by decide
      unfold vr
      rw [if_neg (by decide), e1, e2]
    have v2 : V (4607182418800017407 : Int) = vr 4607182418800017407 := V_nat 4607182418800017407
    refine Sr_le hd ⟨by omega, by have : (4607182418800017407 : Int) ≤ infR := by decide
                                  omega⟩ ?_
    rw [v2, v1, ← Int.natCast_mul]
    have : n * 2 ^ 1074 * 2 ^ 1074 ≤ 9007199254740991 * 2 ^ 1021 * (f * 2 ^ 1074) := by
      have e53 : 2 ^ 53 = 9007199254740992 := rfl
      have e : 2 ^ 1074 = 9007199254740992 * 2 ^ 1021 := by
        rw [← e53]
        exact (pw 53 1021 1074 rfl).symm
      have h5 : n * 9007199254740992 ≤ 9007199254740991 * f := by omega
      generalize 2 ^ 1074 = B at *
      generalize 2 ^ 1021 = C at *
      rw [← Nat.mul_assoc]
      refine Nat.mul_le_mul_right _ ?_
      calc n * B = n * 9007199254740992 * C := by rw [e, Nat.mul_assoc]
        _ ≤ 9007199254740991 * f * C := Nat.mul_le_mul_right _ h5
        _ = 9007199254740991 * C * f := Nat.mul_right_comm _ _ _
    exact_mod_cast this
  · intro h; subst h
    generalize 2 ^ 1074 = B at hd ⊢
    rw [Nat.zero_mul, Nat.zero_mul]
    exact Sr0 hd
  · intro h
    -- at least the least of all
    have h1r : (1 : Int) ≤ Sr ((n * 2 ^ 1074 * 2 ^ 1074 : Nat) : Int) (f * 2 ^ 1074) := by
      refine le_Sr hd ⟨by omega, by have : (1 : Int) ≤ infR := by decide
                                    omega⟩ ?_
      have v1 : V 1 = 1 := by decide +kernel
      rw [v1, Int.one_mul]
      have : f * 2 ^ 1074 ≤ n * 2 ^ 1074 * 2 ^ 1074 := by
        have h53 : f ≤ 2 ^ 1074 := Nat.le_trans h3 (ple 1074 (by decide))
        generalize 2 ^ 1074 = B at h53 ⊢
        calc f * B ≤ B * B := Nat.mul_le_mul_right _ h53
          _ = 1 * B * B := by rw [Nat.one_mul]
          _ ≤ n * B * B := Nat.mul_le_mul_right _ (Nat.mul_le_mul_right _ h)
      exact_mod_cast this
    omega
  · intro h; subst h
    have : (((n * 2 ^ 1074 * 2 ^ 1074 : Nat) : Int)) = V 4607182418800017408 * ((n * 2 ^ 1074 : Nat) : Int) := by
      rw [V_one, ← Int.natCast_mul]
      generalize 2 ^ 1074 = B
      rw [Nat.mul_comm]
    apply Int.le_antisymm
    · exact Sr_le hd fin_one.range (by rw [this]; exact Int.le_refl _)
    · exact le_Sr hd fin_one.range (by rw [this]; exact Int.le_refl _)

theorem cmpI_lt {a b : Int} : cmpI a b = -1 ↔ a < b := by unfold cmpI; split <;> (try split) <;> omega
theorem cmpI_eq {a b : Int} : cmpI a b = 0 ↔ a = b := by unfold cmpI; split <;> (try split) <;> omega
theorem cmpI_gt {a b : Int} : cmpI a b = 1 ↔ b < a := by unfold cmpI; split <;> (try split) <;> omega
/-- How two numbers stand, for omega. -/
theorem fcm_tell {x y a b : Int} (hx : FV x a) (hy : FV y b) : (a < b ∧ fcmI x y = -1) ∨ (a = b ∧ fcmI x y = 0) ∨ (b < a ∧ fcmI x y = 1) := by
  rw [fcm_eq hx hy]
  rcases Int.lt_trichotomy a b with h | h | h
  · exact .inl ⟨h, cmpI_lt.2 h⟩
  · exact .inr (.inl ⟨h, cmpI_eq.2 h⟩)
  · exact .inr (.inr ⟨h, cmpI_gt.2 h⟩)

theorem parts_ok {n m f : Int} (h0 : 0 ≤ n) (h1 : n ≤ m) (h2 : m ≤ f) (h3 : 1 ≤ f) (h4 : f ≤ 9007199254740992) :
    0 ≤ fopI .quo (fofI n) (fofI f) ∧ 0 ≤ fopI .quo (fofI m) (fofI f) ∧
    (n = 0 ∧ fcmI (fopI .quo (fofI n) (fofI f)) 0 = 0 ∨ 0 < n ∧ fcmI (fopI .quo (fofI n) (fofI f)) 0 = 1) ∧
    (fcmI (fopI .quo (fofI m) (fofI f)) 4607182418800017408 = -1 ∨ fcmI (fopI .quo (fofI m) (fofI f)) 4607182418800017408 = 0) ∧
    (fcmI (fopI .quo (fofI n) (fofI f)) (fopI .quo (fofI m) (fofI f)) = -1 ∨ fcmI (fopI .quo (fofI n) (fofI f)) (fopI .quo (fofI m) (fofI f)) = 0) ∧
    (n = f → fcmI (fopI .quo (fofI n) (fofI f)) 4607182418800017408 = 0) ∧
    fcmI (fopI .quo (fofI n) (fofI f)) (fopI .quo (fofI n) (fofI f)) = 0 ∧ fcmI (fopI .quo (fofI m) (fofI f)) (fopI .quo (fofI m) (fofI f)) = 0 ∧
    (m = f → fcmI (fopI .quo (fofI m) (fofI f)) 4607182418800017408 = 0) ∧ (n = m → fcmI (fopI .quo (fofI n) (fofI f)) (fopI .quo (fofI m) (fofI f)) = 0) ∧
    (n < f → fcmI (fopI .quo (fofI n) (fofI f)) 4607182418800017408 = -1) ∧ (m < f → fcmI (fopI .quo (fofI m) (fofI f)) 4607182418800017408 = -1) ∧
    (fcmI (fopI .quo (fofI n) (fofI f)) (fopI .quo (fofI m) (fofI f)) = 0 → fcmI (fopI .quo (fofI n) (fofI f)) 4607182418800017408 = fcmI (fopI .quo (fofI m) (fofI f)) 4607182418800017408) := by
  obtain ⟨n', rfl⟩ : ∃ k : Nat, n = k := ⟨n.toNat, by omega⟩
  obtain ⟨m', rfl⟩ : ∃ k : Nat, m = k := ⟨m.toNat, by omega⟩
  obtain ⟨f', rfl⟩ : ∃ k : Nat, f = k := ⟨f.toNat, by omega⟩
  obtain ⟨r, x1, x2, x3, x4, x8, x5, x6, x7⟩ := part_word (n := n') (f := f') (by omega) (by omega) (by omega)
  obtain ⟨s, y1, y2, y3, y4, y8, y5, y6, y7⟩ := part_word (n := m') (f := f') (by omega) (by omega) (by omega)
  have hrs : r ≤ s := by
    rw [x2, y2]
    refine Sr_mono (Nat.mul_pos (by omega) (Nat.two_pow_pos 1074)) (Nat.mul_pos (by omega) (Nat.two_pow_pos 1074)) ?_
    refine Int.mul_le_mul_of_nonneg_right ?_ (by exact_mod_cast Nat.zero_le _)
    exact_mod_cast Nat.mul_le_mul_right _ (Nat.mul_le_mul_right _ (by omega))
  have c1 := fcm_tell x1 FV_zero
  have c2 := fcm_tell y1 FV_one
  have c3 := fcm_tell x1 y1
  have c4 := fcm_tell x1 FV_one
  have c5 := fcm_tell x1 x1
  have c6 := fcm_tell y1 y1
  have hnm : n' = m' → r = s := fun h => by rw [x2, y2, h]
  clear x2 y2
  refine ⟨x1.1, y1.1, ?_, by omega, by omega, fun h => ?_, by omega, by omega, fun h => ?_, fun h => ?_, fun h => ?_, fun h => ?_, fun h => by omega⟩
  · by_cases h : n' = 0
    · have := x5 h; omega
    · have := x6 (by omega); omega
  · have := x7 (by omega); omega
  · have := y7 (by omega); omega
  · have := hnm (by omega); omega
  · have := x8 (by omega); omega
  · have := y8 (by omega); omega
end Go.Flo

/-! ### sizes; the lesser, the greater -/
namespace Go.Flo
open Ieee Go Go.Ev

theorem abs_word {n : Nat} (hn : n < 18446744073709551616) : iopI .andNot .u64 n 9223372036854775808 = ((n % 9223372036854775808 : Nat) : Int) := by
  have e1 : BitVec.ofInt 64 (n : Int) = BitVec.ofNat 64 n := by simp [BitVec.ofInt_natCast]
  have e2 : ~~~(BitVec.ofInt 64 9223372036854775808) = BitVec.ofNat 64 9223372036854775807 := by decide
  have e3 : (BitVec.ofNat 64 n &&& BitVec.ofNat 64 9223372036854775807).toNat = n % 9223372036854775808 := by
    rw [BitVec.toNat_and, BitVec.toNat_ofNat, BitVec.toNat_ofNat]
    have : 9223372036854775807 % 2 ^ 64 = 2 ^ 63 - 1 := by decide
    rw [this, Nat.and_two_pow_sub_one_eq_mod, Nat.mod_eq_of_lt (show n < 2 ^ 64 by omega)]
  unfold iopI
  show IntKind.u64.wrap (((BitVec.ofInt 64 (n : Int)) &&& ~~~(BitVec.ofInt 64 9223372036854775808)).toNat : Int) = _
  rw [e1, e2, e3]
  refine wrap_fit ?_
  simp only [IntKind.min, IntKind.max, IntKind.signed, IntKind.bits]
  simp
  omega
theorem sr_abs (n : Nat) : sr (n % 9223372036854775808) = (sr n).map fun a => (a.natAbs : Int) := by
  have e1 : rgN (n % 9223372036854775808) = rgN n := by unfold rgN; rw [sw]; exact Nat.mod_mod _ _
  have e2 : sgB (n % 9223372036854775808) = false := by
    unfold sgB; rw [sw, Nat.div_eq_of_lt (Nat.mod_lt _ (by decide))]; rfl
  unfold sr
  rw [e1, e2]
  split
  · simp only [Option.map_some]
    refine congrArg some ?_
    cases sgB n <;> simp
  · rfl
/-- The size of a float, as a word. -/
def absI (n : Nat) : Int := nrmI (iopI .andNot .u64 n 9223372036854775808).toNat
theorem abs_fv {n : Nat} (hn : n < 18446744073709551616) {a : Int} (h : FV (nrmI n) a) : FV (absI n) a.natAbs := by
  have hs : sr n = some a := by
    rcases nrm_cases n with ⟨h1, _⟩ | ⟨b, h1, h2⟩
    · have := h.1; omega
    · rw [h1]; have := h2.2; rw [h.2] at this; exact this.symm ▸ rfl
  unfold absI
  rw [abs_word hn, Int.toNat_natCast]
  refine nrm_sr ?_
  rw [sr_abs, hs]; rfl
theorem abs_nan {n : Nat} (hn : n < 18446744073709551616) (h : nrmI n = -1) : absI n = -1 := by
  have hs : sr n = none := by
    rcases nrm_cases n with ⟨_, h1⟩ | ⟨b, _, h2⟩
    · exact h1
    · have := h2.1; omega
  unfold absI
  rw [abs_word hn, Int.toNat_natCast]
  rcases nrm_cases (n % 9223372036854775808) with ⟨h1, _⟩ | ⟨b, h1, _⟩
  · exact h1
  · rw [sr_abs, hs] at h1; cases h1

theorem read_zero {x : Nat} {a : Int} (h : sr x = some a) : (double.read x).isZero = decide (a = 0) := by
  by_cases hf : Fin a
  · obtain ⟨m, e, hr, hl, hv⟩ := read_fin h hf
    rw [hr]
    by_cases hm : m = 0
    · subst hm
      have hv0 : V a = 0 := by rw [← hv]; unfold signed; rw [Nat.shiftLeft_eq, Nat.zero_mul]; split <;> rfl
      have : a = 0 := by
        rcases Int.lt_trichotomy a 0 with h | h | h
        · have := V_lt h; rw [V0] at this; omega
        · exact h
        · have := V_lt h; rw [V0] at this; omega
      rw [this]; rfl
    · have : a ≠ 0 := by
        intro h0
        subst h0
        rw [V0] at hv
        unfold signed at hv
        rw [Nat.shiftLeft_eq] at hv
        have := Nat.mul_pos (Nat.pos_of_ne_zero hm) (Nat.two_pow_pos (e - double.leastPlace).toNat)
        split at hv <;> omega
      rw [decide_eq_false this]
      show (match Datum.number (sgB x) m e with | Datum.number _ 0 _ => true | _ => false) = false
      cases m with
      | zero => exact absurd rfl hm
      | succ k => rfl
  · rw [read_inf (sr_inf h hf).1]
    have : a ≠ 0 := by
      unfold Fin at hf
      have := infR_pos
      omega
    rw [decide_eq_false this]; rfl
theorem read_edge {x : Nat} {a : Int} (h : sr x = some a) (neg : Bool) : (double.read x == .infinity neg) = decide (a = if neg then -(infR : Int) else infR) := by
  have ip := infR_pos
  by_cases hf : Fin a
  · obtain ⟨m, e, hr, _⟩ := read_fin h hf
    rw [hr]
    have : a ≠ if neg then -(infR : Int) else infR := by unfold Fin at hf; split <;> omega
    rw [decide_eq_false this]; rfl
  · obtain ⟨s1, s2⟩ := sr_inf h hf
    rw [read_inf s1, s2]
    have h1 : ∀ s t : Bool, (Datum.infinity s == Datum.infinity t) = decide (s = t) := by decide
    rw [h1]
    cases sgB x <;> cases neg <;> simp only [Bool.false_eq_true, if_false, if_true, decide_true, reduceCtorEq, decide_false] <;> symm <;> first | exact decide_eq_true rfl | exact decide_eq_false (by omega)
theorem pick_fv {x y a b : Int} (hx : FV x a) (hy : FV y b) : FV (pickI true x y) (if a ≤ b then a else b) ∧ FV (pickI false x y) (if a ≤ b then b else a) := by
  have ip := infR_pos
  have rx := FV_range hx
  have ry := FV_range hy
  have key : ∀ neg : Bool, sr (pickN neg x.toNat y.toNat) = some (if neg then (if a ≤ b then a else b) else (if a ≤ b then b else a)) := by
    intro neg
    have nx : (double.read x.toNat).isNaN = false := by
      cases h : (double.read x.toNat).isNaN
      · rfl
      · have := hx.2; rw [nan_sr.1 h] at this; cases this
    have ny : (double.read y.toNat).isNaN = false := by
      cases h : (double.read y.toNat).isNaN
      · rfl
      · have := hy.2; rw [nan_sr.1 h] at this; cases this
    have ho : (double.read x.toNat).order (double.read y.toNat) = some (if a < b then .lt else if a = b then .eq else .gt) := order_sr hx.2 hy.2
    unfold pickN
    dsimp only
    rw [read_edge hx.2, read_edge hy.2, nx, ny, read_zero hx.2, read_zero hy.2, ho]
    by_cases h1 : a = (if neg then -(infR : Int) else infR) ∨ b = (if neg then -(infR : Int) else infR)
    · rw [if_pos (by rcases h1 with h | h <;> simp [h])]
      rw [inf_word]
      refine congrArg some ?_
      clear ho nx ny
      cases neg <;> simp only [Bool.false_eq_true, if_false, if_true] at h1 ⊢ <;> split <;> omega
    · have n1 : ¬ a = (if neg then -(infR : Int) else infR) := fun h => h1 (.inl h)
      have n2 : ¬ b = (if neg then -(infR : Int) else infR) := fun h => h1 (.inr h)
      rw [if_neg (by simp [n1, n2]), if_neg (by simp)]
      by_cases h2 : a = 0 ∧ b = 0
      · rw [if_pos (by simp [h2.1, h2.2])]
        split
        · rw [hx.2, h2.1, h2.2]; cases neg <;> rfl
        · rw [hy.2, h2.1, h2.2]; cases neg <;> rfl
      · rw [if_neg (by intro h; apply h2; simpa using h)]
        clear h1 n1 n2 h2
        cases neg
        · simp only [Bool.false_eq_true, if_false]
          rcases Int.lt_trichotomy a b with h | h | h
          · rw [if_pos h, if_neg (by decide), if_pos (by omega), hy.2]
          · have h3 : ¬ a < b := by omega
            rw [if_neg h3, if_pos h, if_neg (by decide), if_pos (by omega), hy.2]
          · have h3 : ¬ a < b := by omega
            have h4 : ¬ a = b := by omega
            have h5 : ¬ a ≤ b := by omega
            rw [if_neg h3, if_neg h4, if_pos (by decide), if_neg h5, hx.2]
        · simp only [if_true]
          rcases Int.lt_trichotomy a b with h | h | h
          · rw [if_pos h, if_pos (by decide), if_pos (by omega), hx.2]
          · have h3 : ¬ a < b := by omega
            rw [if_neg h3, if_pos h, if_neg (by decide), if_pos (by omega), hy.2]
            exact congrArg some h.symm
          · have h3 : ¬ a < b := by omega
            have h4 : ¬ a = b := by omega
            have h5 : ¬ a ≤ b := by omega
            rw [if_neg h3, if_neg h4, if_neg (by decide), if_neg h5, hy.2]
  have e : ∀ neg : Bool, pickI neg x y = nrmI (pickN neg x.toNat y.toNat) := by
    intro neg
    unfold pickI
    rw [decide_eq_true hx.1, decide_eq_true hy.1]
  exact ⟨by rw [e]; exact nrm_sr (key true), by rw [e]; exact nrm_sr (key false)⟩
end Go.Flo

/-! ### what the laws ask -/
namespace Go.Flo
open Ieee Go Go.Ev

theorem vr_pow (e : Nat) : vr ((e + 1) * 2 ^ 52) = 2 ^ (52 + e) := by
  have e1 : (e + 1) * 2 ^ 52 / 2 ^ 52 = e + 1 := Nat.mul_div_cancel _ (by decide)
  have e2 : (e + 1) * 2 ^ 52 % 2 ^ 52 = 0 := Nat.mul_mod_left _ _
  unfold vr
  rw [if_neg (by omega), e1, e2, Nat.add_zero, Nat.add_sub_cancel, ← Nat.pow_add]
theorem FV_lit {n : Nat} (h : sr n = some (n : Int)) : FV n n := ⟨by omega, h⟩
theorem sr_150 : sr 6850974717710472879 = some 6850974717710472879 := by decide +kernel
theorem sr_9 : sr 4472406533629990549 = some 4472406533629990549 := by decide +kernel
theorem FV_150 : FV 6850974717710472879 6850974717710472879 := ⟨by decide, sr_150⟩
theorem FV_9 : FV 4472406533629990549 4472406533629990549 := ⟨by decide, sr_9⟩
theorem V_150 : V 6850974717710472879 ≤ (2 ^ 1573 : Nat) := by
  have h := vr_le (show 6850974717710472879 ≤ (1521 + 1) * 2 ^ 52 by decide)
  have e3 : 52 + 1521 = 1573 := rfl
  rw [vr_pow, e3] at h
  have e : V (6850974717710472879 : Int) = vr 6850974717710472879 := V_nat 6850974717710472879
  rw [e]
  exact Int.ofNat_le.2 h
theorem V_9 : (2 ^ 1044 : Nat) ≤ V 4472406533629990549 := by
  have h := vr_le (show (992 + 1) * 2 ^ 52 ≤ 4472406533629990549 by decide)
  have e3 : 52 + 992 = 1044 := rfl
  rw [vr_pow, e3] at h
  have e : V (4472406533629990549 : Int) = vr 4472406533629990549 := V_nat 4472406533629990549
  rw [e]
  exact Int.ofNat_le.2 h

theorem between_ok {n0 n1 n2 : Nat} (l0 : n0 < 18446744073709551616) (l1 : n1 < 18446744073709551616) (g0 : 0 ≤ nrmI n0) (g1 : 0 ≤ nrmI n1) (g2 : 0 ≤ nrmI n2)
    (a0 : fcmI (absI n0) 6850974717710472879 ≠ 1) (a1 : fcmI (absI n1) 6850974717710472879 ≠ 1) (p0 : fcmI (nrmI n2) 0 ≠ -1) (p1 : fcmI (nrmI n2) 4607182418800017408 ≠ 1)
    {d q x t s lo hi l h : Int} (ed : d = fopI .sub (nrmI n1) (nrmI n0)) (eq : q = fopI .mul (nrmI n2) d) (ex : x = fopI .add (nrmI n0) q) (et : t = fopI .add (absI n0) (absI n1)) (es : s = fopI .mul 4472406533629990549 t)
    (elo : lo = pickI true (nrmI n0) (nrmI n1)) (ehi : hi = pickI false (nrmI n0) (nrmI n1)) (el : l = fopI .sub lo s) (eh : h = fopI .add hi s) :
    (0 ≤ absI n0 ∧ 0 ≤ absI n1 ∧ 0 ≤ d ∧ 0 ≤ q ∧ 0 ≤ x ∧ 0 ≤ t ∧ 0 ≤ s ∧ 0 ≤ lo ∧ 0 ≤ hi ∧ 0 ≤ l ∧ 0 ≤ h) ∧ fcmI x x = 0 ∧ (fcmI (nrmI n2) 0 = 0 → fcmI x (nrmI n0) = 0) ∧ (fcmI x l = 1 ∨ fcmI x l = 0) ∧ (fcmI x h = -1 ∨ fcmI x h = 0) := by
  have fo := (Wd_nrm n0).fv g0
  have fn := (Wd_nrm n1).fv g1
  have fp := (Wd_nrm n2).fv g2
  generalize rg (nrmI n0) = a at fo
  generalize rg (nrmI n1) = b at fn
  generalize rg (nrmI n2) = c at fp
  have fa := abs_fv l0 fo
  have fb := abs_fv l1 fn
  have c1 := fcm_tell fa FV_150
  have c2 := fcm_tell fb FV_150
  have c3 := fcm_tell fp FV_zero
  have c4 := fcm_tell fp FV_one
  have ip := infR_pos
  have hfin : (6850974717710472879 : Int) < infR := by decide
  have ra : Fin a := by unfold Fin; omega
  have rb : Fin b := by unfold Fin; omega
  have rc : 0 ≤ c := by omega
  have rc1 : c ≤ 4607182418800017408 := by omega
  have fin9 : Fin 4472406533629990549 := by unfold Fin; omega
  have va := V_abs a
  have vb := V_abs b
  have w1 := V_le (show (a.natAbs : Int) ≤ 6850974717710472879 by omega)
  have w2 := V_le (show (b.natAbs : Int) ≤ 6850974717710472879 by omega)
  have hm : MeanR a b c 4472406533629990549 := by
    clear c1 c2 c3 c4 a0 a1 p0 p1
    have h150 := V_150
    refine ⟨ra, rb, ?_, ?_, rc, ?_, V_9, ?_⟩
    · generalize ((2 ^ 1573 : Nat) : Int) = P at *; omega
    · generalize ((2 ^ 1573 : Nat) : Int) = P at *; omega
    · rw [← V_one]; exact V_le rc1
    · rw [← V_one]; exact V_le (by decide)
  have F := mean_ok hm
  have fd : FV d (mD a b) := by rw [ed]; exact FV_sub fn fo hm.fb hm.fa
  have fin_c : Fin c := by have := fin_one; unfold Fin at *; omega
  have fq : FV q (mQ a b c) := by rw [eq]; exact FV_mul fp fd fin_c F.d
  have fx : FV x (mX a b c) := by rw [ex]; exact FV_add fo fq hm.fa F.q
  have ft : FV t (mT a b) := by rw [et]; exact FV_add fa fb (by have := hm.fa; unfold Fin at *; omega) (by have := hm.fb; unfold Fin at *; omega)
  have fs : FV s (mS a b 4472406533629990549) := by rw [es]; exact FV_mul FV_9 ft fin9 F.t
  obtain ⟨flo, fhi⟩ := pick_fv fo fn
  rw [← elo] at flo
  rw [← ehi] at fhi
  have main : ∃ u v, FV l u ∧ FV h v ∧ u ≤ mX a b c ∧ mX a b c ≤ v := by
    by_cases hab : a ≤ b
    · rw [if_pos hab] at flo fhi
      exact ⟨_, _, by rw [el]; exact FV_sub flo fs hm.fa F.s, by rw [eh]; exact FV_add fhi fs hm.fb F.s, (F.up hab).1, (F.up hab).2⟩
    · rw [if_neg hab] at flo fhi
      exact ⟨_, _, by rw [el]; exact FV_sub flo fs hm.fb F.s, by rw [eh]; exact FV_add fhi fs hm.fa F.s, (F.down (by omega)).1, (F.down (by omega)).2⟩
  obtain ⟨u, v, fl, fh, m1, m2⟩ := main
  have k1 := fcm_tell fx fx
  have k2 := fcm_tell fx fo
  have k3 := fcm_tell fx fl
  have k4 := fcm_tell fx fh
  have hz := F.zero
  clear F w1 w2 va vb c1 c2 c4 ed eq ex et es elo ehi el eh hm
  refine ⟨⟨fa.1, fb.1, fd.1, fq.1, fx.1, ft.1, fs.1, flo.1, fhi.1, fl.1, fh.1⟩, by omega, fun h0 => ?_, by omega, by omega⟩
  have := hz (by omega)
  omega
end Go.Flo
namespace Go.Flo
open Ieee Go Go.Ev
/-- A word beside itself, for omega. -/
theorem self_tell {x : Int} (h : Wd x) : (fcmI x x = 0 ∧ 0 ≤ x) ∨ (fcmI x x = 2 ∧ x = -1) := by
  rcases h with h | ⟨a, h⟩
  · subst h; exact .inr ⟨fcmI_neg (.inl (by decide)), rfl⟩
  · have := fcm_tell h h
    exact .inl ⟨by omega, h.1⟩
/-- One by a number is a number. -/
theorem quo_one {n : Nat} (h : 0 ≤ nrmI n) : 0 ≤ fopI .quo 4607182418800017408 (nrmI n) := by
  have fn := (Wd_nrm n).fv h
  generalize rg (nrmI n) = a at fn
  have hr1 : double.read (4607182418800017408 : Int).toNat = .number false (2 ^ 52) (-52) := by decide +kernel
  have some_of : ∀ z c, (fbinN .quo (4607182418800017408 : Int).toNat (nrmI n).toNat = some z ∧ sr z = some c) → 0 ≤ fopI .quo 4607182418800017408 (nrmI n) := fun z c hz => (fop_of FV_one fn ⟨z, hz⟩).1
  by_cases hf : Fin a
  · obtain ⟨m, e, hr, _, _⟩ := read_fin fn.2 hf
    by_cases hm : m = 0
    · subst hm
      refine some_of (double.write (.infinity (false ^^ sgB (nrmI n).toNat))) _ ⟨?_, inf_word _⟩
      show Option.map double.write _ = _
      rw [hr1, hr]; rfl
    · obtain ⟨k, p, hq⟩ : ∃ k p, (Datum.number false (2 ^ 52) (-52)).quotient (double.fractionBits + 2) (.number (sgB (nrmI n).toNat) m e) = some (.number (false ^^ sgB (nrmI n).toNat) k p) := ⟨_, _, by
        unfold Datum.quotient
        dsimp only
        rw [if_neg hm]⟩
      refine some_of (double.nearest (false ^^ sgB (nrmI n).toNat) k p) _ ⟨?_, sr_nearest _ _ _⟩
      show Option.map double.write _ = _
      rw [hr1, hr, hq]; rfl
  · refine some_of (double.nearest (false ^^ sgB (nrmI n).toNat) 0 0) _ ⟨?_, sr_nearest _ _ _⟩
    show Option.map double.write _ = _
    rw [hr1, read_inf (sr_inf fn.2 hf).1]; rfl
end Go.Flo
namespace Go.Flo
open Ieee Go Go.Ev
theorem fin_abs {n : Nat} (l : n < 18446744073709551616) (g : 0 ≤ nrmI n) (h : fcmI (absI n) 6850974717710472879 ≠ 1) : FV (nrmI n) (rg (nrmI n)) ∧ Fin (rg (nrmI n)) := by
  have fo := (Wd_nrm n).fv g
  have c1 := fcm_tell (abs_fv l fo) FV_150
  have hfin : (6850974717710472879 : Int) < infR := by decide
  exact ⟨fo, by unfold Fin; omega⟩
theorem add_num {n : Nat} {q : Int} (l : n < 18446744073709551616) (g : 0 ≤ nrmI n) (h : fcmI (absI n) 6850974717710472879 ≠ 1) (w : Wd q) (g1 : 0 ≤ q) : 0 ≤ fopI .add (nrmI n) q := by
  obtain ⟨fo, ff⟩ := fin_abs l g h
  exact ((add_rg fo (w.fv g1)).1 (.inl ff)).1
theorem sub_num {n : Nat} {y : Int} (l : n < 18446744073709551616) (g : 0 ≤ nrmI n) (h : fcmI (absI n) 6850974717710472879 ≠ 1) (w : Wd y) (g1 : 0 ≤ y) : 0 ≤ fopI .sub y (nrmI n) := by
  obtain ⟨fo, ff⟩ := fin_abs l g h
  have fy := w.fv g1
  by_cases hf : Fin (rg y)
  · exact (FV_sub fy fo hf ff).1
  · obtain ⟨m, e, hr, _, _⟩ := read_fin fo.2 ff
    exact (fop_of fy fo ⟨double.write (.infinity (sgB y.toNat)), by
      show Option.map double.write _ = _
      rw [hr, read_inf (sr_inf fy.2 hf).1]; rfl, inf_word _⟩).1
end Go.Flo
namespace Go.Flo
open Ieee Go Go.Ev
theorem sr_60 : sr 4633641066610819072 = some 4633641066610819072 := by decide +kernel
theorem sr_2 : sr 4611686018427387904 = some 4611686018427387904 := by decide +kernel
theorem FV_60 : FV 4633641066610819072 4633641066610819072 := ⟨by decide, sr_60⟩
theorem FV_2 : FV 4611686018427387904 4611686018427387904 := ⟨by decide, sr_2⟩
theorem V_60 : V 4633641066610819072 = (60 * 2 ^ 1074 : Nat) := by
  have e : V (4633641066610819072 : Int) = vr 4633641066610819072 := V_nat 4633641066610819072
  have e1 : 4633641066610819072 / 2 ^ 52 - 1 = 1027 := by decide
  have e2 : 2 ^ 52 + 4633641066610819072 % 2 ^ 52 = 60 * 2 ^ 47 := by decide
  rw [e]
  refine congrArg (fun n : Nat => (n : Int)) ?_
  unfold vr
  rw [if_neg (by decide), e1, e2]
  exact pw3 60 47 1027 1074 rfl
theorem V_2 : V 4611686018427387904 = (2 * 2 ^ 1074 : Nat) := by
  have e : V (4611686018427387904 : Int) = vr 4611686018427387904 := V_nat 4611686018427387904
  have h := vr_pow 1023
  have e1 : 4611686018427387904 = (1023 + 1) * 2 ^ 52 := by decide
  rw [e, e1, h]
  refine congrArg (fun n : Nat => (n : Int)) ?_
  rw [show 52 + 1023 = 1 + 1074 by decide, Nat.pow_add 2 1 1074, Nat.pow_one]

/-- The whole ticks of a rung from two to sixty. -/
def tick (r : Int) : Int := ceilN (vr r.toNat)
theorem tick_ok {x r : Int} (hx : FV x r) (h2 : 4611686018427387904 ≤ r) (h60 : r ≤ 4633641066610819072) : fintO (fceilI x) = some (tick r) ∧ 2 ≤ tick r ∧ tick r ≤ 60 := by
  have e : r = (r.toNat : Int) := by omega
  have v1 := V_le h60
  have v2 := V_le h2
  rw [V_60] at v1
  rw [V_2] at v2
  have hv : V r = (vr r.toNat : Nat) := by rw [e, V_nat]; rfl
  have a1 : vr r.toNat ≤ 60 * 2 ^ 1074 := by rw [hv] at v1; exact_mod_cast v1
  have a2 : 2 * 2 ^ 1074 ≤ vr r.toNat := by rw [hv] at v2; exact_mod_cast v2
  have b1 := ceilN_le a1
  have b2 := ceilN_ge a2
  have h0 : 0 ≤ r := by clear v1 v2 a1 a2; omega
  have hf := fceil_small hx h0 v1
  have c1 : 2 ≤ tick r := by unfold tick; exact_mod_cast b2
  have c2 : tick r ≤ 60 := by unfold tick; exact_mod_cast b1
  exact ⟨hf, c1, c2⟩
/-- What has at least the ticks of a rung is no lower. -/
theorem tick_V {r q : Int} (h0 : 0 ≤ r) (hq : ∃ k : Nat, q = k ∧ vr k = (tick r).toNat * 2 ^ 1074) : r ≤ q := by
  obtain ⟨k, rfl, hk⟩ := hq
  refine V_le_iff.1 ?_
  have e : r = (r.toNat : Int) := by omega
  have hv : V r = (vr r.toNat : Nat) := by rw [e, V_nat]; rfl
  have ht : (tick r).toNat = ceilN (vr r.toNat) := by unfold tick; exact Int.toNat_natCast _
  have b3 := le_ceilN (vr r.toNat)
  rw [V_nat, hk, hv, ht]
  exact_mod_cast b3
theorem tick_mono {r r' : Int} (h0 : 0 ≤ r) (h : r ≤ r') : tick r ≤ tick r' := by
  unfold tick
  exact_mod_cast ceilN_mono (vr_le (by omega))

/-- What is known of a word that is waited for. -/
def Waited (v : Int) : Prop :=
  (fcmI v 4633641066610819072 = 1 ∧ fcmI v 4611686018427387904 = 1) ∨ (fcmI v 4633641066610819072 = -1 ∧ fcmI v 4611686018427387904 = -1) ∨
  ((fcmI v 4633641066610819072 = -1 ∨ fcmI v 4633641066610819072 = 0) ∧ (fcmI v 4611686018427387904 = 1 ∨ fcmI v 4611686018427387904 = 0) ∧
    (UO.den .fok (.int (fceilI v))).toInt = 1 ∧ 2 ≤ (fintO (fceilI v)).getD 0 ∧ (fintO (fceilI v)).getD 0 ≤ 60)
theorem waited {v r : Int} (h : FV v r) : Waited v := by
  have c1 := fcm_tell h FV_60
  have c2 := fcm_tell h FV_2
  unfold Waited
  by_cases h1 : 4633641066610819072 < r
  · exact .inl (by omega)
  · by_cases h2 : r < 4611686018427387904
    · exact .inr (.inl (by omega))
    · obtain ⟨t1, t2, t3⟩ := tick_ok h (by omega) (by omega)
      have hk : (UO.den .fok (.int (fceilI v))).toInt = 1 := by
        simp only [UO.den, D.toInt_int]
        rw [t1]
      rw [t1]
      exact .inr (.inr ⟨by omega, by omega, hk, t2, t3⟩)
/-- A greater one is waited for no less. -/
def Rises (v v' : Int) : Prop :=
  (fcmI v 4633641066610819072 = 1 → fcmI v' 4633641066610819072 = 1) ∧ (fcmI v' 4611686018427387904 = -1 → fcmI v 4611686018427387904 = -1) ∧
  (fcmI v 4633641066610819072 ≠ 1 → fcmI v 4611686018427387904 ≠ -1 → fcmI v' 4633641066610819072 ≠ 1 → fcmI v' 4611686018427387904 ≠ -1 → (fintO (fceilI v)).getD 0 ≤ (fintO (fceilI v')).getD 0)
theorem rises {v v' r r' : Int} (h : FV v r) (h' : FV v' r') (hr : r ≤ r') : Rises v v' := by
  have c1 := fcm_tell h FV_60
  have c2 := fcm_tell h FV_2
  have c3 := fcm_tell h' FV_60
  have c4 := fcm_tell h' FV_2
  refine ⟨fun _ => by omega, fun _ => by omega, fun a1 a2 a3 a4 => ?_⟩
  obtain ⟨t1, _⟩ := tick_ok h (by omega) (by omega)
  obtain ⟨u1, _⟩ := tick_ok h' (by omega) (by omega)
  rw [t1, u1]
  exact tick_mono (by omega) hr
theorem fin_4 : (0 : Int) ≤ 4616189618054758400 := by decide

/-- What RatioRises asks. -/
theorem rises_ok {n0 n1 n2 : Nat} (l2 : n2 < 18446744073709551616) {m s r t x a b y u z : Int} (em : m = nrmI n0) (es : s = nrmI n1) (er : r = absI n2) (et : t = fopI .mul 4616189618054758400 s) (ex : x = fopI .add m t)
    (ea : a = fopI .add m r) (eb : b = fopI .add s r) (ey : y = fopI .add a t) (eu : u = fopI .mul 4616189618054758400 b) (ez : z = fopI .add m u) :
    (0 ≤ s → 0 ≤ t) ∧ (0 ≤ t → 0 ≤ s) ∧ (0 ≤ x → 0 ≤ m ∧ 0 ≤ t) ∧ (0 ≤ a → 0 ≤ m ∧ 0 ≤ r) ∧ (0 ≤ b → 0 ≤ s ∧ 0 ≤ r) ∧ (0 ≤ y → 0 ≤ a ∧ 0 ≤ t) ∧ (0 ≤ b → 0 ≤ u) ∧ (0 ≤ u → 0 ≤ b) ∧ (0 ≤ z → 0 ≤ m ∧ 0 ≤ u) ∧
    (0 ≤ a → fcmI a m = 1 ∨ fcmI a m = 0) ∧ (0 ≤ b → fcmI b s = 1 ∨ fcmI b s = 0) ∧
    (0 ≤ x → Waited x) ∧ (0 ≤ y → Waited y) ∧ (0 ≤ z → Waited z) ∧ (0 ≤ x → 0 ≤ y → Rises x y) ∧ (0 ≤ x → 0 ≤ z → Rises x z) ∧
    (0 ≤ x → fcmI s 0 ≠ -1 → fcmI x 4611686018427387904 = -1 → fcmI 4611686018427387904 m = 1 ∨ fcmI 4611686018427387904 m = 0) ∧
    (0 ≤ x → fcmI s 0 ≠ -1 → fcmI x 4611686018427387904 ≠ -1 → fcmI x 4633641066610819072 ≠ 1 → fcmI (fofI ((fintO (fceilI x)).getD 0)) m = 1 ∨ fcmI (fofI ((fintO (fceilI x)).getD 0)) m = 0) := by
  have wm : Wd m := em ▸ Wd_nrm n0
  have ws : Wd s := es ▸ Wd_nrm n1
  have wr : Wd r := by rw [er]; exact Wd_nrm _
  have fr : 0 ≤ r → 0 ≤ rg r := fun h => by
    have h2 := er ▸ h
    by_cases hn : nrmI n2 = -1
    · rw [abs_nan l2 hn] at h2; omega
    · have := Wd_nrm n2
      have fo := this.fv (by have := nrmI_ge n2; omega)
      have := abs_fv l2 fo
      rw [← er] at this
      rw [this.rg]; omega
  have ft : 0 ≤ s → FV t (mulR 4616189618054758400 (rg s)) := fun h => by rw [et]; exact mul4_rg (ws.fv h)
  have wx : Wd x := ex ▸ Wd_fop _ _ _
  have wa : Wd a := ea ▸ Wd_fop _ _ _
  have wb : Wd b := eb ▸ Wd_fop _ _ _
  have wy : Wd y := ey ▸ Wd_fop _ _ _
  have wz : Wd z := ez ▸ Wd_fop _ _ _
  have fu : 0 ≤ b → FV u (mulR 4616189618054758400 (rg b)) := fun h => by rw [eu]; exact mul4_rg (wb.fv h)
  have px : 0 ≤ x → 0 ≤ m ∧ 0 ≤ t := fun h => fop_pos (ex ▸ h)
  have pa : 0 ≤ a → 0 ≤ m ∧ 0 ≤ r := fun h => fop_pos (ea ▸ h)
  have pb : 0 ≤ b → 0 ≤ s ∧ 0 ≤ r := fun h => fop_pos (eb ▸ h)
  have py : 0 ≤ y → 0 ≤ a ∧ 0 ≤ t := fun h => fop_pos (ey ▸ h)
  have pt : 0 ≤ t → 0 ≤ s := fun h => (fop_pos (et ▸ h)).2
  have pu : 0 ≤ u → 0 ≤ b := fun h => (fop_pos (eu ▸ h)).2
  have pz : 0 ≤ z → 0 ≤ m ∧ 0 ≤ u := fun h => fop_pos (ez ▸ h)
  -- sums: what they are, of numbers
  have sum : ∀ {p q c : Int}, c = fopI .add p q → 0 ≤ c → ∀ {i j : Int}, FV p i → FV q j → addOk i j ∧ FV c (addR i j) := fun {p q c} hc h {i j} fi fj => by
    obtain ⟨k1, k2⟩ := add_rg fi fj
    by_cases ho : addOk i j
    · exact ⟨ho, hc ▸ k1 ho⟩
    · rw [hc, k2 ho] at h; omega
  have fx : 0 ≤ x → addOk (rg m) (mulR 4616189618054758400 (rg s)) ∧ FV x (addR (rg m) (mulR 4616189618054758400 (rg s))) := fun h =>
    sum ex h (wm.fv (px h).1) (ft (pt (px h).2))
  have fa : 0 ≤ a → addOk (rg m) (rg r) ∧ FV a (addR (rg m) (rg r)) ∧ rg m ≤ rg a := fun h => by
    have h1 := wm.fv (pa h).1
    have h2 := wr.fv (pa h).2
    obtain ⟨k1, k2⟩ := sum ea h h1 h2
    refine ⟨k1, k2, ?_⟩
    rw [k2.rg]
    exact le_addR (FV_range h1) (FV_range h2) (fr (pa h).2) k1
  have fb : 0 ≤ b → addOk (rg s) (rg r) ∧ FV b (addR (rg s) (rg r)) ∧ rg s ≤ rg b := fun h => by
    have h1 := ws.fv (pb h).1
    have h2 := wr.fv (pb h).2
    obtain ⟨k1, k2⟩ := sum eb h h1 h2
    refine ⟨k1, k2, ?_⟩
    rw [k2.rg]
    exact le_addR (FV_range h1) (FV_range h2) (fr (pb h).2) k1
  have fy : 0 ≤ y → addOk (rg a) (mulR 4616189618054758400 (rg s)) ∧ FV y (addR (rg a) (mulR 4616189618054758400 (rg s))) := fun h =>
    sum ey h (wa.fv (py h).1) (ft (pt (py h).2))
  have fz : 0 ≤ z → addOk (rg m) (mulR 4616189618054758400 (rg b)) ∧ FV z (addR (rg m) (mulR 4616189618054758400 (rg b))) := fun h =>
    sum ez h (wm.fv (pz h).1) (fu (pu (pz h).2))
  have low : 0 ≤ x → fcmI s 0 ≠ -1 → ∃ i j, FV m i ∧ FV x j ∧ i ≤ j := fun h hs => by
    have h1 := wm.fv (px h).1
    have h2 := ws.fv (pt (px h).2)
    have c := fcm_tell h2 FV_zero
    obtain ⟨k1, k2⟩ := fx h
    exact ⟨_, _, h1, k2, le_addR (FV_range h1) (mulR_in (FV_range h2)) (mulR_nonneg fin_4 (by omega)) k1⟩
  refine ⟨fun h => (ft h).1, pt, px, pa, pb, py, fun h => (fu h).1, pu, pz, fun h => ?_, fun h => ?_, fun h => waited (fx h).2, fun h => waited (fy h).2, fun h => waited (fz h).2, fun h h' => ?_, fun h h' => ?_, fun h hs hx => ?_, fun h hs hx hx' => ?_⟩
  · have := fcm_tell (wa.fv h) (wm.fv (pa h).1)
    have := (fa h).2.2
    omega
  · have := fcm_tell (wb.fv h) (ws.fv (pb h).1)
    have := (fb h).2.2
    omega
  · have ha := (py h').1
    refine rises (fx h).2 (fy h').2 ?_
    exact addR_mono (FV_range (wm.fv (px h).1)) (FV_range (wa.fv ha)) (mulR_in (FV_range (ws.fv (pt (px h).2)))) (fa ha).2.2 (fx h).1 (fy h').1
  · have hb := pu (pz h').2
    refine rises (fx h).2 (fz h').2 ?_
    have rm := FV_range (wm.fv (px h).1)
    have rs := FV_range (ws.fv (pt (px h).2))
    have rb := FV_range (wb.fv hb)
    rw [addR_comm _ _ (fx h).1, addR_comm _ _ (fz h').1]
    exact addR_mono (mulR_in rs) (mulR_in rb) rm (mulR_mono fin_4 rs rb (fb hb).2.2) (addOk_comm (fx h).1) (addOk_comm (fz h').1)
  · obtain ⟨i, j, k1, k2, k3⟩ := low h hs
    have c1 := fcm_tell k2 FV_2
    have c2 := fcm_tell FV_2 k1
    omega
  · obtain ⟨i, j, k1, k2, k3⟩ := low h hs
    have c1 := fcm_tell k2 FV_2
    have c2 := fcm_tell k2 FV_60
    obtain ⟨t1, t2, t3⟩ := tick_ok k2 (by omega) (by omega)
    have hj : 0 ≤ j := by clear t1 t2 t3; omega
    have key : ∀ q : Nat, vr q = (tick j).toNat * 2 ^ 1074 → j ≤ q := fun q hq => tick_V hj ⟨q, rfl, hq⟩
    rw [t1, Option.getD_some]
    clear t1
    generalize tick j = n at *
    have hn : n.toNat ≤ 2 ^ 53 := by clear key; omega
    have e1 : ((n.toNat : Nat) : Int) = n := by clear key; omega
    obtain ⟨q, f1, f2⟩ : ∃ q : Int, FV (fofI n) q ∧ j ≤ q := by
      obtain ⟨q, f1, f2, _⟩ := FV_fof (n := n.toNat) hn
      rw [e1] at f1
      exact ⟨q, f1, key q f2⟩
    have c3 := fcm_tell f1 k1
    clear key
    omega
end Go.Flo
namespace Go.Proofs.Ytgfaopbifonacaa.Rm
theorem here : True := trivial
end Go.Proofs.Ytgfaopbifonacaa.Rm
