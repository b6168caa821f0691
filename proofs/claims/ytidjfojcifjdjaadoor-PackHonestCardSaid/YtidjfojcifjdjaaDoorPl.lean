/-
 Contracts of this seat: what loops and calls leave, for all inputs. No condition.
-/
import Derived.Test.YtidjfojcifjdjaaDoorSycp
import Derived.Test.YtidjfojcifjdjaaDoorCo
import Derived.Test.YtidjfojcifjdjaaDoorP0
import Derived.Test.YtidjfojcifjdjaaDoorPa
import Derived.Test.YtidjfojcifjdjaaDoorPm
set_option linter.unusedSimpArgs false
set_option linter.unusedVariables false
namespace Go.Proofs.YtidjfojcifjdjaaDoor.Pl
open Go.RowKit Go.Ev Go.Proofs.YtidjfojcifjdjaaDoor.Co

open Go.Proofs.YtidjfojcifjdjaaDoor.P0
open Go.Proofs.YtidjfojcifjdjaaDoor.Pa
open Go.Proofs.YtidjfojcifjdjaaDoor.Pm

theorem bvn (a : Nat) (h : a < 9223372036854775808) : BitVec.ofInt 64 (a : Int) = BitVec.ofNat 64 a ∧ (BitVec.ofNat 64 a).toNat = a := by
 refine ⟨by simp, ?_⟩
 rw [BitVec.toNat_ofNat, Nat.mod_eq_of_lt (by omega)]
theorem or_nat {a b : Nat} (ha : a < 9223372036854775808) (hb : b < 9223372036854775808) : iopI .or .i64 (a : Int) (b : Int) = ((a ||| b : Nat) : Int) := by
 show IntKind.i64.wrap ((BitVec.ofInt 64 (a : Int) ||| BitVec.ofInt 64 (b : Int)).toNat : Int) = _
 rw [(bvn a ha).1, (bvn b hb).1, BitVec.toNat_or, (bvn a ha).2, (bvn b hb).2, wrap_fit]
 simp only [i64min, i64max]
 have h1 : a ||| b < 2 ^ 63 := Nat.or_lt_two_pow (by omega) (by omega)
 have h2 : (2 : Nat) ^ 63 = 9223372036854775808 := by decide
 omega
theorem or_add {m b p : Nat} (k : Nat) (hp : p = 2 ^ k) (hb : b < p) (hm : m * p + b < 9223372036854775808) : iopI .or .i64 ((m * p : Nat) : Int) (b : Int) = ((m * p + b : Nat) : Int) := by
 rw [or_nat (by omega) (by omega)]
 subst hp
 have h := Nat.shiftLeft_add_eq_or_of_lt hb m
 rw [Nat.shiftLeft_eq] at h
 rw [h]
theorem or_a8 {m b : Int} (h0 : 0 ≤ m) (h1 : m ≤ 4503599627370496) (h2 : 0 ≤ b) (h3 : b ≤ 255) : iopI .or .i64 (m * 256) b = m * 256 + b := by
 obtain ⟨a, rfl⟩ := Int.eq_ofNat_of_zero_le h0
 obtain ⟨b, rfl⟩ := Int.eq_ofNat_of_zero_le h2
 have h := or_add (m := a) (b := b) (p := 256) 8 (by decide) (by omega) (by omega)
 rw [show ((a * 256 : Nat) : Int) = (a : Int) * 256 by omega, show ((a * 256 + b : Nat) : Int) = (a : Int) * 256 + b by omega] at h
 exact h
theorem or_a16 {m b : Int} (h0 : 0 ≤ m) (h1 : m ≤ 4503599627370496 / 256) (h2 : 0 ≤ b) (h3 : b ≤ 65535) : iopI .or .i64 (m * 65536) b = m * 65536 + b := by
 obtain ⟨a, rfl⟩ := Int.eq_ofNat_of_zero_le h0
 obtain ⟨b, rfl⟩ := Int.eq_ofNat_of_zero_le h2
 have h := or_add (m := a) (b := b) (p := 65536) 16 (by decide) (by omega) (by omega)
 rw [show ((a * 65536 : Nat) : Int) = (a : Int) * 65536 by omega, show ((a * 65536 + b : Nat) : Int) = (a : Int) * 65536 + b by omega] at h
 exact h
theorem or_a24 {m b : Int} (h0 : 0 ≤ m) (h1 : m ≤ 4503599627370496 / 65536) (h2 : 0 ≤ b) (h3 : b ≤ 16777215) : iopI .or .i64 (m * 16777216) b = m * 16777216 + b := by
 obtain ⟨a, rfl⟩ := Int.eq_ofNat_of_zero_le h0
 obtain ⟨b, rfl⟩ := Int.eq_ofNat_of_zero_le h2
 have h := or_add (m := a) (b := b) (p := 16777216) 24 (by decide) (by omega) (by omega)
 rw [show ((a * 16777216 : Nat) : Int) = (a : Int) * 16777216 by omega, show ((a * 16777216 + b : Nat) : Int) = (a : Int) * 16777216 + b by omega] at h
 exact h
theorem shlN {n : Int} (k : Nat) (q : Int) (hk : k ≤ 64) (hq : q = 2 ^ k) (h0 : 0 ≤ n) (h : n * q ≤ 9223372036854775807) : iopI .shl .i64 n (k : Int) = n * q := by
 show IntKind.i64.wrap (n * 2 ^ (min (k : Int).toNat 64)) = _
 rw [show min (k : Int).toNat 64 = k by omega, ← hq, wrap_fit]
 simp only [i64min, i64max]
 have hq0 : 0 ≤ q := by rw [hq]; exact Int.pow_nonneg (by omega)
 have := Int.mul_nonneg h0 hq0
 omega
theorem shl8 {n : Int} (h0 : 0 ≤ n) (h : n ≤ 1099511627776) : iopI .shl .i64 n 8 = n * 256 := shlN 8 256 (by omega) (by decide) h0 (by omega)
theorem shl16 {n : Int} (h0 : 0 ≤ n) (h : n ≤ 1099511627776) : iopI .shl .i64 n 16 = n * 65536 := shlN 16 65536 (by omega) (by decide) h0 (by omega)
theorem shl24 {n : Int} (h0 : 0 ≤ n) (h : n ≤ 1099511627776 / 16) : iopI .shl .i64 n 24 = n * 16777216 := shlN 24 16777216 (by omega) (by decide) h0 (by omega)
theorem or8 {n c : Int} (h0 : 0 ≤ n) (h1 : n ≤ 1099511627776) (h2 : 0 ≤ c) (h3 : c ≤ 255) : iopI .or .i64 (iopI .shl .i64 n 8) c = n * 256 + c := by
 rw [shl8 h0 h1]
 exact or_a8 h0 (by omega) h2 h3
theorem or0 {c : Int} (h2 : 0 ≤ c) (h3 : c ≤ 255) : iopI .or .i64 0 c = c := by
 have := or_a8 (m := 0) (b := c) (by omega) (by omega) h2 h3
 rw [Int.zero_mul, Int.zero_add] at this
 exact this
theorem or4 {a b c e : Int} (ha : 0 ≤ a ∧ a ≤ 255) (hb : 0 ≤ b ∧ b ≤ 255) (hc : 0 ≤ c ∧ c ≤ 255) (he : 0 ≤ e ∧ e ≤ 255) :
  iopI .or .i64 (iopI .or .i64 (iopI .or .i64 (iopI .shl .i64 a 24) (iopI .shl .i64 b 16)) (iopI .shl .i64 c 8)) e = ((a * 256 + b) * 256 + c) * 256 + e := by
 rw [shl24 ha.1 (by omega), shl16 hb.1 (by omega), shl8 hc.1 (by omega)]
 rw [or_a24 (m := a) (b := b * 65536) (by omega) (by omega) (by omega) (by omega), show a * 16777216 + b * 65536 = (a * 256 + b) * 65536 by omega, or_a16 (b := c * 256) (by omega) (by omega) (by omega) (by omega),
  show (a * 256 + b) * 65536 + c * 256 = ((a * 256 + b) * 256 + c) * 256 by omega, or_a8 (by omega) (by omega) he.1 he.2]
theorem sel_in {x : List Int} (h : ∀ c ∈ x, 0 ≤ c ∧ c ≤ 255) (n : Nat) : 0 ≤ (x[n]?).getD 0 ∧ (x[n]?).getD 0 ≤ 255 := by
 cases hn : x[n]? with
 | none => simp
 | some c => exact h c (List.mem_of_getElem? hn)
theorem prt_prt {x : List Int} {o l a b : Int} (h0 : 0 ≤ o) (ha : 0 ≤ a) (hab : a ≤ b) (hb : b ≤ l) : prt (prt x o (o + l)) a b = prt x (o + a) (o + b) := by
 unfold prt
 rw [List.take_drop, List.drop_drop, List.take_take]
 congr 1
 ·omega
 ·congr 1; omega
theorem good_iff {x : List Int} {o l : Int} (h0 : 0 ≤ o) (h4 : 5 ≤ l) (hl : o + l ≤ x.length) : goodI (prt x o (o + l)) = 1 ↔ (IntKind.u8.wrap (notI (moreI (notI 0) (prt x o (o + (l + -4))))) = (x[(o + (l + -4)).toNat]?).getD 0 ∧ IntKind.u8.wrap (iopI .shr .u32 (notI (moreI (notI 0) (prt x o (o + (l + -4))))) 8) = (x[(o + (l + -4) + 1).toNat]?).getD 0 ∧
  IntKind.u8.wrap (iopI .shr .u32 (notI (moreI (notI 0) (prt x o (o + (l + -4))))) 16) = (x[(o + (l + -4) + 2).toNat]?).getD 0 ∧ IntKind.u8.wrap (iopI .shr .u32 (notI (moreI (notI 0) (prt x o (o + (l + -4))))) 24) = (x[(o + (l + -4) + 3).toNat]?).getD 0) := by
 have hz := prt_length (x := x) (o := o) (t := o + l) h0 (by omega) hl
 have e0 : prt (prt x o (o + l)) 0 (((prt x o (o + l)).length : Int) - 4) = prt x o (o + (l + -4)) := by
  rw [hz, prt_prt h0 (by omega) (by omega) (by omega), Int.add_zero]
  congr 1; omega
 have e1 := prt_app (x := x) (o := o) (m := o + (l + -4)) (t := o + l) h0 (by omega) (by omega) hl
 rw [prt_step (x := x) (o := o + (l + -4)) (t := o + l) (by omega) (by omega) (by omega), prt_step (x := x) (o := o + (l + -4) + 1) (t := o + l) (by omega) (by omega) (by omega), show o + (l + -4) + 1 + 1 = o + (l + -4) + 2 by omega,
  prt_step (x := x) (o := o + (l + -4) + 2) (t := o + l) (by omega) (by omega) (by omega), show o + (l + -4) + 2 + 1 = o + (l + -4) + 3 by omega, prt_step (x := x) (o := o + (l + -4) + 3) (t := o + l) (by omega) (by omega) (by omega), prt_nil (x := x) (o := o + (l + -4) + 3 + 1) (t := o + l) (by omega) (by omega)] at e1
 unfold goodI
 rw [e0]
 generalize prt x o (o + (l + -4)) = A at *
 rw [e1]
 unfold putI le4 gsumI
 have key : ∀ (u v w z a b c e : Int), (A ++ [a, b, c, e] = A ++ [u, v, w, z]) ↔ (u = a ∧ v = b ∧ w = c ∧ z = e) := by
  intro u v w z a b c e
  rw [List.append_cancel_left_eq]
  simp only [List.cons.injEq, and_true]
  constructor <;> intro h <;> exact ⟨h.1.symm, h.2.1.symm, h.2.2.1.symm, h.2.2.2.symm⟩
 constructor
 ·intro h
  split at h
  ·rename_i h2; exact (key _ _ _ _ _ _ _ _).1 h2
  ·omega
 ·intro h
  rw [if_pos ((key _ _ _ _ _ _ _ _).2 h)]
theorem prt_bytes {x : List Int} {o t : Int} (h : ∀ c ∈ x, 0 ≤ c ∧ c ≤ 255) : ∀ c ∈ prt x o t, inK .u8 c := fun c hc => by
 have := h c (List.mem_of_mem_take (List.mem_of_mem_drop hc))
 simpa only [inK, u8min, u8max] using this
theorem rgood_iff {x : List Int} {o l : Int} (hx : ∀ c ∈ x, 0 ≤ c ∧ c ≤ 255) (h0 : 0 ≤ o) (h4 : 5 ≤ l) (hl : o + l ≤ x.length) : goodI (prt x o (o + l)) = 1 ↔ rputI (prt (prt x o (o + (l + -4))) 0 (0 + (l + -4))) = prt x o (o + l) := by
 have hz := prt_length (x := x) (o := o) (t := o + l) h0 (by omega) hl
 have e0 : prt (prt x o (o + l)) 0 (((prt x o (o + l)).length : Int) - 4) = prt x o (o + (l + -4)) := by
  rw [hz, prt_prt h0 (by omega) (by omega) (by omega), Int.add_zero]
  congr 1; omega
 have e2 : prt (prt x o (o + (l + -4))) 0 (0 + (l + -4)) = prt x o (o + (l + -4)) := by
  rw [prt_prt h0 (by omega) (by omega) (by omega), Int.add_zero, Int.zero_add]
 unfold goodI
 rw [e0, e2, rput_put (prt_bytes hx)]
 constructor
 ·intro h
  split at h
  ·rename_i h2; exact h2.symm
  ·omega
 ·intro h
  rw [if_pos h.symm]

theorem prt_at {x : List Int} {o t : Int} {j : Nat} (h0 : 0 ≤ o) (h : o + j < t) (h2 : t ≤ x.length) : ((prt x o t)[j]?).getD 0 = (x[(o + j).toNat]?).getD 0 := by
 unfold prt
 rw [List.getElem?_drop, List.getElem?_take, if_pos (by omega)]
 congr 2
 omega
theorem ext16 {l m : List Int} (hl : l.length = 16) (hm : m.length = 16) (h : ∀ j, j < 16 → (l[j]?).getD 0 = (m[j]?).getD 0) : l = m := by
 apply List.ext_getElem?
 intro j
 by_cases hj : j < 16
 ·have := h j hj
  rw [List.getElem?_eq_getElem (by omega), List.getElem?_eq_getElem (by omega)] at this ⊢
  simpa using this
 ·rw [List.getElem?_eq_none (by omega), List.getElem?_eq_none (by omega)]
theorem six {X : List Int} (h : 6 ≤ X.length) : X.take 6 = [(X[0]?).getD 0, (X[1]?).getD 0, (X[2]?).getD 0, (X[3]?).getD 0, (X[4]?).getD 0, (X[5]?).getD 0] := by
 match X, h with
 | a :: b :: c :: d :: e :: f :: r, _ => rfl
theorem head6 (n : Int) : headI n = [((headI n)[0]?).getD 0, ((headI n)[1]?).getD 0, ((headI n)[2]?).getD 0, ((headI n)[3]?).getD 0, ((headI n)[4]?).getD 0, ((headI n)[5]?).getD 0] := rfl
theorem size_if {X : List Int} (h : 6 ≤ X.length) : sizeI X = if 1 ≤ saysI X ∧ saysI X ≤ 1024 ∧ ((headI (saysI X))[0]?).getD 0 = (X[0]?).getD 0 ∧ ((headI (saysI X))[1]?).getD 0 = (X[1]?).getD 0 ∧ ((headI (saysI X))[2]?).getD 0 = (X[2]?).getD 0 ∧ ((headI (saysI X))[3]?).getD 0 = (X[3]?).getD 0 ∧ ((headI (saysI X))[4]?).getD 0 = (X[4]?).getD 0 ∧ ((headI (saysI X))[5]?).getD 0 = (X[5]?).getD 0 then saysI X else 0 := by
 unfold sizeI
 have e : (X.take 6 = headI (saysI X)) ↔ (((headI (saysI X))[0]?).getD 0 = (X[0]?).getD 0 ∧ ((headI (saysI X))[1]?).getD 0 = (X[1]?).getD 0 ∧ ((headI (saysI X))[2]?).getD 0 = (X[2]?).getD 0 ∧ ((headI (saysI X))[3]?).getD 0 = (X[3]?).getD 0 ∧ ((headI (saysI X))[4]?).getD 0 = (X[4]?).getD 0 ∧ ((headI (saysI X))[5]?).getD 0 = (X[5]?).getD 0) := by
  rw [six h, head6 (saysI X)]
  simp only [List.cons.injEq, and_true]
  constructor <;> intro hh <;> exact ⟨hh.1.symm, hh.2.1.symm, hh.2.2.1.symm, hh.2.2.2.1.symm, hh.2.2.2.2.1.symm, hh.2.2.2.2.2.symm⟩
 by_cases c : 1 ≤ saysI X ∧ saysI X ≤ 1024 ∧ X.take 6 = headI (saysI X)
 ·rw [if_pos ⟨by omega, c⟩, if_pos ⟨c.1, c.2.1, e.1 c.2.2⟩]
 ·rw [if_neg (fun hh => c hh.2), if_neg (fun hh => c ⟨hh.1, hh.2.1, e.2 hh.2.2⟩)]
theorem size_at {x : List Int} {o l p : Int} (h0 : 0 ≤ o) (hp : 0 ≤ p) (h6 : 6 ≤ l - p) (hl : o + l ≤ x.length) :
  sizeI (prt x (o + p) (o + l)) = if 1 ≤ (x[(o + p).toNat]?).getD 0 * 256 + (x[(o + p + 1).toNat]?).getD 0 ∧ (x[(o + p).toNat]?).getD 0 * 256 + (x[(o + p + 1).toNat]?).getD 0 ≤ 1024 ∧ ((headI ((x[(o + p).toNat]?).getD 0 * 256 + (x[(o + p + 1).toNat]?).getD 0))[0]?).getD 0 = (x[(o + p).toNat]?).getD 0 ∧
   ((headI ((x[(o + p).toNat]?).getD 0 * 256 + (x[(o + p + 1).toNat]?).getD 0))[1]?).getD 0 = (x[(o + p + 1).toNat]?).getD 0 ∧ ((headI ((x[(o + p).toNat]?).getD 0 * 256 + (x[(o + p + 1).toNat]?).getD 0))[2]?).getD 0 = (x[(o + p + 2).toNat]?).getD 0 ∧ ((headI ((x[(o + p).toNat]?).getD 0 * 256 + (x[(o + p + 1).toNat]?).getD 0))[3]?).getD 0 = (x[(o + p + 3).toNat]?).getD 0 ∧
   ((headI ((x[(o + p).toNat]?).getD 0 * 256 + (x[(o + p + 1).toNat]?).getD 0))[4]?).getD 0 = (x[(o + p + 4).toNat]?).getD 0 ∧ ((headI ((x[(o + p).toNat]?).getD 0 * 256 + (x[(o + p + 1).toNat]?).getD 0))[5]?).getD 0 = (x[(o + p + 5).toNat]?).getD 0
   then (x[(o + p).toNat]?).getD 0 * 256 + (x[(o + p + 1).toNat]?).getD 0 else 0 := by
 have hz := prt_length (x := x) (o := o + p) (t := o + l) (by omega) (by omega) (by omega)
 have a0 := prt_at (x := x) (o := o + p) (t := o + l) (j := 0) (by omega) (by omega) (by omega)
 have a1 := prt_at (x := x) (o := o + p) (t := o + l) (j := 1) (by omega) (by omega) (by omega)
 have a2 := prt_at (x := x) (o := o + p) (t := o + l) (j := 2) (by omega) (by omega) (by omega)
 have a3 := prt_at (x := x) (o := o + p) (t := o + l) (j := 3) (by omega) (by omega) (by omega)
 have a4 := prt_at (x := x) (o := o + p) (t := o + l) (j := 4) (by omega) (by omega) (by omega)
 have a5 := prt_at (x := x) (o := o + p) (t := o + l) (j := 5) (by omega) (by omega) (by omega)
 have hs : saysI (prt x (o + p) (o + l)) = (x[(o + p).toNat]?).getD 0 * 256 + (x[(o + p + 1).toNat]?).getD 0 := by
  unfold saysI
  rw [a0, a1]
  simp
 rw [size_if (by omega), hs, a0, a1, a2, a3, a4, a5]
 simp
theorem size_in (X : List Int) : 0 ≤ sizeI X ∧ sizeI X ≤ 1024 := by
 unfold sizeI
 split <;> omega
theorem idI_len {x : List Int} : (idI x).length = 16 := by
 simp [idI, sumI, outI]
theorem body_iff {y : List Int} : bodyI y = 1 ↔ goodI y = 1 ∧ idI (prt y 16 (y.length - 4)) = prt y 0 16 := by
 unfold bodyI
 split
 ·rename_i h; simp [h]
 ·rename_i h; simp [h]
theorem body_no {y : List Int} (h : ¬ bodyI y = 1) : bodyI y = 0 := by
 unfold bodyI at h ⊢
 split
 ·rename_i g; rw [if_pos g] at h; omega
 ·rfl
theorem size_yes {x : List Int} {o l p n : Int} (h0 : 0 ≤ o) (hp : 0 ≤ p) (h6 : 6 ≤ l - p) (hl : o + l ≤ x.length) (hn : n = (x[(o + p).toNat]?).getD 0 * 256 + (x[(o + p + 1).toNat]?).getD 0) (h : ¬ sizeI (prt x (o + p) (o + l)) = 0) :
  sizeI (prt x (o + p) (o + l)) = n ∧ 1 ≤ n ∧ n ≤ 1024 ∧ ((headI n)[0]?).getD 0 = (x[(o + p).toNat]?).getD 0 ∧ ((headI n)[1]?).getD 0 = (x[(o + p + 1).toNat]?).getD 0 ∧ ((headI n)[2]?).getD 0 = (x[(o + p + 2).toNat]?).getD 0 ∧ ((headI n)[3]?).getD 0 = (x[(o + p + 3).toNat]?).getD 0 ∧ ((headI n)[4]?).getD 0 = (x[(o + p + 4).toNat]?).getD 0 ∧ ((headI n)[5]?).getD 0 = (x[(o + p + 5).toNat]?).getD 0 := by
 have hz := size_at (x := x) h0 hp h6 hl
 rw [← hn] at hz
 split at hz
 ·rename_i c; exact ⟨hz, c⟩
 ·exact absurd hz h
theorem size_of {x : List Int} {o l p n : Int} (h0 : 0 ≤ o) (hp : 0 ≤ p) (h6 : 6 ≤ l - p) (hl : o + l ≤ x.length) (hn : n = (x[(o + p).toNat]?).getD 0 * 256 + (x[(o + p + 1).toNat]?).getD 0) (hx : ∀ c ∈ x, 0 ≤ c ∧ c ≤ 255) (h1 : 1 ≤ n) (h2 : n ≤ 1024) :
  (((headI n)[0]?).getD 0 = (x[(o + p).toNat]?).getD 0 ∧ ((headI n)[1]?).getD 0 = (x[(o + p + 1).toNat]?).getD 0) ∧ (((headI n)[2]?).getD 0 = (x[(o + p + 2).toNat]?).getD 0 → ((headI n)[3]?).getD 0 = (x[(o + p + 3).toNat]?).getD 0 → ((headI n)[4]?).getD 0 = (x[(o + p + 4).toNat]?).getD 0 → ((headI n)[5]?).getD 0 = (x[(o + p + 5).toNat]?).getD 0 → sizeI (prt x (o + p) (o + l)) = n) := by
 have hz := size_at (x := x) h0 hp h6 hl
 have b0 := sel_in hx (o + p).toNat
 have b1 := sel_in hx (o + p + 1).toNat
 have e0 : ((headI n)[0]?).getD 0 = (x[(o + p).toNat]?).getD 0 := by show n / 256 = _; omega
 have e1 : ((headI n)[1]?).getD 0 = (x[(o + p + 1).toNat]?).getD 0 := by show n % 256 = _; omega
 refine ⟨⟨e0, e1⟩, fun e2 e3 e4 e5 => ?_⟩
 rw [← hn] at hz
 rw [hz, if_pos ⟨h1, h2, e0, e1, e2, e3, e4, e5⟩]
theorem shr8 (n : Int) : iopI .shr .i64 n 8 = n / 256 := by
 show Int.fdiv n (2 ^ (min (8 : Int).toNat 64)) = n / 256
 rw [Int.fdiv_eq_ediv_of_nonneg _ (by decide)]
 rfl
theorem xor255 {c : Int} (h : 0 ≤ c ∧ c ≤ 255) : iopI .xor .u8 255 c = 255 - c := by
 obtain ⟨a, rfl⟩ := of8 h
 have h1 := xor_bv8 (BitVec.allOnes 8) a
 have h2 : ((BitVec.allOnes 8).toNat : Int) = 255 := rfl
 rw [BitVec.allOnes_xor, BitVec.toNat_not, h2] at h1
 have h3 := a.isLt
 omega
theorem wrapm {n : Int} (h : 0 ≤ n ∧ n ≤ 65535) : IntKind.u8.wrap n = n % 256 := by
 simp only [IntKind.wrap]
 first | rfl | (split <;> omega) | omega
theorem cut_get (x : D) (a b : Int) (k : Nat) : ((List.drop a.toNat (List.take b.toNat x.toList))[k]?.getD (D.int 0)).toInt = ((prt x.ints a b)[k]?).getD 0 := by
 have : ∀ (l : List D), (l[k]?.getD (D.int 0)).toInt = ((l.map D.toInt)[k]?).getD 0 := by
  intro l
  rw [List.getElem?_map]
  cases l[k]? <;> rfl
 rw [this, List.map_drop, List.map_take, map_ints]
 rfl
theorem cut_ints (x : D) (a b : Int) : D.ints (.list (List.drop a.toNat (List.take b.toNat x.toList))) = prt x.ints a b := ints_cut x a.toNat b.toNat
theorem cutp (x : List Int) (o m : Int) : List.drop (Int.toNat o) (List.take (Int.toNat m) x) = prt x o m := rfl

end Go.Proofs.YtidjfojcifjdjaaDoor.Pl

set_option linter.unusedSimpArgs false
set_option linter.unusedVariables false
namespace Go.Proofs.YtidjfojcifjdjaaDoor.Pn
open Go.RowKit Go.Ev Go.Proofs.YtidjfojcifjdjaaDoor.Co

open Go.Proofs.YtidjfojcifjdjaaDoor.P0
open Go.Proofs.YtidjfojcifjdjaaDoor.Pa
open Go.Proofs.YtidjfojcifjdjaaDoor.Pm
open Go.Proofs.YtidjfojcifjdjaaDoor.Pl
theorem seg_ofInts {l : List Int} {n : Nat} (h : l.length = n) : List.map (fun j => (D.ofInts l).toList[Int.toNat 0 + j]?.getD (D.int 0)) (List.range n) = (D.ofInts l).toList := by
 apply List.ext_getElem?
 intro j
 have hl : (D.ofInts l).toList.length = n := by simp [D.ofInts, h]
 by_cases hj : j < n
 ·rw [List.getElem?_map, List.getElem?_range hj, List.getElem?_eq_getElem (by omega)]
  simp only [Option.map_some, Option.some.injEq]
  rw [show Int.toNat 0 + j = j by simp, List.getElem?_eq_getElem (by omega)]
  rfl
 ·rw [List.getElem?_map, List.getElem?_eq_none (by simp; omega), List.getElem?_eq_none (by omega)]
  rfl
theorem rec_eq {X : List Int} {l : Int} (h : (X.length : Int) = l) : headI l ++ putI (prt (idI X ++ X) 0 (0 + (l + 16))) = recI X := by
 unfold recI
 rw [← h]
 congr 2
 have : (((idI X ++ X).length : Nat) : Int) = (X.length : Int) + 16 := by rw [List.length_append, idI_len]; omega
 rw [Int.zero_add, prt_all (by omega)]
theorem rec_len {X : List Int} : ((recI X).length : Int) = X.length + 26 := by
 simp only [recI, headI, headL, putI, le4, List.length_append, List.length_cons, List.length_nil, idI_len]
 omega
theorem idI_in {x : List Int} : ∀ c ∈ idI x, inK .u8 c := by
 intro c hc
 have h := List.mem_of_mem_take hc
 simp only [sumI, outI, List.mem_map] at h
 obtain ⟨i, _, rfl⟩ := h
 exact wrap_in .u8 _
theorem size_short {X : List Int} (h : X.length < 6) : sizeI X = 0 := by
 unfold sizeI
 rw [if_neg (by omega)]
theorem prt_drop0 {x : List Int} {o l p : Int} (h0 : 0 ≤ o) (hp : 0 ≤ p) (h : p ≤ l) : (prt x o (o + l)).drop p.toNat = prt x (o + p) (o + l) := by
 unfold prt
 rw [List.drop_drop]
 congr 1
 omega

end Go.Proofs.YtidjfojcifjdjaaDoor.Pn

set_option linter.unusedSimpArgs false
set_option linter.unusedVariables false
namespace Go.Proofs.YtidjfojcifjdjaaDoor.Pt3
open Go.RowKit Go.Ev Go.Proofs.YtidjfojcifjdjaaDoor.Co

open Go.Proofs.YtidjfojcifjdjaaDoor.P0
open Go.Proofs.YtidjfojcifjdjaaDoor.Pa
open Go.Proofs.YtidjfojcifjdjaaDoor.Pm
open Go.Proofs.YtidjfojcifjdjaaDoor.Pl
open Go.Proofs.YtidjfojcifjdjaaDoor.Pn
theorem seg_len (x : List Int) : (List.take 16 (segI x (Int.toNat 0) (Int.toNat 16))).length = 16 := by
 simp [segI]
theorem seg_at (x : List Int) (j : Nat) (h : j < 16) : ((List.take 16 (segI x (Int.toNat 0) (Int.toNat 16)))[j]?).getD 0 = (x[j]?).getD 0 := by
 rw [List.getElem?_take, if_pos h]
 unfold segI
 rw [List.getElem?_map, List.getElem?_range (by exact h)]
 simp
theorem ask_at {x : List Int} {o l p n : Int} {id : List Int} (h0 : 0 ≤ o) (h1 : 0 ≤ l) (hl : o + l ≤ x.length) :
  askI (prt x o (o + l)) p n id = if p < 0 ∨ l < p then 6 else if sizeI (prt x (o + p) (o + l)) = 0 ∨ sizeI (prt x (o + p) (o + l)) ≠ n ∨ l - p < n + 26 then 6 else if bodyI (prt x (o + (p + 6)) (o + (p + 6) + (n + 20))) = 1 ∧ prt x (o + (p + 6)) (o + (p + 6) + 16) = id then 0 else 11 := by
 have hz := prt_length (x := x) (o := o) (t := o + l) h0 (by omega) hl
 unfold askI
 rw [hz, show o + l - o = l by omega]
 by_cases c : p < 0 ∨ l < p
 ·rw [if_pos c, if_pos c]
 ·rw [if_neg c, if_neg c, prt_drop0 h0 (by omega) (by omega)]
  by_cases c2 : sizeI (prt x (o + p) (o + l)) = 0 ∨ sizeI (prt x (o + p) (o + l)) ≠ n ∨ l - p < n + 26
  ·rw [if_pos c2, if_pos c2]
  ·have := size_in (prt x (o + p) (o + l))
   rw [if_neg c2, if_neg c2, prt_prt h0 (by omega) (by omega) (by omega), prt_prt h0 (by omega) (by omega) (by omega)]
   rw [show o + (p + n + 26) = o + (p + 6) + (n + 20) by omega, show o + (p + 22) = o + (p + 6) + 16 by omega]

end Go.Proofs.YtidjfojcifjdjaaDoor.Pt3

set_option linter.unusedSimpArgs false
set_option linter.unusedVariables false
namespace Go.Proofs.YtidjfojcifjdjaaDoor.Ps4
open Go.RowKit Go.Ev Go.Proofs.YtidjfojcifjdjaaDoor.Co

open Go.Proofs.YtidjfojcifjdjaaDoor.P0
open Go.Proofs.YtidjfojcifjdjaaDoor.Pa
open Go.Proofs.YtidjfojcifjdjaaDoor.Pm
open Go.Proofs.YtidjfojcifjdjaaDoor.Pl
open Go.Proofs.YtidjfojcifjdjaaDoor.Pn
theorem scanN_le (x : List Int) : ∀ (f g : Nat) (p : Int), 0 ≤ p → (x.length : Int) - p < f → (x.length : Int) - p < g → scanN f x p = scanN g x p
 | 0, 0, _, _, _, _ => rfl
 | 0, g + 1, p, h0, h1, h2 => by
  simp only [scanN]
  rw [if_pos (by omega)]
 | f + 1, 0, p, h0, h1, h2 => by
  simp only [scanN]
  rw [if_pos (by omega)]
 | f + 1, g + 1, p, h0, h1, h2 => by
  have hq := size_in (x.drop p.toNat)
  simp only [scanN]
  by_cases c : (x.length : Int) ≤ p
  ·rw [if_pos c, if_pos c]
  ·rw [scanN_le x f g (p + sizeI (x.drop p.toNat) + 26) (by omega) (by omega) (by omega)]
theorem scan_step {x : List Int} {p : Int} (h0 : 0 ≤ p) : scanI x p = if (x.length : Int) ≤ p then ⟨[], p, 0, 0⟩ else if (x.length : Int) - p < 6 then ⟨[], p, 0, 1⟩ else if sizeI (x.drop p.toNat) = 0 then ⟨[], p, 0, 2⟩ else if (x.length : Int) - p < sizeI (x.drop p.toNat) + 26 then ⟨[], p, 0, 3⟩ else
  if bodyI (prt x (p + 6) (p + sizeI (x.drop p.toNat) + 26)) = 1 then ⟨heldD x p (sizeI (x.drop p.toNat)) :: (scanI x (p + sizeI (x.drop p.toNat) + 26)).l, (scanI x (p + sizeI (x.drop p.toNat) + 26)).size, (scanI x (p + sizeI (x.drop p.toNat) + 26)).bad, (scanI x (p + sizeI (x.drop p.toNat) + 26)).rest⟩
  else ⟨(scanI x (p + sizeI (x.drop p.toNat) + 26)).l, (scanI x (p + sizeI (x.drop p.toNat) + 26)).size, (scanI x (p + sizeI (x.drop p.toNat) + 26)).bad + 1, (scanI x (p + sizeI (x.drop p.toNat) + 26)).rest⟩ := by
 have hq := size_in (x.drop p.toNat)
 unfold scanI
 rw [scanN_le x (x.length + 1) (x.length + 1 + 1) p h0 (by omega) (by omega)]
 rw [scanN]
theorem scan_at {x : List Int} {o l p n : Int} (h0 : 0 ≤ o) (hl : o + l ≤ x.length) (hp : 0 ≤ p) (hn : sizeI (prt x (o + p) (o + l)) = n) (h : p ≤ l) : scanI (prt x o (o + l)) p = if l ≤ p then ⟨[], p, 0, 0⟩ else if l - p < 6 then ⟨[], p, 0, 1⟩ else if n = 0 then ⟨[], p, 0, 2⟩ else if l - p < n + 26 then ⟨[], p, 0, 3⟩ else
  if bodyI (prt x (o + (p + 6)) (o + (p + 6) + (n + 20))) = 1 then ⟨.list [D.ofInts (prt x (o + (p + 6)) (o + (p + 6) + 16)), .int p, .int n] :: (scanI (prt x o (o + l)) (p + (n + 26))).l, (scanI (prt x o (o + l)) (p + (n + 26))).size, (scanI (prt x o (o + l)) (p + (n + 26))).bad, (scanI (prt x o (o + l)) (p + (n + 26))).rest⟩
  else ⟨(scanI (prt x o (o + l)) (p + (n + 26))).l, (scanI (prt x o (o + l)) (p + (n + 26))).size, (scanI (prt x o (o + l)) (p + (n + 26))).bad + 1, (scanI (prt x o (o + l)) (p + (n + 26))).rest⟩ := by
 have hz := prt_length (x := x) (o := o) (t := o + l) h0 (by omega) hl
 have hq := size_in (prt x (o + p) (o + l))
 rw [scan_step hp, hz, show o + l - o = l by omega, prt_drop0 h0 hp h, hn]
 by_cases c : l ≤ p
 ·rw [if_pos c, if_pos c]
 rw [if_neg c, if_neg c]
 by_cases c1 : l - p < 6
 ·rw [if_pos c1, if_pos c1]
 rw [if_neg c1, if_neg c1]
 by_cases c2 : n = 0
 ·rw [if_pos c2, if_pos c2]
 rw [if_neg c2, if_neg c2]
 by_cases c3 : l - p < n + 26
 ·rw [if_pos c3, if_pos c3]
 rw [if_neg c3, if_neg c3, prt_prt h0 (by omega) (by omega) (by omega)]
 unfold heldD
 rw [prt_prt h0 (by omega) (by omega) (by omega)]
 rw [show o + (p + n + 26) = o + (p + 6) + (n + 20) by omega, show o + (p + 22) = o + (p + 6) + 16 by omega, show p + n + 26 = p + (n + 26) by omega]
theorem ofInts16 {l : List Int} (h : l.length = 16) : D.ofInts l = .list [.int ((l[0]?).getD 0), .int ((l[1]?).getD 0), .int ((l[2]?).getD 0), .int ((l[3]?).getD 0), .int ((l[4]?).getD 0), .int ((l[5]?).getD 0), .int ((l[6]?).getD 0), .int ((l[7]?).getD 0), .int ((l[8]?).getD 0), .int ((l[9]?).getD 0), .int ((l[10]?).getD 0), .int ((l[11]?).getD 0), .int ((l[12]?).getD 0), .int ((l[13]?).getD 0), .int ((l[14]?).getD 0), .int ((l[15]?).getD 0)] := by
 match l, h with
 | [_, _, _, _, _, _, _, _, _, _, _, _, _, _, _, _], _ => rfl
theorem scan_in (x : List Int) : ∀ (f : Nat) (p : Int), 0 ≤ p → p ≤ x.length → p ≤ (scanN f x p).size ∧ (scanN f x p).size ≤ x.length ∧ 0 ≤ (scanN f x p).bad ∧ (scanN f x p).bad ≤ (scanN f x p).size - p ∧ 0 ≤ (scanN f x p).rest ∧ (scanN f x p).rest ≤ 3 ∧ ((scanN f x p).l.length : Int) ≤ (scanN f x p).size - p
 | 0, p, h0, h => by simp [scanN]; omega
 | f + 1, p, h0, h => by
  have hq := size_in (x.drop p.toNat)
  simp only [scanN]
  split
  ·simp; omega
  split
  ·simp; omega
  split
  ·simp; omega
  split
  ·simp; omega
  rename_i c0 c1 c2 c3
  have ih := scan_in x f (p + sizeI (x.drop p.toNat) + 26) (by omega) (by omega)
  split
  ·simp only [List.length_cons]; omega
  ·simp only; omega
theorem scanI_in {x : List Int} {o l p : Int} (h0 : 0 ≤ o) (hl : o + l ≤ x.length) (hp : 0 ≤ p) (h : p ≤ l) : p ≤ (scanI (prt x o (o + l)) p).size ∧ (scanI (prt x o (o + l)) p).size ≤ l ∧ 0 ≤ (scanI (prt x o (o + l)) p).bad ∧ (scanI (prt x o (o + l)) p).bad ≤ (scanI (prt x o (o + l)) p).size - p ∧ 0 ≤ (scanI (prt x o (o + l)) p).rest ∧ (scanI (prt x o (o + l)) p).rest ≤ 3 ∧ ((scanI (prt x o (o + l)) p).l.length : Int) ≤ (scanI (prt x o (o + l)) p).size - p := by
 have hz := prt_length (x := x) (o := o) (t := o + l) h0 (by omega) hl
 have := scan_in (prt x o (o + l)) ((prt x o (o + l)).length + 1) p hp (by omega)
 unfold scanI
 omega
theorem list_toList {x : D} (h : 1 ≤ x.toList.length) : D.list x.toList = x := by
 cases x with
 | int n => simp [D.toList] at h
 | list l => rfl
theorem canon16 {x : D} (h : x.code = (D.ofInts (x.ints ++ List.replicate ((56 - (56 : Int)) % 64).toNat 0)).code) : x = D.ofInts x.ints := by
 have := D.code_eq h
 rw [show ((56 - (56 : Int)) % 64).toNat = 0 from rfl] at this
 simpa using this
theorem canon0 {x : D} {n : Int} (h : x.code = (D.int n).code) : x = D.int n := D.code_eq h
theorem cut_getD {x : D} (h : x = D.ofInts x.ints) (a b : Int) (k : Nat) : (List.drop a.toNat (List.take b.toNat x.toList))[k]?.getD (D.int 0) = D.int (((prt x.ints a b)[k]?).getD 0) := by
 have e : x.toList = x.ints.map D.int := by
  conv => lhs; rw [h]
  simp [D.ofInts]
 rw [e, ← List.map_take, ← List.map_drop, List.getElem?_map]
 show _ = D.int ((((List.drop a.toNat (List.take b.toNat x.ints))[k]?)).getD 0)
 cases (List.drop a.toNat (List.take b.toNat x.ints))[k]? <;> rfl
theorem len_toL (x : D) : x.toList.length = x.ints.length := by simp [D.ints]
def Chain (X : List Int) : Int → List D → Int → Prop
 | s, [], e => s ≤ e
 | s, h :: t, e => ∃ p n : Int, h = .list [D.ofInts (prt X (p + 6) (p + 22)), .int p, .int n] ∧ s ≤ p ∧ 1 ≤ n ∧ n ≤ 1024 ∧ p + n + 26 ≤ X.length ∧ sizeI (X.drop p.toNat) = n ∧ bodyI (prt X (p + 6) (p + n + 26)) = 1 ∧ Chain X (p + n + 26) t e
theorem chain_low {X : List Int} : ∀ {l : List D} {s s' e : Int}, Chain X s l e → s' ≤ s → Chain X s' l e
 | [], s, s', e, h, g => by simp only [Chain] at h ⊢; omega
 | a :: t, s, s', e, h, g => by
  simp only [Chain] at h ⊢
  obtain ⟨p, n, h1, h2, h3⟩ := h
  exact ⟨p, n, h1, by omega, h3⟩
theorem scan_chain (X : List Int) : ∀ (f : Nat) (p : Int), 0 ≤ p → Chain X p (scanN f X p).l (scanN f X p).size
 | 0, p, h0 => by simp [scanN, Chain]
 | f + 1, p, h0 => by
  have hq := size_in (X.drop p.toNat)
  simp only [scanN]
  split
  ·simp [Chain]
  split
  ·simp [Chain]
  split
  ·simp [Chain]
  split
  ·simp [Chain]
  rename_i c0 c1 c2 c3
  have ih := scan_chain X f (p + sizeI (X.drop p.toNat) + 26) (by omega)
  split
  ·rename_i hb
   simp only [Chain, heldD]
   exact ⟨p, _, rfl, by omega, by omega, by omega, by omega, rfl, hb, ih⟩
  ·exact chain_low ih (by omega)
theorem endH_zero (l : List D) : endH l 0 = 0 := rfl
theorem endH_succ {l : List D} {i : Nat} {x : List Int} {p n : Int} (h : l[i]? = some (.list [D.ofInts x, .int p, .int n])) (h1 : 1 ≤ n) (h2 : n ≤ 1024) : endH l ((i : Int) + 1) = p + n + 26 := by
 unfold endH
 rw [if_neg (by omega), show ((i : Int) + 1 - 1).toNat = i by omega, h]
 have e1 : atI ((some (D.list [D.ofInts x, D.int p, D.int n])).getD (D.int 0)) = p := rfl
 have e2 : szI ((some (D.list [D.ofInts x, D.int p, D.int n])).getD (D.int 0)) = n := rfl
 rw [e1, e2, if_neg (by omega)]
 omega
theorem endH_cons {a : D} {l : List D} {i : Nat} : endH (a :: l) ((i : Int) + 1 + 1) = endH l ((i : Int) + 1) := by
 unfold endH
 rw [if_neg (show ¬ ((i : Int) + 1 + 1 ≤ 0) by omega), if_neg (show ¬ ((i : Int) + 1 ≤ 0) by omega), show ((i : Int) + 1 + 1 - 1).toNat = i + 1 by omega, show ((i : Int) + 1 - 1).toNat = i by omega]
 rfl
theorem chain_get {X : List Int} : ∀ {l : List D} {s e : Int} {i : Nat}, Chain X s l e → i < l.length → ∃ p n : Int, l[i]? = some (.list [D.ofInts (prt X (p + 6) (p + 22)), .int p, .int n]) ∧ s ≤ p ∧ (endH l i ≤ p ∨ i = 0) ∧ 1 ≤ n ∧ n ≤ 1024 ∧ p + n + 26 ≤ X.length ∧ sizeI (X.drop p.toNat) = n ∧ bodyI (prt X (p + 6) (p + n + 26)) = 1 ∧ p + n + 26 ≤ e
 | [], s, e, i, h, g => by simp at g
 | a :: t, s, e, i, h, g => by
  simp only [Chain] at h
  obtain ⟨p, n, h1, h2, h3, h4, h5, h6, h7, h8⟩ := h
  have low : ∀ {l : List D} {s : Int}, Chain X s l e → s ≤ e := by
   intro l
   induction l with
   | nil => intro s h; simpa only [Chain] using h
   | cons b t ih =>
    intro s h
    simp only [Chain] at h
    obtain ⟨q, m, k1, k2, k3, k4, k5, k6, k7, k8⟩ := h
    have := ih k8
    omega
  match i with
  | 0 => exact ⟨p, n, by rw [h1]; rfl, h2, .inr rfl, h3, h4, h5, h6, h7, low h8⟩
  | i + 1 =>
   obtain ⟨q, m, k1, k2, k3, k4, k5, k6, k7, k8, k9⟩ := chain_get (i := i) h8 (by simpa using g)
   refine ⟨q, m, by rw [List.getElem?_cons_succ]; exact k1, by omega, .inl ?_, k4, k5, k6, k7, k8, k9⟩
   match i, k1, k3 with
   | 0, _, _ =>
    have := endH_succ (l := a :: t) (i := 0) (by rw [h1]; rfl) h3 h4
    show endH (a :: t) (((0 : Nat) : Int) + 1) ≤ q
    rw [this]
    exact k2
   | j + 1, _, k3 =>
    have := endH_cons (a := a) (l := t) (i := j)
    show endH (a :: t) (((j + 1 : Nat) : Int) + 1) ≤ q
    rw [show (((j + 1 : Nat) : Int) + 1) = (j : Int) + 1 + 1 by omega, this]
    rcases k3 with k3 | k3
    ·rw [show (((j + 1 : Nat) : Int)) = (j : Int) + 1 by omega] at k3
     exact k3
    ·omega
theorem chain_end {X : List Int} {l : List D} {e : Int} (h : Chain X 0 l e) : endH l l.length ≤ e := by
 cases l with
 | nil => simpa [endH, Chain] using h
 | cons a t =>
  obtain ⟨p, n, h1, h2, h3, h4, h5, h6, h7, h8, h9⟩ := chain_get (i := t.length) h (by simp)
  have := endH_succ h1 h4 h5
  rw [show (((a :: t).length : Nat) : Int) = (t.length : Int) + 1 by simp, this]
  exact h9
theorem body_id {y : List Int} (h : bodyI y = 1) : idI (prt y 16 (y.length - 4)) = prt y 0 16 := (body_iff.1 h).2
theorem ask_zero {X : List Int} {p n : Int} (h0 : 0 ≤ p) (h1 : 1 ≤ n) (h2 : p + n + 26 ≤ X.length) (h3 : sizeI (X.drop p.toNat) = n) (h4 : bodyI (prt X (p + 6) (p + n + 26)) = 1) : askI X p n (prt X (p + 6) (p + 22)) = 0 := by
 unfold askI
 rw [if_neg (by omega), h3, if_neg (by omega), if_pos ⟨h4, rfl⟩]

end Go.Proofs.YtidjfojcifjdjaaDoor.Ps4
