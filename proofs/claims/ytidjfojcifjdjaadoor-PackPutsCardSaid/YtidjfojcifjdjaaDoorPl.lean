/-
 Contracts of this seat: what loops and calls leave, for all inputs. No condition.
-/
import Derived.Test.YtidjfojcifjdjaaDoorSycp
import Derived.Test.YtidjfojcifjdjaaDoorCo
import Derived.Test.YtidjfojcifjdjaaDoorP0
import Derived.Test.YtidjfojcifjdjaaDoorPa
import Derived.Test.YtidjfojcifjdjaaDoorPm
set_option linter.unusedSimpArgs false
set_option linter.unusedVariables false
namespace Go.Proofs.YtidjfojcifjdjaaDoor.Pl
open Go.RowKit Go.Ev Go.Proofs.YtidjfojcifjdjaaDoor.Co

open Go.Proofs.YtidjfojcifjdjaaDoor.P0
open Go.Proofs.YtidjfojcifjdjaaDoor.Pa
open Go.Proofs.YtidjfojcifjdjaaDoor.Pm

theorem bvn (a : Nat) (h : a < 9223372036854775808) : BitVec.ofInt 64 (a : Int) = BitVec.ofNat 64 a ∧ (BitVec.ofNat 64 a).toNat = a := by
 refine ⟨by simp, ?_⟩
 rw [BitVec.toNat_ofNat, Nat.mod_eq_of_lt (by omega)]
theorem or_nat {a b : Nat} (ha : a < 9223372036854775808) (hb : b < 9223372036854775808) : iopI .or .i64 (a : Int) (b : Int) = ((a ||| b : Nat) : Int) := by
 show IntKind.i64.wrap ((BitVec.ofInt 64 (a : Int) ||| BitVec.ofInt 64 (b : Int)).toNat : Int) = _
 rw [(bvn a ha).1, (bvn b hb).1, BitVec.toNat_or, (bvn a ha).2, (bvn b hb).2, wrap_fit]
 simp only [i64min, i64max]
 have h1 : a ||| b < 2 ^ 63 := Nat.or_lt_two_pow (by omega) (by omega)
 have h2 : (2 : Nat) ^ 63 = 9223372036854775808 := by decide
 omega
theorem or_add {m b p : Nat} (k : Nat) (hp : p = 2 ^ k) (hb : b < p) (hm : m * p + b < 9223372036854775808) : iopI .or .i64 ((m * p : Nat) : Int) (b : Int) = ((m * p + b : Nat) : Int) := by
 rw [or_nat (by omega) (by omega)]
 subst hp
 have h := Nat.shiftLeft_add_eq_or_of_lt hb m
 rw [Nat.shiftLeft_eq] at h
 rw [h]
theorem or_a8 {m b : Int} (h0 : 0 ≤ m) (h1 : m ≤ 4503599627370496) (h2 : 0 ≤ b) (h3 : b ≤ 255) : iopI .or .i64 (m * 256) b = m * 256 + b := by
 obtain ⟨a, rfl⟩ := Int.eq_ofNat_of_zero_le h0
 obtain ⟨b, rfl⟩ := Int.eq_ofNat_of_zero_le h2
 have h := or_add (m := a) (b := b) (p := 256) 8 (by decide) (by omega) (by omega)
 rw [show ((a * 256 : Nat) : Int) = (a : Int) * 256 by omega, show ((a * 256 + b : Nat) : Int) = (a : Int) * 256 + b by omega] at h
 exact h
theorem or_a16 {m b : Int} (h0 : 0 ≤ m) (h1 : m ≤ 4503599627370496 / 256) (h2 : 0 ≤ b) (h3 : b ≤ 65535) : iopI .or .i64 (m * 65536) b = m * 65536 + b := by
 obtain ⟨a, rfl⟩ := Int.eq_ofNat_of_zero_le h0
 obtain ⟨b, rfl⟩ := Int.eq_ofNat_of_zero_le h2
 have h := or_add (m := a) (b := b) (p := 65536) 16 (by decide) (by omega) (by omega)
 rw [show ((a * 65536 : Nat) : Int) = (a : Int) * 65536 by omega, show ((a * 65536 + b : Nat) : Int) = (a : Int) * 65536 + b by omega] at h
 exact h
theorem or_a24 {m b : Int} (h0 : 0 ≤ m) (h1 : m ≤ 4503599627370496 / 65536) (h2 : 0 ≤ b) (h3 : b ≤ 16777215) : iopI .or .i64 (m * 16777216) b = m * 16777216 + b := by
 obtain ⟨a, rfl⟩ := Int.eq_ofNat_of_zero_le h0
 obtain ⟨b, rfl⟩ := Int.eq_ofNat_of_zero_le h2
 have h := or_add (m := a) (b := b) (p := 16777216) 24 (by decide) (by omega) (by omega)
 rw [show ((a * 16777216 : Nat) : Int) = (a : Int) * 16777216 by omega, show ((a * 16777216 + b : Nat) : Int) = (a : Int) * 16777216 + b by omega] at h
 exact h
theorem shlN {n : Int} (k : Nat) (q : Int) (hk : k ≤ 64) (hq : q = 2 ^ k) (h0 : 0 ≤ n) (h : n * q ≤ 9223372036854775807) : iopI .shl .i64 n (k : Int) = n * q := by
 show IntKind.i64.wrap (n * 2 ^ (min (k : Int).toNat 64)) = _
 rw [show min (k : Int).toNat 64 = k by omega, ← hq, wrap_fit]
 simp only [i64min, i64max]
 have hq0 : 0 ≤ q := by rw [hq]; exact Int.pow_nonneg (by omega)
 have := Int.mul_nonneg h0 hq0
 omega
theorem shl8 {n : Int} (h0 : 0 ≤ n) (h : n ≤ 1099511627776) : iopI .shl .i64 n 8 = n * 256 := shlN 8 256 (by omega) (by decide) h0 (by omega)
theorem shl16 {n : Int} (h0 : 0 ≤ n) (h : n ≤ 1099511627776) : iopI .shl .i64 n 16 = n * 65536 := shlN 16 65536 (by omega) (by decide) h0 (by omega)
theorem shl24 {n : Int} (h0 : 0 ≤ n) (h : n ≤ 1099511627776 / 16) : iopI .shl .i64 n 24 = n * 16777216 := shlN 24 16777216 (by omega) (by decide) h0 (by omega)
theorem or8 {n c : Int} (h0 : 0 ≤ n) (h1 : n ≤ 1099511627776) (h2 : 0 ≤ c) (h3 : c ≤ 255) : iopI .or .i64 (iopI .shl .i64 n 8) c = n * 256 + c := by
 rw [shl8 h0 h1]
 exact or_a8 h0 (by omega) h2 h3
theorem or0 {c : Int} (h2 : 0 ≤ c) (h3 : c ≤ 255) : iopI .or .i64 0 c = c := by
 have := or_a8 (m := 0) (b := c) (by omega) (by omega) h2 h3
 rw [Int.zero_mul, Int.zero_add] at this
 exact this
theorem or4 {a b c e : Int} (ha : 0 ≤ a ∧ a ≤ 255) (hb : 0 ≤ b ∧ b ≤ 255) (hc : 0 ≤ c ∧ c ≤ 255) (he : 0 ≤ e ∧ e ≤ 255) :
  iopI .or .i64 (iopI .or .i64 (iopI .or .i64 (iopI .shl .i64 a 24) (iopI .shl .i64 b 16)) (iopI .shl .i64 c 8)) e = ((a * 256 + b) * 256 + c) * 256 + e := by
 rw [shl24 ha.1 (by omega), shl16 hb.1 (by omega), shl8 hc.1 (by omega)]
 rw [or_a24 (m := a) (b := b * 65536) (by omega) (by omega) (by omega) (by omega), show a * 16777216 + b * 65536 = (a * 256 + b) * 65536 by omega, or_a16 (b := c * 256) (by omega) (by omega) (by omega) (by omega),
  show (a * 256 + b) * 65536 + c * 256 = ((a * 256 + b) * 256 + c) * 256 by omega, or_a8 (by omega) (by omega) he.1 he.2]
theorem sel_in {x : List Int} (h : ∀ c ∈ x, 0 ≤ c ∧ c ≤ 255) (n : Nat) : 0 ≤ (x[n]?).getD 0 ∧ (x[n]?).getD 0 ≤ 255 := by
 cases hn : x[n]? with
 | none => simp
 | some c => exact h c (List.mem_of_getElem? hn)
theorem prt_prt {x : List Int} {o l a b : Int} (h0 : 0 ≤ o) (ha : 0 ≤ a) (hab : a ≤ b) (hb : b ≤ l) : prt (prt x o (o + l)) a b = prt x (o + a) (o + b) := by
 unfold prt
 rw [List.take_drop, List.drop_drop, List.take_take]
 congr 1
 ·omega
 ·congr 1; omega
theorem good_iff {x : List Int} {o l : Int} (h0 : 0 ≤ o) (h4 : 5 ≤ l) (hl : o + l ≤ x.length) : goodI (prt x o (o + l)) = 1 ↔ (IntKind.u8.wrap (notI (moreI (notI 0) (prt x o (o + (l + -4))))) = (x[(o + (l + -4)).toNat]?).getD 0 ∧ IntKind.u8.wrap (iopI .shr .u32 (notI (moreI (notI 0) (prt x o (o + (l + -4))))) 8) = (x[(o + (l + -4) + 1).toNat]?).getD 0 ∧
  IntKind.u8.wrap (iopI .shr .u32 (notI (moreI (notI 0) (prt x o (o + (l + -4))))) 16) = (x[(o + (l + -4) + 2).toNat]?).getD 0 ∧ IntKind.u8.wrap (iopI .shr .u32 (notI (moreI (notI 0) (prt x o (o + (l + -4))))) 24) = (x[(o + (l + -4) + 3).toNat]?).getD 0) := by
 have hz := prt_length (x := x) (o := o) (t := o + l) h0 (by omega) hl
 have e0 : prt (prt x o (o + l)) 0 (((prt x o (o + l)).length : Int) - 4) = prt x o (o + (l + -4)) := by
  rw [hz, prt_prt h0 (by omega) (by omega) (by omega), Int.add_zero]
  congr 1; omega
 have e1 := prt_app (x := x) (o := o) (m := o + (l + -4)) (t := o + l) h0 (by omega) (by omega) hl
 rw [prt_step (x := x) (o := o + (l + -4)) (t := o + l) (by omega) (by omega) (by omega), prt_step (x := x) (o := o + (l + -4) + 1) (t := o + l) (by omega) (by omega) (by omega), show o + (l + -4) + 1 + 1 = o + (l + -4) + 2 by omega,
  prt_step (x := x) (o := o + (l + -4) + 2) (t := o + l) (by omega) (by omega) (by omega), show o + (l + -4) + 2 + 1 = o + (l + -4) + 3 by omega, prt_step (x := x) (o := o + (l + -4) + 3) (t := o + l) (by omega) (by omega) (by omega), prt_nil (x := x) (o := o + (l + -4) + 3 + 1) (t := o + l) (by omega) (by omega)] at e1
 unfold goodI
 rw [e0]
 generalize prt x o (o + (l + -4)) = A at *
 rw [e1]
 unfold putI le4 gsumI
 have key : ∀ (u v w z a b c e : Int), (A ++ [a, b, c, e] = A ++ [u, v, w, z]) ↔ (u = a ∧ v = b ∧ w = c ∧ z = e) := by
  intro u v w z a b c e
  rw [List.append_cancel_left_eq]
  simp only [List.cons.injEq, and_true]
  constructor <;> intro h <;> exact ⟨h.1.symm, h.2.1.symm, h.2.2.1.symm, h.2.2.2.symm⟩
 constructor
 ·intro h
  split at h
  ·rename_i h2; exact (key _ _ _ _ _ _ _ _).1 h2
  ·omega
 ·intro h
  rw [if_pos ((key _ _ _ _ _ _ _ _).2 h)]
theorem prt_bytes {x : List Int} {o t : Int} (h : ∀ c ∈ x, 0 ≤ c ∧ c ≤ 255) : ∀ c ∈ prt x o t, inK .u8 c := fun c hc => by
 have := h c (List.mem_of_mem_take (List.mem_of_mem_drop hc))
 simpa only [inK, u8min, u8max] using this
theorem rgood_iff {x : List Int} {o l : Int} (hx : ∀ c ∈ x, 0 ≤ c ∧ c ≤ 255) (h0 : 0 ≤ o) (h4 : 5 ≤ l) (hl : o + l ≤ x.length) : goodI (prt x o (o + l)) = 1 ↔ rputI (prt (prt x o (o + (l + -4))) 0 (0 + (l + -4))) = prt x o (o + l) := by
 have hz := prt_length (x := x) (o := o) (t := o + l) h0 (by omega) hl
 have e0 : prt (prt x o (o + l)) 0 (((prt x o (o + l)).length : Int) - 4) = prt x o (o + (l + -4)) := by
  rw [hz, prt_prt h0 (by omega) (by omega) (by omega), Int.add_zero]
  congr 1; omega
 have e2 : prt (prt x o (o + (l + -4))) 0 (0 + (l + -4)) = prt x o (o + (l + -4)) := by
  rw [prt_prt h0 (by omega) (by omega) (by omega), Int.add_zero, Int.zero_add]
 unfold goodI
 rw [e0, e2, rput_put (prt_bytes hx)]
 constructor
 ·intro h
  split at h
  ·rename_i h2; exact h2.symm
  ·omega
 ·intro h
  rw [if_pos h.symm]

theorem prt_at {x : List Int} {o t : Int} {j : Nat} (h0 : 0 ≤ o) (h : o + j < t) (h2 : t ≤ x.length) : ((prt x o t)[j]?).getD 0 = (x[(o + j).toNat]?).getD 0 := by
 unfold prt
 rw [List.getElem?_drop, List.getElem?_take, if_pos (by omega)]
 congr 2
 omega
theorem ext16 {l m : List Int} (hl : l.length = 16) (hm : m.length = 16) (h : ∀ j, j < 16 → (l[j]?).getD 0 = (m[j]?).getD 0) : l = m := by
 apply List.ext_getElem?
 intro j
 by_cases hj : j < 16
 ·have := h j hj
  rw [List.getElem?_eq_getElem (by omega), List.getElem?_eq_getElem (by omega)] at this ⊢
  simpa using this
 ·rw [List.getElem?_eq_none (by omega), List.getElem?_eq_none (by omega)]
theorem six {X : List Int} (h : 6 ≤ X.length) : X.take 6 = [(X[0]?).getD 0, (X[1]?).getD 0, (X[2]?).getD 0, (X[3]?).getD 0, (X[4]?).getD 0, (X[5]?).getD 0] := by
 match X, h with
 | a :: b :: c :: d :: e :: f :: r, _ => rfl
theorem head6 (n : Int) : headI n = [((headI n)[0]?).getD 0, ((headI n)[1]?).getD 0, ((headI n)[2]?).getD 0, ((headI n)[3]?).getD 0, ((headI n)[4]?).getD 0, ((headI n)[5]?).getD 0] := rfl
theorem size_if {X : List Int} (h : 6 ≤ X.length) : sizeI X = if 1 ≤ saysI X ∧ saysI X ≤ 1024 ∧ ((headI (saysI X))[0]?).getD 0 = (X[0]?).getD 0 ∧ ((headI (saysI X))[1]?).getD 0 = (X[1]?).getD 0 ∧ ((headI (saysI X))[2]?).getD 0 = (X[2]?).getD 0 ∧ ((headI (saysI X))[3]?).getD 0 = (X[3]?).getD 0 ∧ ((headI (saysI X))[4]?).getD 0 = (X[4]?).getD 0 ∧ ((headI (saysI X))[5]?).getD 0 = (X[5]?).getD 0 then saysI X else 0 := by
 unfold sizeI
 have e : (X.take 6 = headI (saysI X)) ↔ (((headI (saysI X))[0]?).getD 0 = (X[0]?).getD 0 ∧ ((headI (saysI X))[1]?).getD 0 = (X[1]?).getD 0 ∧ ((headI (saysI X))[2]?).getD 0 = (X[2]?).getD 0 ∧ ((headI (saysI X))[3]?).getD 0 = (X[3]?).getD 0 ∧ ((headI (saysI X))[4]?).getD 0 = (X[4]?).getD 0 ∧ ((headI (saysI X))[5]?).getD 0 = (X[5]?).getD 0) := by
  rw [six h, head6 (saysI X)]
  simp only [List.cons.injEq, and_true]
  constructor <;> intro hh <;> exact ⟨hh.1.symm, hh.2.1.symm, hh.2.2.1.symm, hh.2.2.2.1.symm, hh.2.2.2.2.1.symm, hh.2.2.2.2.2.symm⟩
 by_cases c : 1 ≤ saysI X ∧ saysI X ≤ 1024 ∧ X.take 6 = headI (saysI X)
 ·rw [if_pos ⟨by omega, c⟩, if_pos ⟨c.1, c.2.1, e.1 c.2.2⟩]
 ·rw [if_neg (fun hh => c hh.2), if_neg (fun hh => c ⟨hh.1, hh.2.1, e.2 hh.2.2⟩)]
theorem size_at {x : List Int} {o l p : Int} (h0 : 0 ≤ o) (hp : 0 ≤ p) (h6 : 6 ≤ l - p) (hl : o + l ≤ x.length) :
  sizeI (prt x (o + p) (o + l)) = if 1 ≤ (x[(o + p).toNat]?).getD 0 * 256 + (x[(o + p + 1).toNat]?).getD 0 ∧ (x[(o + p).toNat]?).getD 0 * 256 + (x[(o + p + 1).toNat]?).getD 0 ≤ 1024 ∧ ((headI ((x[(o + p).toNat]?).getD 0 * 256 + (x[(o + p + 1).toNat]?).getD 0))[0]?).getD 0 = (x[(o + p).toNat]?).getD 0 ∧
   ((headI ((x[(o + p).toNat]?).getD 0 * 256 + (x[(o + p + 1).toNat]?).getD 0))[1]?).getD 0 = (x[(o + p + 1).toNat]?).getD 0 ∧ ((headI ((x[(o + p).toNat]?).getD 0 * 256 + (x[(o + p + 1).toNat]?).getD 0))[2]?).getD 0 = (x[(o + p + 2).toNat]?).getD 0 ∧ ((headI ((x[(o + p).toNat]?).getD 0 * 256 + (x[(o + p + 1).toNat]?).getD 0))[3]?).getD 0 = (x[(o + p + 3).toNat]?).getD 0 ∧
   ((headI ((x[(o + p).toNat]?).getD 0 * 256 + (x[(o + p + 1).toNat]?).getD 0))[4]?).getD 0 = (x[(o + p + 4).toNat]?).getD 0 ∧ ((headI ((x[(o + p).toNat]?).getD 0 * 256 + (x[(o + p + 1).toNat]?).getD 0))[5]?).getD 0 = (x[(o + p + 5).toNat]?).getD 0
   then (x[(o + p).toNat]?).getD 0 * 256 + (x[(o + p + 1).toNat]?).getD 0 else 0 := by
 have hz := prt_length (x := x) (o := o + p) (t := o + l) (by omega) (by omega) (by omega)
 have a0 := prt_at (x := x) (o := o + p) (t := o + l) (j := 0) (by omega) (by omega) (by omega)
 have a1 := prt_at (x := x) (o := o + p) (t := o + l) (j := 1) (by omega) (by omega) (by omega)
 have a2 := prt_at (x := x) (o := o + p) (t := o + l) (j := 2) (by omega) (by omega) (by omega)
 have a3 := prt_at (x := x) (o := o + p) (t := o + l) (j := 3) (by omega) (by omega) (by omega)
 have a4 := prt_at (x := x) (o := o + p) (t := o + l) (j := 4) (by omega) (by omega) (by omega)
 have a5 := prt_at (x := x) (o := o + p) (t := o + l) (j := 5) (by omega) (by omega) (by omega)
 have hs : saysI (prt x (o + p) (o + l)) = (x[(o + p).toNat]?).getD 0 * 256 + (x[(o + p + 1).toNat]?).getD 0 := by
  unfold saysI
  rw [a0, a1]
  simp
 rw [size_if (by omega), hs, a0, a1, a2, a3, a4, a5]
 simp
theorem size_in (X : List Int) : 0 ≤ sizeI X ∧ sizeI X ≤ 1024 := by
 unfold sizeI
 split <;> omega
theorem idI_len {x : List Int} : (idI x).length = 16 := by
 simp [idI, sumI, outI]
theorem body_iff {y : List Int} : bodyI y = 1 ↔ goodI y = 1 ∧ idI (prt y 16 (y.length - 4)) = prt y 0 16 := by
 unfold bodyI
 split
 ·rename_i h; simp [h]
 ·rename_i h; simp [h]
theorem body_no {y : List Int} (h : ¬ bodyI y = 1) : bodyI y = 0 := by
 unfold bodyI at h ⊢
 split
 ·rename_i g; rw [if_pos g] at h; omega
 ·rfl
theorem size_yes {x : List Int} {o l p n : Int} (h0 : 0 ≤ o) (hp : 0 ≤ p) (h6 : 6 ≤ l - p) (hl : o + l ≤ x.length) (hn : n = (x[(o + p).toNat]?).getD 0 * 256 + (x[(o + p + 1).toNat]?).getD 0) (h : ¬ sizeI (prt x (o + p) (o + l)) = 0) :
  sizeI (prt x (o + p) (o + l)) = n ∧ 1 ≤ n ∧ n ≤ 1024 ∧ ((headI n)[0]?).getD 0 = (x[(o + p).toNat]?).getD 0 ∧ ((headI n)[1]?).getD 0 = (x[(o + p + 1).toNat]?).getD 0 ∧ ((headI n)[2]?).getD 0 = (x[(o + p + 2).toNat]?).getD 0 ∧ ((headI n)[3]?).getD 0 = (x[(o + p + 3).toNat]?).getD 0 ∧ ((headI n)[4]?).getD 0 = (x[(o + p + 4).toNat]?).getD 0 ∧ ((headI n)[5]?).getD 0 = (x[(o + p + 5).toNat]?).getD 0 := by
 have hz := size_at (x := x) h0 hp h6 hl
 rw [← hn] at hz
 split at hz
 ·rename_i c; exact ⟨hz, c⟩
 ·exact absurd hz h
theorem size_of {x : List Int} {o l p n : Int} (h0 : 0 ≤ o) (hp : 0 ≤ p) (h6 : 6 ≤ l - p) (hl : o + l ≤ x.length) (hn : n = (x[(o + p).toNat]?).getD 0 * 256 + (x[(o + p + 1).toNat]?).getD 0) (hx : ∀ c ∈ x, 0 ≤ c ∧ c ≤ 255) (h1 : 1 ≤ n) (h2 : n ≤ 1024) :
  (((headI n)[0]?).getD 0 = (x[(o + p).toNat]?).getD 0 ∧ ((headI n)[1]?).getD 0 = (x[(o + p + 1).toNat]?).getD 0) ∧ (((headI n)[2]?).getD 0 = (x[(o + p + 2).toNat]?).getD 0 → ((headI n)[3]?).getD 0 = (x[(o + p + 3).toNat]?).getD 0 → ((headI n)[4]?).getD 0 = (x[(o + p + 4).toNat]?).getD 0 → ((headI n)[5]?).getD 0 = (x[(o + p + 5).toNat]?).getD 0 → sizeI (prt x (o + p) (o + l)) = n) := by
 have hz := size_at (x := x) h0 hp h6 hl
 have b0 := sel_in hx (o + p).toNat
 have b1 := sel_in hx (o + p + 1).toNat
 have e0 : ((headI n)[0]?).getD 0 = (x[(o + p).toNat]?).getD 0 := by show n / 256 = _; omega
 have e1 : ((headI n)[1]?).getD 0 = (x[(o + p + 1).toNat]?).getD 0 := by show n % 256 = _; omega
 refine ⟨⟨e0, e1⟩, fun e2 e3 e4 e5 => ?_⟩
 rw [← hn] at hz
 rw [hz, if_pos ⟨h1, h2, e0, e1, e2, e3, e4, e5⟩]
theorem shr8 (n : Int) : iopI .shr .i64 n 8 = n / 256 := by
 show Int.fdiv n (2 ^ (min (8 : Int).toNat 64)) = n / 256
 rw [Int.fdiv_eq_ediv_of_nonneg _ (by decide)]
 rfl
theorem xor255 {c : Int} (h : 0 ≤ c ∧ c ≤ 255) : iopI .xor .u8 255 c = 255 - c := by
 obtain ⟨a, rfl⟩ := of8 h
 have h1 := xor_bv8 (BitVec.allOnes 8) a
 have h2 : ((BitVec.allOnes 8).toNat : Int) = 255 := rfl
 rw [BitVec.allOnes_xor, BitVec.toNat_not, h2] at h1
 have h3 := a.isLt
 omega
theorem wrapm {n : Int} (h : 0 ≤ n ∧ n ≤ 65535) : IntKind.u8.wrap n = n % 256 := by
 simp only [IntKind.wrap]
 first | rfl | (split <;> omega) | omega
theorem cut_get (x : D) (a b : Int) (k : Nat) : ((List.drop a.toNat (List.take b.toNat x.toList))[k]?.getD (D.int 0)).toInt = ((prt x.ints a b)[k]?).getD 0 := by
 have : ∀ (l : List D), (l[k]?.getD (D.int 0)).toInt = ((l.map D.toInt)[k]?).getD 0 := by
  intro l
  rw [List.getElem?_map]
  cases l[k]? <;> rfl
 rw [this, List.map_drop, List.map_take, map_ints]
 rfl
theorem cut_ints (x : D) (a b : Int) : D.ints (.list (List.drop a.toNat (List.take b.toNat x.toList))) = prt x.ints a b := ints_cut x a.toNat b.toNat
theorem cutp (x : List Int) (o m : Int) : List.drop (Int.toNat o) (List.take (Int.toNat m) x) = prt x o m := rfl

end Go.Proofs.YtidjfojcifjdjaaDoor.Pl

set_option linter.unusedSimpArgs false
set_option linter.unusedVariables false
namespace Go.Proofs.YtidjfojcifjdjaaDoor.Pn
open Go.RowKit Go.Ev Go.Proofs.YtidjfojcifjdjaaDoor.Co

open Go.Proofs.YtidjfojcifjdjaaDoor.P0
open Go.Proofs.YtidjfojcifjdjaaDoor.Pa
open Go.Proofs.YtidjfojcifjdjaaDoor.Pm
open Go.Proofs.YtidjfojcifjdjaaDoor.Pl
theorem seg_ofInts {l : List Int} {n : Nat} (h : l.length = n) : List.map (fun j => (D.ofInts l).toList[Int.toNat 0 + j]?.getD (D.int 0)) (List.range n) = (D.ofInts l).toList := by
 apply List.ext_getElem?
 intro j
 have hl : (D.ofInts l).toList.length = n := by simp [D.ofInts, h]
 by_cases hj : j < n
 ·rw [List.getElem?_map, List.getElem?_range hj, List.getElem?_eq_getElem (by omega)]
  simp only [Option.map_some, Option.some.injEq]
  rw [show Int.toNat 0 + j = j by simp, List.getElem?_eq_getElem (by omega)]
  rfl
 ·rw [List.getElem?_map, List.getElem?_eq_none (by simp; omega), List.getElem?_eq_none (by omega)]
  rfl
theorem rec_eq {X : List Int} {l : Int} (h : (X.length : Int) = l) : headI l ++ putI (prt (idI X ++ X) 0 (0 + (l + 16))) = recI X := by
 unfold recI
 rw [← h]
 congr 2
 have : (((idI X ++ X).length : Nat) : Int) = (X.length : Int) + 16 := by rw [List.length_append, idI_len]; omega
 rw [Int.zero_add, prt_all (by omega)]
theorem rec_len {X : List Int} : ((recI X).length : Int) = X.length + 26 := by
 simp only [recI, headI, headL, putI, le4, List.length_append, List.length_cons, List.length_nil, idI_len]
 omega
theorem idI_in {x : List Int} : ∀ c ∈ idI x, inK .u8 c := by
 intro c hc
 have h := List.mem_of_mem_take hc
 simp only [sumI, outI, List.mem_map] at h
 obtain ⟨i, _, rfl⟩ := h
 exact wrap_in .u8 _
theorem size_short {X : List Int} (h : X.length < 6) : sizeI X = 0 := by
 unfold sizeI
 rw [if_neg (by omega)]
theorem prt_drop0 {x : List Int} {o l p : Int} (h0 : 0 ≤ o) (hp : 0 ≤ p) (h : p ≤ l) : (prt x o (o + l)).drop p.toNat = prt x (o + p) (o + l) := by
 unfold prt
 rw [List.drop_drop]
 congr 1
 omega

end Go.Proofs.YtidjfojcifjdjaaDoor.Pn
