/-
 Contracts of this seat: what loops and calls leave, for all inputs. No condition.
-/
import Derived.Test.YtidpndnehbhloaaDoorSycp
import Derived.Test.YtidpndnehbhloaaDoorCo
import Derived.Test.YtidpndnehbhloaaDoorP0
import Derived.Test.YtidpndnehbhloaaDoorPa
import Derived.Test.YtidpndnehbhloaaDoorPm
set_option linter.unusedSimpArgs false
set_option linter.unusedVariables false
namespace Go.Proofs.YtidpndnehbhloaaDoor.Pl
open Go.RowKit Go.Ev Go.Proofs.YtidpndnehbhloaaDoor.Co

open Go.Proofs.YtidpndnehbhloaaDoor.P0
open Go.Proofs.YtidpndnehbhloaaDoor.Pa
open Go.Proofs.YtidpndnehbhloaaDoor.Pm

theorem bvn (a : Nat) (h : a < 9223372036854775808) : BitVec.ofInt 64 (a : Int) = BitVec.ofNat 64 a ∧ (BitVec.ofNat 64 a).toNat = a := by
 refine ⟨by simp, ?_⟩
 rw [BitVec.toNat_ofNat, Nat.mod_eq_of_lt (by omega)]
theorem or_nat {a b : Nat} (ha : a < 9223372036854775808) (hb : b < 9223372036854775808) : iopI .or .i64 (a : Int) (b : Int) = ((a ||| b : Nat) : Int) := by
 show IntKind.i64.wrap ((BitVec.ofInt 64 (a : Int) ||| BitVec.ofInt 64 (b : Int)).toNat : Int) = _
 rw [(bvn a ha).1, (bvn b hb).1, BitVec.toNat_or, (bvn a ha).2, (bvn b hb).2, wrap_fit]
 simp only [i64min, i64max]
 have h1 : a ||| b < 2 ^ 63 := Nat.or_lt_two_pow (by omega) (by omega)
 have h2 : (2 : Nat) ^ 63 = 9223372036854775808 := by decide
 omega
theorem or_add {m b p : Nat} (k : Nat) (hp : p = 2 ^ k) (hb : b < p) (hm : m * p + b < 9223372036854775808) : iopI .or .i64 ((m * p : Nat) : Int) (b : Int) = ((m * p + b : Nat) : Int) := by
 rw [or_nat (by omega) (by omega)]
 subst hp
 have h := Nat.shiftLeft_add_eq_or_of_lt hb m
 rw [Nat.shiftLeft_eq] at h
 rw [h]
theorem or_a8 {m b : Int} (h0 : 0 ≤ m) (h1 : m ≤ 4503599627370496) (h2 : 0 ≤ b) (h3 : b ≤ 255) : iopI .or .i64 (m * 256) b = m * 256 + b := by
 obtain ⟨a, rfl⟩ := Int.eq_ofNat_of_zero_le h0
 obtain ⟨b, rfl⟩ := Int.eq_ofNat_of_zero_le h2
 have h := or_add (m := a) (b := b) (p := 256) 8 (by decide) (by omega) (by omega)
 rw [show ((a * 256 : Nat) : Int) = (a : Int) * 256 by omega, show ((a * 256 + b : Nat) : Int) = (a : Int) * 256 + b by omega] at h
 exact h
theorem shlN {n : Int} (k : Nat) (q : Int) (hk : k ≤ 64) (hq : q = 2 ^ k) (h0 : 0 ≤ n) (h : n * q ≤ 9223372036854775807) : iopI .shl .i64 n (k : Int) = n * q := by
 show IntKind.i64.wrap (n * 2 ^ (min (k : Int).toNat 64)) = _
 rw [show min (k : Int).toNat 64 = k by omega, ← hq, wrap_fit]
 simp only [i64min, i64max]
 have hq0 : 0 ≤ q := by rw [hq]; exact Int.pow_nonneg (by omega)
 have := Int.mul_nonneg h0 hq0
 omega
theorem shl8 {n : Int} (h0 : 0 ≤ n) (h : n ≤ 1099511627776) : iopI .shl .i64 n 8 = n * 256 := shlN 8 256 (by omega) (by decide) h0 (by omega)
theorem or8 {n c : Int} (h0 : 0 ≤ n) (h1 : n ≤ 1099511627776) (h2 : 0 ≤ c) (h3 : c ≤ 255) : iopI .or .i64 (iopI .shl .i64 n 8) c = n * 256 + c := by
 rw [shl8 h0 h1]
 exact or_a8 h0 (by omega) h2 h3
theorem sel_in {x : List Int} (h : ∀ c ∈ x, 0 ≤ c ∧ c ≤ 255) (n : Nat) : 0 ≤ (x[n]?).getD 0 ∧ (x[n]?).getD 0 ≤ 255 := by
 cases hn : x[n]? with
 | none => simp
 | some c => exact h c (List.mem_of_getElem? hn)
theorem prt_prt {x : List Int} {o l a b : Int} (h0 : 0 ≤ o) (ha : 0 ≤ a) (hab : a ≤ b) (hb : b ≤ l) : prt (prt x o (o + l)) a b = prt x (o + a) (o + b) := by
 unfold prt
 rw [List.take_drop, List.drop_drop, List.take_take]
 congr 1
 ·omega
 ·congr 1; omega
theorem good_iff {x : List Int} {o l : Int} (h0 : 0 ≤ o) (h4 : 5 ≤ l) (hl : o + l ≤ x.length) : goodI (prt x o (o + l)) = 1 ↔ (IntKind.u8.wrap (notI (moreI (notI 0) (prt x o (o + (l + -4))))) = (x[(o + (l + -4)).toNat]?).getD 0 ∧ IntKind.u8.wrap (iopI .shr .u32 (notI (moreI (notI 0) (prt x o (o + (l + -4))))) 8) = (x[(o + (l + -4) + 1).toNat]?).getD 0 ∧
  IntKind.u8.wrap (iopI .shr .u32 (notI (moreI (notI 0) (prt x o (o + (l + -4))))) 16) = (x[(o + (l + -4) + 2).toNat]?).getD 0 ∧ IntKind.u8.wrap (iopI .shr .u32 (notI (moreI (notI 0) (prt x o (o + (l + -4))))) 24) = (x[(o + (l + -4) + 3).toNat]?).getD 0) := by
 have hz := prt_length (x := x) (o := o) (t := o + l) h0 (by omega) hl
 have e0 : prt (prt x o (o + l)) 0 (((prt x o (o + l)).length : Int) - 4) = prt x o (o + (l + -4)) := by
  rw [hz, prt_prt h0 (by omega) (by omega) (by omega), Int.add_zero]
  congr 1; omega
 have e1 := prt_app (x := x) (o := o) (m := o + (l + -4)) (t := o + l) h0 (by omega) (by omega) hl
 rw [prt_step (x := x) (o := o + (l + -4)) (t := o + l) (by omega) (by omega) (by omega), prt_step (x := x) (o := o + (l + -4) + 1) (t := o + l) (by omega) (by omega) (by omega), show o + (l + -4) + 1 + 1 = o + (l + -4) + 2 by omega,
  prt_step (x := x) (o := o + (l + -4) + 2) (t := o + l) (by omega) (by omega) (by omega), show o + (l + -4) + 2 + 1 = o + (l + -4) + 3 by omega, prt_step (x := x) (o := o + (l + -4) + 3) (t := o + l) (by omega) (by omega) (by omega), prt_nil (x := x) (o := o + (l + -4) + 3 + 1) (t := o + l) (by omega) (by omega)] at e1
 unfold goodI
 rw [e0]
 generalize prt x o (o + (l + -4)) = A at *
 rw [e1]
 unfold putI le4 gsumI
 have key : ∀ (u v w z a b c e : Int), (A ++ [a, b, c, e] = A ++ [u, v, w, z]) ↔ (u = a ∧ v = b ∧ w = c ∧ z = e) := by
  intro u v w z a b c e
  rw [List.append_cancel_left_eq]
  simp only [List.cons.injEq, and_true]
  constructor <;> intro h <;> exact ⟨h.1.symm, h.2.1.symm, h.2.2.1.symm, h.2.2.2.symm⟩
 constructor
 ·intro h
  split at h
  ·rename_i h2; exact (key _ _ _ _ _ _ _ _).1 h2
  ·omega
 ·intro h
  rw [if_pos ((key _ _ _ _ _ _ _ _).2 h)]
theorem prt_at {x : List Int} {o t : Int} {j : Nat} (h0 : 0 ≤ o) (h : o + j < t) (h2 : t ≤ x.length) : ((prt x o t)[j]?).getD 0 = (x[(o + j).toNat]?).getD 0 := by
 unfold prt
 rw [List.getElem?_drop, List.getElem?_take, if_pos (by omega)]
 congr 2
 omega
theorem ext16 {l m : List Int} (hl : l.length = 16) (hm : m.length = 16) (h : ∀ j, j < 16 → (l[j]?).getD 0 = (m[j]?).getD 0) : l = m := by
 apply List.ext_getElem?
 intro j
 by_cases hj : j < 16
 ·have := h j hj
  rw [List.getElem?_eq_getElem (by omega), List.getElem?_eq_getElem (by omega)] at this ⊢
  simpa using this
 ·rw [List.getElem?_eq_none (by omega), List.getElem?_eq_none (by omega)]
theorem six {X : List Int} (h : 6 ≤ X.length) : X.take 6 = [(X[0]?).getD 0, (X[1]?).getD 0, (X[2]?).getD 0, (X[3]?).getD 0, (X[4]?).getD 0, (X[5]?).getD 0] := by
 match X, h with
 | a :: b :: c :: d :: e :: f :: r, _ => rfl
theorem head6 (n : Int) : headI n = [((headI n)[0]?).getD 0, ((headI n)[1]?).getD 0, ((headI n)[2]?).getD 0, ((headI n)[3]?).getD 0, ((headI n)[4]?).getD 0, ((headI n)[5]?).getD 0] := rfl
theorem size_if {X : List Int} (h : 6 ≤ X.length) : sizeI X = if 1 ≤ saysI X ∧ saysI X ≤ 1024 ∧ ((headI (saysI X))[0]?).getD 0 = (X[0]?).getD 0 ∧ ((headI (saysI X))[1]?).getD 0 = (X[1]?).getD 0 ∧ ((headI (saysI X))[2]?).getD 0 = (X[2]?).getD 0 ∧ ((headI (saysI X))[3]?).getD 0 = (X[3]?).getD 0 ∧ ((headI (saysI X))[4]?).getD 0 = (X[4]?).getD 0 ∧ ((headI (saysI X))[5]?).getD 0 = (X[5]?).getD 0 then saysI X else 0 := by
 unfold sizeI
 have e : (X.take 6 = headI (saysI X)) ↔ (((headI (saysI X))[0]?).getD 0 = (X[0]?).getD 0 ∧ ((headI (saysI X))[1]?).getD 0 = (X[1]?).getD 0 ∧ ((headI (saysI X))[2]?).getD 0 = (X[2]?).getD 0 ∧ ((headI (saysI X))[3]?).getD 0 = (X[3]?).getD 0 ∧ ((headI (saysI X))[4]?).getD 0 = (X[4]?).getD 0 ∧ ((headI (saysI X))[5]?).getD 0 = (X[5]?).getD 0) := by
  rw [six h, head6 (saysI X)]
  simp only [List.cons.injEq, and_true]
  constructor <;> intro hh <;> exact ⟨hh.1.symm, hh.2.1.symm, hh.2.2.1.symm, hh.2.2.2.1.symm, hh.2.2.2.2.1.symm, hh.2.2.2.2.2.symm⟩
 by_cases c : 1 ≤ saysI X ∧ saysI X ≤ 1024 ∧ X.take 6 = headI (saysI X)
 ·rw [if_pos ⟨by omega, c⟩, if_pos ⟨c.1, c.2.1, e.1 c.2.2⟩]
 ·rw [if_neg (fun hh => c hh.2), if_neg (fun hh => c ⟨hh.1, hh.2.1, e.2 hh.2.2⟩)]
theorem size_at {x : List Int} {o l p : Int} (h0 : 0 ≤ o) (hp : 0 ≤ p) (h6 : 6 ≤ l - p) (hl : o + l ≤ x.length) :
  sizeI (prt x (o + p) (o + l)) = if 1 ≤ (x[(o + p).toNat]?).getD 0 * 256 + (x[(o + p + 1).toNat]?).getD 0 ∧ (x[(o + p).toNat]?).getD 0 * 256 + (x[(o + p + 1).toNat]?).getD 0 ≤ 1024 ∧ ((headI ((x[(o + p).toNat]?).getD 0 * 256 + (x[(o + p + 1).toNat]?).getD 0))[0]?).getD 0 = (x[(o + p).toNat]?).getD 0 ∧
   ((headI ((x[(o + p).toNat]?).getD 0 * 256 + (x[(o + p + 1).toNat]?).getD 0))[1]?).getD 0 = (x[(o + p + 1).toNat]?).getD 0 ∧ ((headI ((x[(o + p).toNat]?).getD 0 * 256 + (x[(o + p + 1).toNat]?).getD 0))[2]?).getD 0 = (x[(o + p + 2).toNat]?).getD 0 ∧ ((headI ((x[(o + p).toNat]?).getD 0 * 256 + (x[(o + p + 1).toNat]?).getD 0))[3]?).getD 0 = (x[(o + p + 3).toNat]?).getD 0 ∧
   ((headI ((x[(o + p).toNat]?).getD 0 * 256 + (x[(o + p + 1).toNat]?).getD 0))[4]?).getD 0 = (x[(o + p + 4).toNat]?).getD 0 ∧ ((headI ((x[(o + p).toNat]?).getD 0 * 256 + (x[(o + p + 1).toNat]?).getD 0))[5]?).getD 0 = (x[(o + p + 5).toNat]?).getD 0
   then (x[(o + p).toNat]?).getD 0 * 256 + (x[(o + p + 1).toNat]?).getD 0 else 0 := by
 have hz := prt_length (x := x) (o := o + p) (t := o + l) (by omega) (by omega) (by omega)
 have a0 := prt_at (x := x) (o := o + p) (t := o + l) (j := 0) (by omega) (by omega) (by omega)
 have a1 := prt_at (x := x) (o := o + p) (t := o + l) (j := 1) (by omega) (by omega) (by omega)
 have a2 := prt_at (x := x) (o := o + p) (t := o + l) (j := 2) (by omega) (by omega) (by omega)
 have a3 := prt_at (x := x) (o := o + p) (t := o + l) (j := 3) (by omega) (by omega) (by omega)
 have a4 := prt_at (x := x) (o := o + p) (t := o + l) (j := 4) (by omega) (by omega) (by omega)
 have a5 := prt_at (x := x) (o := o + p) (t := o + l) (j := 5) (by omega) (by omega) (by omega)
 have hs : saysI (prt x (o + p) (o + l)) = (x[(o + p).toNat]?).getD 0 * 256 + (x[(o + p + 1).toNat]?).getD 0 := by
  unfold saysI
  rw [a0, a1]
  simp
 rw [size_if (by omega), hs, a0, a1, a2, a3, a4, a5]
 simp
theorem size_in (X : List Int) : 0 ≤ sizeI X ∧ sizeI X ≤ 1024 := by
 unfold sizeI
 split <;> omega
theorem idI_len {x : List Int} : (idI x).length = 16 := by
 simp [idI, sumI, outI]
theorem body_iff {y : List Int} : bodyI y = 1 ↔ goodI y = 1 ∧ idI (prt y 16 (y.length - 4)) = prt y 0 16 := by
 unfold bodyI
 split
 ·rename_i h; simp [h]
 ·rename_i h; simp [h]
theorem size_yes {x : List Int} {o l p n : Int} (h0 : 0 ≤ o) (hp : 0 ≤ p) (h6 : 6 ≤ l - p) (hl : o + l ≤ x.length) (hn : n = (x[(o + p).toNat]?).getD 0 * 256 + (x[(o + p + 1).toNat]?).getD 0) (h : ¬ sizeI (prt x (o + p) (o + l)) = 0) :
  sizeI (prt x (o + p) (o + l)) = n ∧ 1 ≤ n ∧ n ≤ 1024 ∧ ((headI n)[0]?).getD 0 = (x[(o + p).toNat]?).getD 0 ∧ ((headI n)[1]?).getD 0 = (x[(o + p + 1).toNat]?).getD 0 ∧ ((headI n)[2]?).getD 0 = (x[(o + p + 2).toNat]?).getD 0 ∧ ((headI n)[3]?).getD 0 = (x[(o + p + 3).toNat]?).getD 0 ∧ ((headI n)[4]?).getD 0 = (x[(o + p + 4).toNat]?).getD 0 ∧ ((headI n)[5]?).getD 0 = (x[(o + p + 5).toNat]?).getD 0 := by
 have hz := size_at (x := x) h0 hp h6 hl
 rw [← hn] at hz
 split at hz
 ·rename_i c; exact ⟨hz, c⟩
 ·exact absurd hz h
theorem size_of {x : List Int} {o l p n : Int} (h0 : 0 ≤ o) (hp : 0 ≤ p) (h6 : 6 ≤ l - p) (hl : o + l ≤ x.length) (hn : n = (x[(o + p).toNat]?).getD 0 * 256 + (x[(o + p + 1).toNat]?).getD 0) (hx : ∀ c ∈ x, 0 ≤ c ∧ c ≤ 255) (h1 : 1 ≤ n) (h2 : n ≤ 1024) :
  (((headI n)[0]?).getD 0 = (x[(o + p).toNat]?).getD 0 ∧ ((headI n)[1]?).getD 0 = (x[(o + p + 1).toNat]?).getD 0) ∧ (((headI n)[2]?).getD 0 = (x[(o + p + 2).toNat]?).getD 0 → ((headI n)[3]?).getD 0 = (x[(o + p + 3).toNat]?).getD 0 → ((headI n)[4]?).getD 0 = (x[(o + p + 4).toNat]?).getD 0 → ((headI n)[5]?).getD 0 = (x[(o + p + 5).toNat]?).getD 0 → sizeI (prt x (o + p) (o + l)) = n) := by
 have hz := size_at (x := x) h0 hp h6 hl
 have b0 := sel_in hx (o + p).toNat
 have b1 := sel_in hx (o + p + 1).toNat
 have e0 : ((headI n)[0]?).getD 0 = (x[(o + p).toNat]?).getD 0 := by show n / 256 = _; omega
 have e1 : ((headI n)[1]?).getD 0 = (x[(o + p + 1).toNat]?).getD 0 := by show n % 256 = _; omega
 refine ⟨⟨e0, e1⟩, fun e2 e3 e4 e5 => ?_⟩
 rw [← hn] at hz
 rw [hz, if_pos ⟨h1, h2, e0, e1, e2, e3, e4, e5⟩]
theorem shr8 (n : Int) : iopI .shr .i64 n 8 = n / 256 := by
 show Int.fdiv n (2 ^ (min (8 : Int).toNat 64)) = n / 256
 rw [Int.fdiv_eq_ediv_of_nonneg _ (by decide)]
 rfl
theorem xor255 {c : Int} (h : 0 ≤ c ∧ c ≤ 255) : iopI .xor .u8 255 c = 255 - c := by
 obtain ⟨a, rfl⟩ := of8 h
 have h1 := xor_bv8 (BitVec.allOnes 8) a
 have h2 : ((BitVec.allOnes 8).toNat : Int) = 255 := rfl
 rw [BitVec.allOnes_xor, BitVec.toNat_not, h2] at h1
 have h3 := a.isLt
 omega
theorem wrapm {n : Int} (h : 0 ≤ n ∧ n ≤ 65535) : IntKind.u8.wrap n = n % 256 := by
 simp only [IntKind.wrap]
 first | rfl | (split <;> omega) | omega
theorem cut_get (x : D) (a b : Int) (k : Nat) : ((List.drop a.toNat (List.take b.toNat x.toList))[k]?.getD (D.int 0)).toInt = ((prt x.ints a b)[k]?).getD 0 := by
 have : ∀ (l : List D), (l[k]?.getD (D.int 0)).toInt = ((l.map D.toInt)[k]?).getD 0 := by
  intro l
  rw [List.getElem?_map]
  cases l[k]? <;> rfl
 rw [this, List.map_drop, List.map_take, map_ints]
 rfl
theorem cutp (x : List Int) (o m : Int) : List.drop (Int.toNat o) (List.take (Int.toNat m) x) = prt x o m := rfl

end Go.Proofs.YtidpndnehbhloaaDoor.Pl

set_option linter.unusedSimpArgs false
set_option linter.unusedVariables false
namespace Go.Proofs.YtidpndnehbhloaaDoor.Pn
open Go.RowKit Go.Ev Go.Proofs.YtidpndnehbhloaaDoor.Co

open Go.Proofs.YtidpndnehbhloaaDoor.P0
open Go.Proofs.YtidpndnehbhloaaDoor.Pa
open Go.Proofs.YtidpndnehbhloaaDoor.Pm
open Go.Proofs.YtidpndnehbhloaaDoor.Pl
theorem seg_ofInts {l : List Int} {n : Nat} (h : l.length = n) : List.map (fun j => (D.ofInts l).toList[Int.toNat 0 + j]?.getD (D.int 0)) (List.range n) = (D.ofInts l).toList := by
 apply List.ext_getElem?
 intro j
 have hl : (D.ofInts l).toList.length = n := by simp [D.ofInts, h]
 by_cases hj : j < n
 ·rw [List.getElem?_map, List.getElem?_range hj, List.getElem?_eq_getElem (by omega)]
  simp only [Option.map_some, Option.some.injEq]
  rw [show Int.toNat 0 + j = j by simp, List.getElem?_eq_getElem (by omega)]
  rfl
 ·rw [List.getElem?_map, List.getElem?_eq_none (by simp; omega), List.getElem?_eq_none (by omega)]
  rfl
theorem rec_eq {X : List Int} {l : Int} (h : (X.length : Int) = l) : headI l ++ putI (prt (idI X ++ X) 0 (0 + (l + 16))) = recI X := by
 unfold recI
 rw [← h]
 congr 2
 have : (((idI X ++ X).length : Nat) : Int) = (X.length : Int) + 16 := by rw [List.length_append, idI_len]; omega
 rw [Int.zero_add, prt_all (by omega)]
theorem rec_len {X : List Int} : ((recI X).length : Int) = X.length + 26 := by
 simp only [recI, headI, headL, putI, le4, List.length_append, List.length_cons, List.length_nil, idI_len]
 omega
theorem prt_drop0 {x : List Int} {o l p : Int} (h0 : 0 ≤ o) (hp : 0 ≤ p) (h : p ≤ l) : (prt x o (o + l)).drop p.toNat = prt x (o + p) (o + l) := by
 unfold prt
 rw [List.drop_drop]
 congr 1
 omega

end Go.Proofs.YtidpndnehbhloaaDoor.Pn

set_option linter.unusedSimpArgs false
set_option linter.unusedVariables false
namespace Go.Proofs.YtidpndnehbhloaaDoor.Pt3
open Go.RowKit Go.Ev Go.Proofs.YtidpndnehbhloaaDoor.Co

open Go.Proofs.YtidpndnehbhloaaDoor.P0
open Go.Proofs.YtidpndnehbhloaaDoor.Pa
open Go.Proofs.YtidpndnehbhloaaDoor.Pm
open Go.Proofs.YtidpndnehbhloaaDoor.Pl
open Go.Proofs.YtidpndnehbhloaaDoor.Pn
theorem seg_len (x : List Int) : (List.take 16 (segI x (Int.toNat 0) (Int.toNat 16))).length = 16 := by
 simp [segI]
theorem seg_at (x : List Int) (j : Nat) (h : j < 16) : ((List.take 16 (segI x (Int.toNat 0) (Int.toNat 16)))[j]?).getD 0 = (x[j]?).getD 0 := by
 rw [List.getElem?_take, if_pos h]
 unfold segI
 rw [List.getElem?_map, List.getElem?_range (by exact h)]
 simp
theorem ask_at {x : List Int} {o l p n : Int} {id : List Int} (h0 : 0 ≤ o) (h1 : 0 ≤ l) (hl : o + l ≤ x.length) :
  askI (prt x o (o + l)) p n id = if p < 0 ∨ l < p then 6 else if sizeI (prt x (o + p) (o + l)) = 0 ∨ sizeI (prt x (o + p) (o + l)) ≠ n ∨ l - p < n + 26 then 6 else if bodyI (prt x (o + (p + 6)) (o + (p + 6) + (n + 20))) = 1 ∧ prt x (o + (p + 6)) (o + (p + 6) + 16) = id then 0 else 11 := by
 have hz := prt_length (x := x) (o := o) (t := o + l) h0 (by omega) hl
 unfold askI
 rw [hz, show o + l - o = l by omega]
 by_cases c : p < 0 ∨ l < p
 ·rw [if_pos c, if_pos c]
 ·rw [if_neg c, if_neg c, prt_drop0 h0 (by omega) (by omega)]
  by_cases c2 : sizeI (prt x (o + p) (o + l)) = 0 ∨ sizeI (prt x (o + p) (o + l)) ≠ n ∨ l - p < n + 26
  ·rw [if_pos c2, if_pos c2]
  ·have := size_in (prt x (o + p) (o + l))
   rw [if_neg c2, if_neg c2, prt_prt h0 (by omega) (by omega) (by omega), prt_prt h0 (by omega) (by omega) (by omega)]
   rw [show o + (p + n + 26) = o + (p + 6) + (n + 20) by omega, show o + (p + 22) = o + (p + 6) + 16 by omega]

end Go.Proofs.YtidpndnehbhloaaDoor.Pt3

set_option linter.unusedSimpArgs false
set_option linter.unusedVariables false
namespace Go.Proofs.YtidpndnehbhloaaDoor.Ps4
open Go.RowKit Go.Ev Go.Proofs.YtidpndnehbhloaaDoor.Co

open Go.Proofs.YtidpndnehbhloaaDoor.P0
open Go.Proofs.YtidpndnehbhloaaDoor.Pa
open Go.Proofs.YtidpndnehbhloaaDoor.Pm
open Go.Proofs.YtidpndnehbhloaaDoor.Pl
open Go.Proofs.YtidpndnehbhloaaDoor.Pn
theorem scanN_le (x : List Int) : ∀ (f g : Nat) (p : Int), 0 ≤ p → (x.length : Int) - p < f → (x.length : Int) - p < g → scanN f x p = scanN g x p
 | 0, 0, _, _, _, _ => rfl
 | 0, g + 1, p, h0, h1, h2 => by
  simp only [scanN]
  rw [if_pos (by omega)]
 | f + 1, 0, p, h0, h1, h2 => by
  simp only [scanN]
  rw [if_pos (by omega)]
 | f + 1, g + 1, p, h0, h1, h2 => by
  have hq := size_in (x.drop p.toNat)
  simp only [scanN]
  by_cases c : (x.length : Int) ≤ p
  ·rw [if_pos c, if_pos c]
  ·rw [scanN_le x f g (p + sizeI (x.drop p.toNat) + 26) (by omega) (by omega) (by omega)]
theorem scan_step {x : List Int} {p : Int} (h0 : 0 ≤ p) : scanI x p = if (x.length : Int) ≤ p then ⟨[], p, 0, 0⟩ else if (x.length : Int) - p < 6 then ⟨[], p, 0, 1⟩ else if sizeI (x.drop p.toNat) = 0 then ⟨[], p, 0, 2⟩ else if (x.length : Int) - p < sizeI (x.drop p.toNat) + 26 then ⟨[], p, 0, 3⟩ else
  if bodyI (prt x (p + 6) (p + sizeI (x.drop p.toNat) + 26)) = 1 then ⟨heldD x p (sizeI (x.drop p.toNat)) :: (scanI x (p + sizeI (x.drop p.toNat) + 26)).l, (scanI x (p + sizeI (x.drop p.toNat) + 26)).size, (scanI x (p + sizeI (x.drop p.toNat) + 26)).bad, (scanI x (p + sizeI (x.drop p.toNat) + 26)).rest⟩
  else ⟨(scanI x (p + sizeI (x.drop p.toNat) + 26)).l, (scanI x (p + sizeI (x.drop p.toNat) + 26)).size, (scanI x (p + sizeI (x.drop p.toNat) + 26)).bad + 1, (scanI x (p + sizeI (x.drop p.toNat) + 26)).rest⟩ := by
 have hq := size_in (x.drop p.toNat)
 unfold scanI
 rw [scanN_le x (x.length + 1) (x.length + 1 + 1) p h0 (by omega) (by omega)]
 rw [scanN]
theorem scan_at {x : List Int} {o l p n : Int} (h0 : 0 ≤ o) (hl : o + l ≤ x.length) (hp : 0 ≤ p) (hn : sizeI (prt x (o + p) (o + l)) = n) (h : p ≤ l) : scanI (prt x o (o + l)) p = if l ≤ p then ⟨[], p, 0, 0⟩ else if l - p < 6 then ⟨[], p, 0, 1⟩ else if n = 0 then ⟨[], p, 0, 2⟩ else if l - p < n + 26 then ⟨[], p, 0, 3⟩ else
  if bodyI (prt x (o + (p + 6)) (o + (p + 6) + (n + 20))) = 1 then ⟨.list [D.ofInts (prt x (o + (p + 6)) (o + (p + 6) + 16)), .int p, .int n] :: (scanI (prt x o (o + l)) (p + (n + 26))).l, (scanI (prt x o (o + l)) (p + (n + 26))).size, (scanI (prt x o (o + l)) (p + (n + 26))).bad, (scanI (prt x o (o + l)) (p + (n + 26))).rest⟩
  else ⟨(scanI (prt x o (o + l)) (p + (n + 26))).l, (scanI (prt x o (o + l)) (p + (n + 26))).size, (scanI (prt x o (o + l)) (p + (n + 26))).bad + 1, (scanI (prt x o (o + l)) (p + (n + 26))).rest⟩ := by
 have hz := prt_length (x := x) (o := o) (t := o + l) h0 (by omega) hl
 have hq := size_in (prt x (o + p) (o + l))
 rw [scan_step hp, hz, show o + l - o = l by omega, prt_drop0 h0 hp h, hn]
 by_cases c : l ≤ p
 ·rw [if_pos c, if_pos c]
 rw [if_neg c, if_neg c]
 by_cases c1 : l - p < 6
 ·rw [if_pos c1, if_pos c1]
 rw [if_neg c1, if_neg c1]
 by_cases c2 : n = 0
 ·rw [if_pos c2, if_pos c2]
 rw [if_neg c2, if_neg c2]
 by_cases c3 : l - p < n + 26
 ·rw [if_pos c3, if_pos c3]
 rw [if_neg c3, if_neg c3, prt_prt h0 (by omega) (by omega) (by omega)]
 unfold heldD
 rw [prt_prt h0 (by omega) (by omega) (by omega)]
 rw [show o + (p + n + 26) = o + (p + 6) + (n + 20) by omega, show o + (p + 22) = o + (p + 6) + 16 by omega, show p + n + 26 = p + (n + 26) by omega]
theorem ofInts16 {l : List Int} (h : l.length = 16) : D.ofInts l = .list [.int ((l[0]?).getD 0), .int ((l[1]?).getD 0), .int ((l[2]?).getD 0), .int ((l[3]?).getD 0), .int ((l[4]?).getD 0), .int ((l[5]?).getD 0), .int ((l[6]?).getD 0), .int ((l[7]?).getD 0), .int ((l[8]?).getD 0), .int ((l[9]?).getD 0), .int ((l[10]?).getD 0), .int ((l[11]?).getD 0), .int ((l[12]?).getD 0), .int ((l[13]?).getD 0), .int ((l[14]?).getD 0), .int ((l[15]?).getD 0)] := by
 match l, h with
 | [_, _, _, _, _, _, _, _, _, _, _, _, _, _, _, _], _ => rfl
theorem scan_in (x : List Int) : ∀ (f : Nat) (p : Int), 0 ≤ p → p ≤ x.length → p ≤ (scanN f x p).size ∧ (scanN f x p).size ≤ x.length ∧ 0 ≤ (scanN f x p).bad ∧ (scanN f x p).bad ≤ (scanN f x p).size - p ∧ 0 ≤ (scanN f x p).rest ∧ (scanN f x p).rest ≤ 3 ∧ ((scanN f x p).l.length : Int) ≤ (scanN f x p).size - p
 | 0, p, h0, h => by simp [scanN]; omega
 | f + 1, p, h0, h => by
  have hq := size_in (x.drop p.toNat)
  simp only [scanN]
  split
  ·simp; omega
  split
  ·simp; omega
  split
  ·simp; omega
  split
  ·simp; omega
  rename_i c0 c1 c2 c3
  have ih := scan_in x f (p + sizeI (x.drop p.toNat) + 26) (by omega) (by omega)
  split
  ·simp only [List.length_cons]; omega
  ·simp only; omega
theorem scanI_in {x : List Int} {o l p : Int} (h0 : 0 ≤ o) (hl : o + l ≤ x.length) (hp : 0 ≤ p) (h : p ≤ l) : p ≤ (scanI (prt x o (o + l)) p).size ∧ (scanI (prt x o (o + l)) p).size ≤ l ∧ 0 ≤ (scanI (prt x o (o + l)) p).bad ∧ (scanI (prt x o (o + l)) p).bad ≤ (scanI (prt x o (o + l)) p).size - p ∧ 0 ≤ (scanI (prt x o (o + l)) p).rest ∧ (scanI (prt x o (o + l)) p).rest ≤ 3 ∧ ((scanI (prt x o (o + l)) p).l.length : Int) ≤ (scanI (prt x o (o + l)) p).size - p := by
 have hz := prt_length (x := x) (o := o) (t := o + l) h0 (by omega) hl
 have := scan_in (prt x o (o + l)) ((prt x o (o + l)).length + 1) p hp (by omega)
 unfold scanI
 omega
theorem list_toList {x : D} (h : 1 ≤ x.toList.length) : D.list x.toList = x := by
 cases x with
 | int n => simp [D.toList] at h
 | list l => rfl
theorem canon16 {x : D} (h : x.code = (D.ofInts (x.ints ++ List.replicate ((56 - (56 : Int)) % 64).toNat 0)).code) : x = D.ofInts x.ints := by
 have := D.code_eq h
 rw [show ((56 - (56 : Int)) % 64).toNat = 0 from rfl] at this
 simpa using this
theorem canon0 {x : D} {n : Int} (h : x.code = (D.int n).code) : x = D.int n := D.code_eq h
theorem cut_getD {x : D} (h : x = D.ofInts x.ints) (a b : Int) (k : Nat) : (List.drop a.toNat (List.take b.toNat x.toList))[k]?.getD (D.int 0) = D.int (((prt x.ints a b)[k]?).getD 0) := by
 have e : x.toList = x.ints.map D.int := by
  conv => lhs; rw [h]
  simp [D.ofInts]
 rw [e, ← List.map_take, ← List.map_drop, List.getElem?_map]
 show _ = D.int ((((List.drop a.toNat (List.take b.toNat x.ints))[k]?)).getD 0)
 cases (List.drop a.toNat (List.take b.toNat x.ints))[k]? <;> rfl
theorem len_toL (x : D) : x.toList.length = x.ints.length := by simp [D.ints]
end Go.Proofs.YtidpndnehbhloaaDoor.Ps4

set_option linter.unusedSimpArgs false
set_option linter.unusedVariables false
namespace Go.Proofs.YtidpndnehbhloaaDoor.Yl
open Go.RowKit Go.Ev Go.Proofs.YtidpndnehbhloaaDoor.Co

open Go.Proofs.YtidpndnehbhloaaDoor.P0
open Go.Proofs.YtidpndnehbhloaaDoor.Pa
open Go.Proofs.YtidpndnehbhloaaDoor.Pm
open Go.Proofs.YtidpndnehbhloaaDoor.Pl
open Go.Proofs.YtidpndnehbhloaaDoor.Pn
open Go.Proofs.YtidpndnehbhloaaDoor.Ps4
theorem head_len (n : Int) : (headI n).length = 6 := rfl
theorem rec_says {c Y : List Int} (h1 : 1 ≤ c.length) (h2 : c.length ≤ 1024) : sizeI (recI c ++ Y) = c.length := by
 have hs : saysI (recI c ++ Y) = c.length := by
  show ((c.length : Int) / 256) * 256 + (c.length : Int) % 256 = _
  omega
 have ht : (recI c ++ Y).take 6 = headI c.length := rfl
 have hl := rec_len (X := c)
 unfold sizeI
 rw [hs, ht, if_pos ⟨by rw [List.length_append]; omega, by omega, by omega, rfl⟩]
theorem prt_mid {P B Y : List Int} {o t : Int} (ho : o = P.length) (ht : t = o + B.length) : prt (P ++ (B ++ Y)) o t = B := by
 unfold prt
 subst ho
 rw [ht, show ((P.length : Int) + B.length).toNat = P.length + B.length by omega, show ((P.length : Int)).toNat = P.length by omega, List.take_append, List.take_of_length_le (by omega), show P.length + B.length - P.length = B.length by omega, List.take_append, List.take_length, Nat.sub_self, List.take_zero, List.append_nil, List.drop_append, List.drop_length, Nat.sub_self, List.drop_zero, List.nil_append]
theorem put_len (z : List Int) : (putI z).length = z.length + 4 := by simp [putI, le4]
theorem good_put (z : List Int) : goodI (putI z) = 1 := by
 have e : prt (putI z) 0 (((putI z).length : Int) - 4) = z := by
  have := prt_mid (P := []) (B := z) (Y := le4 (gsumI z)) (o := 0) (t := ((putI z).length : Int) - 4) rfl (by rw [put_len]; omega)
  exact this
 unfold goodI
 rw [e, if_pos rfl]
theorem body_put (c : List Int) : bodyI (putI (idI c ++ c)) = 1 := by
 have hl := put_len (idI c ++ c)
 rw [List.length_append, idI_len] at hl
 have e1 : prt (putI (idI c ++ c)) 16 (((putI (idI c ++ c)).length : Int) - 4) = c := by
  have := prt_mid (P := idI c) (B := c) (Y := le4 (gsumI (idI c ++ c))) (o := 16) (t := ((putI (idI c ++ c)).length : Int) - 4) (by rw [idI_len]; rfl) (by omega)
  unfold putI at this ⊢
  rw [List.append_assoc] at this ⊢
  exact this
 have e2 : prt (putI (idI c ++ c)) 0 16 = idI c := by
  have := prt_mid (P := []) (B := idI c) (Y := c ++ le4 (gsumI (idI c ++ c))) (o := 0) (t := 16) rfl (by rw [idI_len]; rfl)
  unfold putI
  rw [List.append_assoc]
  exact this
 exact body_iff.2 ⟨good_put _, by rw [e1, e2]⟩
theorem scan_rec {P c Y : List Int} (h1 : 1 ≤ c.length) (h2 : c.length ≤ 1024) :
  scanI (P ++ (recI c ++ Y)) P.length = ⟨.list [D.ofInts (idI c), .int P.length, .int c.length] :: (scanI (P ++ (recI c ++ Y)) (P.length + (c.length + 26))).l, (scanI (P ++ (recI c ++ Y)) (P.length + (c.length + 26))).size, (scanI (P ++ (recI c ++ Y)) (P.length + (c.length + 26))).bad, (scanI (P ++ (recI c ++ Y)) (P.length + (c.length + 26))).rest⟩ := by
 have hr := rec_len (X := c)
 have hl : (((P ++ (recI c ++ Y)).length : Nat) : Int) = P.length + (c.length + 26) + Y.length := by rw [List.length_append, List.length_append]; omega
 have hd : (P ++ (recI c ++ Y)).drop P.length = recI c ++ Y := by simp
 have hb : prt (P ++ (recI c ++ Y)) (P.length + 6) (P.length + c.length + 26) = putI (idI c ++ c) := by
  have := prt_mid (P := P ++ headI c.length) (B := putI (idI c ++ c)) (Y := Y) (o := P.length + 6) (t := P.length + c.length + 26) (by rw [List.length_append, head_len]; omega) (by rw [put_len, List.length_append, idI_len]; omega)
  unfold recI
  simp only [List.append_assoc] at *
  exact this
 have hi : prt (P ++ (recI c ++ Y)) (P.length + 6) (P.length + 22) = idI c := by
  have := prt_mid (P := P ++ headI c.length) (B := idI c) (Y := c ++ le4 (gsumI (idI c ++ c)) ++ Y) (o := P.length + 6) (t := P.length + 22) (by rw [List.length_append, head_len]; omega) (by rw [idI_len]; omega)
  unfold recI putI
  simp only [List.append_assoc] at *
  exact this
 rw [scan_step (by omega), if_neg (by omega), if_neg (by omega), show ((P.length : Int)).toNat = P.length by omega, hd, rec_says h1 h2, if_neg (by omega), if_neg (by omega), hb, if_pos (body_put c)]
 unfold heldD
 rw [hi, show (P.length : Int) + c.length + 26 = P.length + (c.length + 26) by omega]
def fitP (ds : List D) : Prop := ∀ x ∈ ds, 1 ≤ x.toList.length ∧ x.toList.length ≤ 1024
theorem recs_len : ∀ (ds : List D), ((recsI ds).length : Int) = lensI ds + 26 * ds.length
 | [] => rfl
 | x :: l => by
  have := recs_len l
  have hr := rec_len (X := x.ints)
  have e : x.ints.length = x.toList.length := by simp [D.ints]
  simp only [recsI, lensI, List.length_append, List.length_cons]
  omega
theorem scan_recs : ∀ (ds : List D) (P Y : List Int), fitP ds → scanI (P ++ (recsI ds ++ Y)) P.length = ⟨heldsI P.length ds ++ (scanI (P ++ (recsI ds ++ Y)) (P.length + (recsI ds).length)).l, (scanI (P ++ (recsI ds ++ Y)) (P.length + (recsI ds).length)).size, (scanI (P ++ (recsI ds ++ Y)) (P.length + (recsI ds).length)).bad, (scanI (P ++ (recsI ds ++ Y)) (P.length + (recsI ds).length)).rest⟩
 | [], P, Y, _ => by simp [recsI, heldsI]
 | x :: l, P, Y, h => by
  have hx := h x (by simp)
  have e : x.ints.length = x.toList.length := by simp [D.ints]
  have hr := rec_len (X := x.ints)
  have ih := scan_recs l (P ++ recI x.ints) Y fun y hy => h y (by simp [hy])
  have h1 := scan_rec (P := P) (c := x.ints) (Y := recsI l ++ Y) (by omega) (by omega)
  have ea : P ++ recI x.ints ++ (recsI l ++ Y) = P ++ (recI x.ints ++ (recsI l ++ Y)) := by simp
  have el : (((P ++ recI x.ints).length : Nat) : Int) = P.length + (x.ints.length + 26) := by rw [List.length_append]; omega
  rw [ea, el] at ih
  have eb : recsI (x :: l) ++ Y = recI x.ints ++ (recsI l ++ Y) := by simp [recsI]
  rw [eb, h1, ih]
  have ec : (P.length : Int) + (x.ints.length + 26) + (recsI l).length = P.length + (recsI (x :: l)).length := by
   simp only [recsI, List.length_append]; omega
  rw [ec]
  simp only [heldsI, List.cons_append]
  rw [← e]
theorem head_turned {n : Int} {H Z : List Int} {k : Nat} (hk : k < 6) (hl : H.length = 6) (hn : 0 ≤ n ∧ n ≤ 65535) (hne : (H[k]?).getD 0 ≠ ((headI n)[k]?).getD 0) (hb : ∀ j, j < 6 → j ≠ k → (H[j]?).getD 0 = ((headI n)[j]?).getD 0) : sizeI (H ++ Z) = 0 := by
 unfold sizeI
 by_cases c : 6 ≤ (H ++ Z).length ∧ 1 ≤ saysI (H ++ Z) ∧ saysI (H ++ Z) ≤ 1024 ∧ (H ++ Z).take 6 = headI (saysI (H ++ Z))
 ·exfalso
  obtain ⟨c1, c2, c3, c4⟩ := c
  have et : (H ++ Z).take 6 = H := by rw [List.take_append, List.take_of_length_le (by omega)]; simp [hl]
  rw [et] at c4
  have g : ∀ j : Nat, (H[j]?).getD 0 = ((headI (saysI (H ++ Z)))[j]?).getD 0 := fun j => by rw [← c4]
  generalize saysI (H ++ Z) = s at *
  have g0 := g 0
  have g1 := g 1
  have g2 := g 2
  have g3 := g 3
  have a0 : ∀ m : Int, ((headI m)[0]?).getD 0 = m / 256 := fun _ => rfl
  have a1 : ∀ m : Int, ((headI m)[1]?).getD 0 = m % 256 := fun _ => rfl
  have a2 : ∀ m : Int, ((headI m)[2]?).getD 0 = 255 - m / 256 := fun _ => rfl
  have a3 : ∀ m : Int, ((headI m)[3]?).getD 0 = 255 - m % 256 := fun _ => rfl
  rw [a0] at g0
  rw [a1] at g1
  rw [a2] at g2
  rw [a3] at g3
  have hs : s = n := by
   by_cases q : k < 2
   ·have h2 := hb 2 (by omega) (by omega)
    have h3 := hb 3 (by omega) (by omega)
    rw [a2] at h2
    rw [a3] at h3
    omega
   ·have h0 := hb 0 (by omega) (by omega)
    have h1 := hb 1 (by omega) (by omega)
    rw [a0] at h0
    rw [a1] at h1
    omega
  subst hs
  exact hne (g k)
 ·rw [if_neg c]
theorem scan_stop {x : List Int} {p : Int} (h0 : 0 ≤ p) (h6 : p + 6 ≤ x.length) (hs : sizeI (x.drop p.toNat) = 0) : scanI x p = ⟨[], p, 0, 2⟩ := by
 rw [scan_step h0, if_neg (by omega), if_neg (by omega), if_pos hs]
theorem recs_app : ∀ (l m : List D), recsI (l ++ m) = recsI l ++ recsI m
 | [], m => rfl
 | x :: l, m => by simp only [List.cons_append, recsI, recs_app l m, List.append_assoc]
theorem recs_split {ds : List D} {w : Nat} {x : D} (h : ds[w]? = some x) : recsI ds = recsI (ds.take w) ++ (recI x.ints ++ recsI (ds.drop (w + 1))) := by
 have e : ds = ds.take w ++ (x :: ds.drop (w + 1)) := by
  have hw := (List.getElem?_eq_some_iff.1 h)
  obtain ⟨h1, h2⟩ := hw
  rw [← h2, ← List.drop_eq_getElem_cons h1, List.take_append_drop]
 conv => lhs; rw [e]
 rw [recs_app]
 rfl
theorem helds_take : ∀ (ds : List D) (p : Int) (w : Nat), (heldsI p ds).take w = heldsI p (ds.take w)
 | [], p, w => by simp [heldsI]
 | x :: l, p, 0 => rfl
 | x :: l, p, w + 1 => by simp only [heldsI, List.take_succ_cons, helds_take l]
theorem helds_len : ∀ (ds : List D) (p : Int), (heldsI p ds).length = ds.length
 | [], p => rfl
 | x :: l, p => by simp only [heldsI, List.length_cons, helds_len l]
theorem helds_get : ∀ {ds : List D} {p : Int} {w : Nat} {x : D}, ds[w]? = some x → (heldsI p ds)[w]? = some (.list [D.ofInts (idI x.ints), .int (p + (recsI (ds.take w)).length), .int x.toList.length])
 | [], p, w, x, h => by simp at h
 | y :: l, p, 0, x, h => by
  simp at h
  subst h
  simp [heldsI, recsI]
 | y :: l, p, w + 1, x, h => by
  have h1 : l[w]? = some x := by simpa using h
  have hr := rec_len (X := y.ints)
  have e : y.ints.length = y.toList.length := by simp [D.ints]
  simp only [heldsI, List.getElem?_cons_succ, helds_get h1, List.take_succ_cons, recsI, List.length_append]
  rw [show p + ((y.toList.length : Int) + 26) + ((recsI (l.take w)).length : Int) = p + (((recI y.ints).length + (recsI (l.take w)).length : Nat) : Int) by omega]
theorem fit_take {ds : List D} (h : fitP ds) (w : Nat) : fitP (ds.take w) := fun x hx => h x (List.mem_of_mem_take hx)
theorem turned_head {ds : List D} {w k : Nat} {x : D} {v : Int} (hf : fitP ds) (hw : ds[w]? = some x) (hk : k < 6) (hv : v ≠ ((headI x.ints.length)[k]?).getD 0) :
  scanI ((recsI ds).set ((recsI (ds.take w)).length + k) v) 0 = ⟨heldsI 0 (ds.take w), (recsI (ds.take w)).length, 0, 2⟩ ∧ sizeI (((recsI ds).set ((recsI (ds.take w)).length + k) v).drop (recsI (ds.take w)).length) = 0 := by
 have hx := hf x (List.mem_of_getElem? hw)
 have e : x.ints.length = x.toList.length := by simp [D.ints]
 have es : (recsI ds).set ((recsI (ds.take w)).length + k) v = recsI (ds.take w) ++ ((headI x.ints.length).set k v ++ (putI (idI x.ints ++ x.ints) ++ recsI (ds.drop (w + 1)))) := by
  rw [recs_split hw, List.set_append, if_neg (by omega), Nat.add_sub_cancel_left]
  unfold recI
  rw [List.append_assoc, List.set_append, if_pos (by rw [head_len]; exact hk)]
 have hz : sizeI ((headI x.ints.length).set k v ++ (putI (idI x.ints ++ x.ints) ++ recsI (ds.drop (w + 1)))) = 0 := by
  refine head_turned (n := x.ints.length) hk (by rw [List.length_set, head_len]) (by omega) ?_ ?_
  ·rw [List.getElem?_set_self (by rw [head_len]; exact hk)]
   exact hv
  ·intro j _ hj
   rw [List.getElem?_set_ne (by omega)]
 have hd : (recsI (ds.take w) ++ ((headI x.ints.length).set k v ++ (putI (idI x.ints ++ x.ints) ++ recsI (ds.drop (w + 1))))).drop (recsI (ds.take w)).length = (headI x.ints.length).set k v ++ (putI (idI x.ints ++ x.ints) ++ recsI (ds.drop (w + 1))) := by simp
 rw [es]
 refine ⟨?_, by rw [hd, hz]⟩
 have h1 := scan_recs (ds.take w) [] ((headI x.ints.length).set k v ++ (putI (idI x.ints ++ x.ints) ++ recsI (ds.drop (w + 1)))) (fit_take hf w)
 simp only [List.nil_append, List.length_nil, Int.natCast_zero, Int.zero_add] at h1
 have h2 := scan_stop (x := recsI (ds.take w) ++ ((headI x.ints.length).set k v ++ (putI (idI x.ints ++ x.ints) ++ recsI (ds.drop (w + 1))))) (p := (recsI (ds.take w)).length) (by omega) (by simp only [List.length_append, List.length_set, head_len]; omega) (by rw [show (((recsI (ds.take w)).length : Nat) : Int).toNat = (recsI (ds.take w)).length by omega, hd, hz])
 rw [h1, h2]
 simp
theorem bit_turned {b j : Int} (hb : 0 ≤ b ∧ b ≤ 255) (hj : 0 ≤ j ∧ j < 8) : iopI .xor .u8 b (iopI .shl .u8 1 j) ≠ b := by
 obtain ⟨a, rfl⟩ := of8 hb
 have key : ∀ c : BitVec 8, c ≠ 0#8 → ((a ^^^ c).toNat : Int) ≠ a.toNat := by
  intro c hc h
  have h2 : a ^^^ c = a := BitVec.eq_of_toNat_eq (by omega)
  have h3 : a ^^^ (a ^^^ c) = a ^^^ a := by rw [h2]
  rw [← BitVec.xor_assoc, BitVec.xor_self, BitVec.zero_xor] at h3
  exact hc h3
 have hs : ∃ c : BitVec 8, iopI .shl .u8 1 j = c.toNat ∧ c ≠ 0#8 := by
  have h8 : j = 0 ∨ j = 1 ∨ j = 2 ∨ j = 3 ∨ j = 4 ∨ j = 5 ∨ j = 6 ∨ j = 7 := by omega
  rcases h8 with rfl | rfl | rfl | rfl | rfl | rfl | rfl | rfl
  ·exact ⟨1#8, by decide, by decide⟩
  ·exact ⟨2#8, by decide, by decide⟩
  ·exact ⟨4#8, by decide, by decide⟩
  ·exact ⟨8#8, by decide, by decide⟩
  ·exact ⟨16#8, by decide, by decide⟩
  ·exact ⟨32#8, by decide, by decide⟩
  ·exact ⟨64#8, by decide, by decide⟩
  ·exact ⟨128#8, by decide, by decide⟩
 obtain ⟨c, h1, h2⟩ := hs
 rw [h1, xor_bv8]
 exact key c h2
theorem lens_nn : ∀ l : List D, 0 ≤ lensI l
 | [] => by simp [lensI]
 | x :: l => by have := lens_nn l; simp only [lensI]; omega
theorem lens_end {l : List D} {i : Nat} (h : l.length ≤ i ∨ 21 ≤ i) : lensI ((l.take 21).drop i) = 0 := by
 rw [List.drop_of_length_le (by rw [List.length_take]; omega)]; rfl
theorem lens_step {l : List D} {i : Nat} (h : i < l.length) (h2 : i < 21) : lensI ((l.take 21).drop i) = ((l[i]?.getD (.int 0)).toList.length : Int) + lensI ((l.take 21).drop (i + 1)) := by
 have h3 : i < (l.take 21).length := by rw [List.length_take]; omega
 rw [List.drop_eq_getElem_cons h3]
 simp only [lensI]
 rw [List.getElem_take, List.getElem?_eq_getElem h]
 rfl
theorem drop_step {l : List D} {i : Nat} (h : i < l.length) : l.drop i = (l[i]?.getD (.int 0)) :: l.drop (i + 1) := by
 rw [List.drop_eq_getElem_cons h, List.getElem?_eq_getElem h]
 rfl
theorem fit_iff {l : List D} : fitI l = 1 ↔ fitP l := by
 unfold fitI fitP
 constructor
 ·intro h x hx
  split at h
  ·rename_i g
   exact of_decide_eq_true (List.all_eq_true.1 g x hx)
  ·omega
 ·intro h
  rw [if_pos (List.all_eq_true.2 fun x hx => decide_eq_true (h x hx))]
theorem fit_cons {x : D} {l : List D} : fitP (x :: l) ↔ (1 ≤ x.toList.length ∧ x.toList.length ≤ 1024) ∧ fitP l := by
 unfold fitP
 constructor
 ·intro h; exact ⟨h x (by simp), fun y hy => h y (by simp [hy])⟩
 ·intro h y hy
  rcases List.mem_cons.1 hy with rfl | hy
  ·exact h.1
  ·exact h.2 y hy
theorem fit_nil : fitP [] := fun x hx => by cases hx
theorem ofInts_getD (l : List Int) (k : Nat) : (D.ofInts l).toList[k]?.getD (D.int 0) = D.int ((l[k]?).getD 0) := by
 show (l.map D.int)[k]?.getD (D.int 0) = _
 rw [List.getElem?_map]
 cases l[k]? <;> rfl

end Go.Proofs.YtidpndnehbhloaaDoor.Yl
