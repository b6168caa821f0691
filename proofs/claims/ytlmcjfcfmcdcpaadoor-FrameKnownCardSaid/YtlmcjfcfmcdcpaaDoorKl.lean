/-
  Contracts of this seat: what loops and calls leave, for all inputs. No condition.
-/
import Derived.Test.YtlmcjfcfmcdcpaaDoorSycp
import Derived.Test.YtlmcjfcfmcdcpaaDoorCo
import Derived.Test.YtlmcjfcfmcdcpaaDoorKa
import Derived.Test.YtlmcjfcfmcdcpaaDoorKm
set_option linter.unusedSimpArgs false
set_option linter.unusedVariables false
namespace Go.Proofs.YtlmcjfcfmcdcpaaDoor.Kl
open Go.RowKit Go.Ev Go.Proofs.YtlmcjfcfmcdcpaaDoor.Co

open Go.Proofs.YtlmcjfcfmcdcpaaDoor.Ka
open Go.Proofs.YtlmcjfcfmcdcpaaDoor.Km

theorem bvn (a : Nat) (h : a < 9223372036854775808) : BitVec.ofInt 64 (a : Int) = BitVec.ofNat 64 a ∧ (BitVec.ofNat 64 a).toNat = a := by
  refine ⟨by simp, ?_⟩
  rw [BitVec.toNat_ofNat, Nat.mod_eq_of_lt (by omega)]
theorem or_nat {a b : Nat} (ha : a < 9223372036854775808) (hb : b < 9223372036854775808) : iopI .or .i64 (a : Int) (b : Int) = ((a ||| b : Nat) : Int) := by
  show IntKind.i64.wrap ((BitVec.ofInt 64 (a : Int) ||| BitVec.ofInt 64 (b : Int)).toNat : Int) = _
  rw [(bvn a ha).1, (bvn b hb).1, BitVec.toNat_or, (bvn a ha).2, (bvn b hb).2, wrap_fit]
  simp only [i64min, i64max]
  have h1 : a ||| b < 2 ^ 63 := Nat.or_lt_two_pow (by omega) (by omega)
  have h2 : (2 : Nat) ^ 63 = 9223372036854775808 := by decide
  omega
theorem or_add {m b p : Nat} (k : Nat) (hp : p = 2 ^ k) (hb : b < p) (hm : m * p + b < 9223372036854775808) : iopI .or .i64 ((m * p : Nat) : Int) (b : Int) = ((m * p + b : Nat) : Int) := by
  rw [or_nat (by omega) (by omega)]
  subst hp
  have h := Nat.shiftLeft_add_eq_or_of_lt hb m
  rw [Nat.shiftLeft_eq] at h
  rw [h]
theorem or_a8 {m b : Int} (h0 : 0 ≤ m) (h1 : m ≤ 4503599627370496) (h2 : 0 ≤ b) (h3 : b ≤ 255) : iopI .or .i64 (m * 256) b = m * 256 + b := by
  obtain ⟨a, rfl⟩ := Int.eq_ofNat_of_zero_le h0
  obtain ⟨b, rfl⟩ := Int.eq_ofNat_of_zero_le h2
  have h := or_add (m := a) (b := b) (p := 256) 8 (by decide) (by omega) (by omega)
  rw [show ((a * 256 : Nat) : Int) = (a : Int) * 256 by omega, show ((a * 256 + b : Nat) : Int) = (a : Int) * 256 + b by omega] at h
  exact h
theorem or_a16 {m b : Int} (h0 : 0 ≤ m) (h1 : m ≤ 4503599627370496 / 256) (h2 : 0 ≤ b) (h3 : b ≤ 65535) : iopI .or .i64 (m * 65536) b = m * 65536 + b := by
  obtain ⟨a, rfl⟩ := Int.eq_ofNat_of_zero_le h0
  obtain ⟨b, rfl⟩ := Int.eq_ofNat_of_zero_le h2
  have h := or_add (m := a) (b := b) (p := 65536) 16 (by decide) (by omega) (by omega)
  rw [show ((a * 65536 : Nat) : Int) = (a : Int) * 65536 by omega, show ((a * 65536 + b : Nat) : Int) = (a : Int) * 65536 + b by omega] at h
  exact h
theorem or_a24 {m b : Int} (h0 : 0 ≤ m) (h1 : m ≤ 4503599627370496 / 65536) (h2 : 0 ≤ b) (h3 : b ≤ 16777215) : iopI .or .i64 (m * 16777216) b = m * 16777216 + b := by
  obtain ⟨a, rfl⟩ := Int.eq_ofNat_of_zero_le h0
  obtain ⟨b, rfl⟩ := Int.eq_ofNat_of_zero_le h2
  have h := or_add (m := a) (b := b) (p := 16777216) 24 (by decide) (by omega) (by omega)
  rw [show ((a * 16777216 : Nat) : Int) = (a : Int) * 16777216 by omega, show ((a * 16777216 + b : Nat) : Int) = (a : Int) * 16777216 + b by omega] at h
  exact h
theorem shlN {n : Int} (k : Nat) (q : Int) (hk : k ≤ 64) (hq : q = 2 ^ k) (h0 : 0 ≤ n) (h : n * q ≤ 9223372036854775807) : iopI .shl .i64 n (k : Int) = n * q := by
  show IntKind.i64.wrap (n * 2 ^ (min (k : Int).toNat 64)) = _
  rw [show min (k : Int).toNat 64 = k by omega, ← hq, wrap_fit]
  simp only [i64min, i64max]
  have hq0 : 0 ≤ q := by rw [hq]; exact Int.pow_nonneg (by omega)
  have := Int.mul_nonneg h0 hq0
  omega
theorem shl8 {n : Int} (h0 : 0 ≤ n) (h : n ≤ 1099511627776) : iopI .shl .i64 n 8 = n * 256 := shlN 8 256 (by omega) (by decide) h0 (by omega)
theorem shl16 {n : Int} (h0 : 0 ≤ n) (h : n ≤ 1099511627776) : iopI .shl .i64 n 16 = n * 65536 := shlN 16 65536 (by omega) (by decide) h0 (by omega)
theorem shl24 {n : Int} (h0 : 0 ≤ n) (h : n ≤ 1099511627776 / 16) : iopI .shl .i64 n 24 = n * 16777216 := shlN 24 16777216 (by omega) (by decide) h0 (by omega)
theorem or8 {n c : Int} (h0 : 0 ≤ n) (h1 : n ≤ 1099511627776) (h2 : 0 ≤ c) (h3 : c ≤ 255) : iopI .or .i64 (iopI .shl .i64 n 8) c = n * 256 + c := by
  rw [shl8 h0 h1]
  exact or_a8 h0 (by omega) h2 h3
theorem or0 {c : Int} (h2 : 0 ≤ c) (h3 : c ≤ 255) : iopI .or .i64 0 c = c := by
  have := or_a8 (m := 0) (b := c) (by omega) (by omega) h2 h3
  rw [Int.zero_mul, Int.zero_add] at this
  exact this
theorem or4 {a b c e : Int} (ha : 0 ≤ a ∧ a ≤ 255) (hb : 0 ≤ b ∧ b ≤ 255) (hc : 0 ≤ c ∧ c ≤ 255) (he : 0 ≤ e ∧ e ≤ 255) :
    iopI .or .i64 (iopI .or .i64 (iopI .or .i64 (iopI .shl .i64 a 24) (iopI .shl .i64 b 16)) (iopI .shl .i64 c 8)) e = ((a * 256 + b) * 256 + c) * 256 + e := by
  rw [shl24 ha.1 (by omega), shl16 hb.1 (by omega), shl8 hc.1 (by omega)]
  rw [or_a24 (m := a) (b := b * 65536) (by omega) (by omega) (by omega) (by omega), show a * 16777216 + b * 65536 = (a * 256 + b) * 65536 by omega, or_a16 (b := c * 256) (by omega) (by omega) (by omega) (by omega),
    show (a * 256 + b) * 65536 + c * 256 = ((a * 256 + b) * 256 + c) * 256 by omega, or_a8 (by omega) (by omega) he.1 he.2]
theorem sel_in {x : List Int} (h : ∀ c ∈ x, 0 ≤ c ∧ c ≤ 255) (n : Nat) : 0 ≤ (x[n]?).getD 0 ∧ (x[n]?).getD 0 ≤ 255 := by
  cases hn : x[n]? with
  | none => simp
  | some c => exact h c (List.mem_of_getElem? hn)
theorem be_1 {x : List Int} {o t : Int} (h0 : 0 ≤ o) (ht : t = o + 1) (hl : t ≤ x.length) : be (prt x o t) = (x[o.toNat]?).getD 0 := by
  rw [prt_step (x := x) (o := o) h0 (by omega) (by omega), prt_nil (by omega) (by omega)]
  simp [be]
theorem be_2 {x : List Int} {o o1 t : Int} (h0 : 0 ≤ o) (h1 : o1 = o + 1) (ht : t = o + 2) (hl : t ≤ x.length) : be (prt x o t) = (x[o.toNat]?).getD 0 * 256 + (x[o1.toNat]?).getD 0 := by
  subst h1
  rw [prt_step (x := x) (o := o) h0 (by omega) (by omega), prt_step (x := x) (o := o + 1) (by omega) (by omega) (by omega), prt_nil (by omega) (by omega)]
  simp [be]
theorem be_4 {x : List Int} {o o1 o2 o3 t : Int} (h0 : 0 ≤ o) (h1 : o1 = o + 1) (h2 : o2 = o + 2) (h3 : o3 = o + 3) (ht : t = o + 4) (hl : t ≤ x.length) : be (prt x o t) = (((x[o.toNat]?).getD 0 * 256 + (x[o1.toNat]?).getD 0) * 256 + (x[o2.toNat]?).getD 0) * 256 + (x[o3.toNat]?).getD 0 := by
  subst h1
  rw [prt_step (x := x) (o := o) h0 (by omega) (by omega), prt_step (x := x) (o := o + 1) (by omega) (by omega) (by omega), show o + 1 + 1 = o2 by omega, prt_step (x := x) (o := o2) (by omega) (by omega) (by omega), show o2 + 1 = o3 by omega, prt_step (x := x) (o := o3) (by omega) (by omega) (by omega), prt_nil (by omega) (by omega)]
  simp [be]
theorem nx1 {x : List Int} (hx : ∀ c ∈ x, 0 ≤ c ∧ c ≤ 255) {o t : Int} (h0 : 0 ≤ o) (ht : t = o + 1) (hl : t ≤ x.length) : iopI .or .i64 0 ((x[o.toNat]?).getD 0) = be (prt x o t) := by
  rw [be_1 h0 ht hl, or0 (sel_in hx _).1 (sel_in hx _).2]
theorem nx2 {x : List Int} (hx : ∀ c ∈ x, 0 ≤ c ∧ c ≤ 255) {o o1 t : Int} (h0 : 0 ≤ o) (h1 : o1 = o + 1) (ht : t = o + 2) (hl : t ≤ x.length) : iopI .or .i64 (iopI .shl .i64 (iopI .or .i64 0 ((x[o.toNat]?).getD 0)) 8) ((x[o1.toNat]?).getD 0) = be (prt x o t) := by
  have a0 := sel_in hx o.toNat
  have a1 := sel_in hx o1.toNat
  rw [be_2 h0 h1 ht hl, or0 a0.1 a0.2, or8 (by omega) (by omega) a1.1 a1.2]
theorem nx4 {x : List Int} (hx : ∀ c ∈ x, 0 ≤ c ∧ c ≤ 255) {o o1 o2 o3 t : Int} (h0 : 0 ≤ o) (h1 : o1 = o + 1) (h2 : o2 = o + 2) (h3 : o3 = o + 3) (ht : t = o + 4) (hl : t ≤ x.length) :
    iopI .or .i64 (iopI .shl .i64 (iopI .or .i64 (iopI .shl .i64 (iopI .or .i64 (iopI .shl .i64 (iopI .or .i64 0 ((x[o.toNat]?).getD 0)) 8) ((x[o1.toNat]?).getD 0)) 8) ((x[o2.toNat]?).getD 0)) 8) ((x[o3.toNat]?).getD 0) = be (prt x o t) := by
  have a0 := sel_in hx o.toNat
  have a1 := sel_in hx o1.toNat
  have a2 := sel_in hx o2.toNat
  have a3 := sel_in hx o3.toNat
  rw [be_4 h0 h1 h2 h3 ht hl, or0 a0.1 a0.2, or8 (by omega) (by omega) a1.1 a1.2, or8 (by omega) (by omega) a2.1 a2.2, or8 (by omega) (by omega) a3.1 a3.2]
theorem rx4 {x : List Int} (hx : ∀ c ∈ x, 0 ≤ c ∧ c ≤ 255) {o o1 o2 o3 t : Int} (h0 : 0 ≤ o) (h1 : o1 = o + 1) (h2 : o2 = o + 2) (h3 : o3 = o + 3) (ht : t = o + 4) (hl : t ≤ x.length) :
    iopI .or .i64 (iopI .or .i64 (iopI .or .i64 (iopI .shl .i64 ((x[o.toNat]?).getD 0) 24) (iopI .shl .i64 ((x[o1.toNat]?).getD 0) 16)) (iopI .shl .i64 ((x[o2.toNat]?).getD 0) 8)) ((x[o3.toNat]?).getD 0) = be (prt x o t) := by
  rw [be_4 h0 h1 h2 h3 ht hl, or4 (sel_in hx _) (sel_in hx _) (sel_in hx _) (sel_in hx _)]
theorem prt_prt {x : List Int} {o l a b : Int} (h0 : 0 ≤ o) (ha : 0 ≤ a) (hab : a ≤ b) (hb : b ≤ l) : prt (prt x o (o + l)) a b = prt x (o + a) (o + b) := by
  unfold prt
  rw [List.take_drop, List.drop_drop, List.take_take]
  congr 1
  · omega
  · congr 1; omega
theorem good_iff {x : List Int} {o l : Int} (h0 : 0 ≤ o) (h4 : 5 ≤ l) (hl : o + l ≤ x.length) : goodI (prt x o (o + l)) = 1 ↔ (IntKind.u8.wrap (notI (moreI (notI 0) (prt x o (o + (l + -4))))) = (x[(o + (l + -4)).toNat]?).getD 0 ∧ IntKind.u8.wrap (iopI .shr .u32 (notI (moreI (notI 0) (prt x o (o + (l + -4))))) 8) = (x[(o + (l + -4) + 1).toNat]?).getD 0 ∧
    IntKind.u8.wrap (iopI .shr .u32 (notI (moreI (notI 0) (prt x o (o + (l + -4))))) 16) = (x[(o + (l + -4) + 2).toNat]?).getD 0 ∧ IntKind.u8.wrap (iopI .shr .u32 (notI (moreI (notI 0) (prt x o (o + (l + -4))))) 24) = (x[(o + (l + -4) + 3).toNat]?).getD 0) := by
  have hz := prt_length (x := x) (o := o) (t := o + l) h0 (by omega) hl
  have e0 : prt (prt x o (o + l)) 0 (((prt x o (o + l)).length : Int) - 4) = prt x o (o + (l + -4)) := by
    rw [hz, prt_prt h0 (by omega) (by omega) (by omega), Int.add_zero]
    congr 1; omega
  have e1 := prt_app (x := x) (o := o) (m := o + (l + -4)) (t := o + l) h0 (by omega) (by omega) hl
  rw [prt_step (x := x) (o := o + (l + -4)) (t := o + l) (by omega) (by omega) (by omega), prt_step (x := x) (o := o + (l + -4) + 1) (t := o + l) (by omega) (by omega) (by omega), show o + (l + -4) + 1 + 1 = o + (l + -4) + 2 by omega,
    prt_step (x := x) (o := o + (l + -4) + 2) (t := o + l) (by omega) (by omega) (by omega), show o + (l + -4) + 2 + 1 = o + (l + -4) + 3 by omega, prt_step (x := x) (o := o + (l + -4) + 3) (t := o + l) (by omega) (by omega) (by omega), prt_nil (x := x) (o := o + (l + -4) + 3 + 1) (t := o + l) (by omega) (by omega)] at e1
  unfold goodI
  rw [e0]
  generalize prt x o (o + (l + -4)) = A at *
  rw [e1]
  unfold putI le4 sumI
  have key : ∀ (u v w z a b c e : Int), (A ++ [a, b, c, e] = A ++ [u, v, w, z]) ↔ (u = a ∧ v = b ∧ w = c ∧ z = e) := by
    intro u v w z a b c e
    rw [List.append_cancel_left_eq]
    simp only [List.cons.injEq, and_true]
    constructor <;> intro h <;> exact ⟨h.1.symm, h.2.1.symm, h.2.2.1.symm, h.2.2.2.symm⟩
  constructor
  · intro h
    split at h
    · rename_i h2; exact (key _ _ _ _ _ _ _ _).1 h2
    · omega
  · intro h
    rw [if_pos ((key _ _ _ _ _ _ _ _).2 h)]
theorem prt_bytes {x : List Int} {o t : Int} (h : ∀ c ∈ x, 0 ≤ c ∧ c ≤ 255) : ∀ c ∈ prt x o t, inK .u8 c := fun c hc => by
  have := h c (List.mem_of_mem_take (List.mem_of_mem_drop hc))
  simpa only [inK, u8min, u8max] using this
theorem rgood_iff {x : List Int} {o l : Int} (hx : ∀ c ∈ x, 0 ≤ c ∧ c ≤ 255) (h0 : 0 ≤ o) (h4 : 5 ≤ l) (hl : o + l ≤ x.length) : goodI (prt x o (o + l)) = 1 ↔ rputI (prt (prt x o (o + (l + -4))) 0 (0 + (l + -4))) = prt x o (o + l) := by
  have hz := prt_length (x := x) (o := o) (t := o + l) h0 (by omega) hl
  have e0 : prt (prt x o (o + l)) 0 (((prt x o (o + l)).length : Int) - 4) = prt x o (o + (l + -4)) := by
    rw [hz, prt_prt h0 (by omega) (by omega) (by omega), Int.add_zero]
    congr 1; omega
  have e2 : prt (prt x o (o + (l + -4))) 0 (0 + (l + -4)) = prt x o (o + (l + -4)) := by
    rw [prt_prt h0 (by omega) (by omega) (by omega), Int.add_zero, Int.zero_add]
  unfold goodI
  rw [e0, e2, rput_put (prt_bytes hx)]
  constructor
  · intro h
    split at h
    · rename_i h2; exact h2.symm
    · omega
  · intro h
    rw [if_pos h.symm]

theorem read_at {x : List Int} {o l : Int} (h0 : 0 ≤ o) (h1 : 0 ≤ l) (hl : o + l ≤ x.length) : readI (prt x o (o + l)) = if 1426 < l then 3 else if l < 26 then 4 else if goodI (prt x o (o + l)) ≠ 1 then 210 else
    sayI (be (prt x o (o + 2))) (be (prt x (o + 2) (o + 3))) (be (prt x (o + 3) (o + 4))) (be (prt x (o + 4) (o + 8))) (be (prt x (o + 8) (o + 12))) (be (prt x (o + 12) (o + 16))) (be (prt x (o + 16) (o + 20))) (be (prt x (o + 20) (o + 22))) (l - 26) := by
  have hz := prt_length (x := x) (o := o) (t := o + l) h0 (by omega) hl
  have hz : ((prt x o (o + l)).length : Int) = l := by omega
  unfold readI
  rw [hz]
  by_cases h : l < 26
  · rw [if_pos h, if_pos h]
  · have e : ∀ a b : Int, 0 ≤ a → a ≤ b → b ≤ 22 → prt (prt x o (o + l)) a b = prt x (o + a) (o + b) := fun a b ha hb hc => prt_prt h0 ha hb (by omega)
    rw [e 0 2 (by omega) (by omega) (by omega), e 2 3 (by omega) (by omega) (by omega), e 3 4 (by omega) (by omega) (by omega), e 4 8 (by omega) (by omega) (by omega), e 8 12 (by omega) (by omega) (by omega), e 12 16 (by omega) (by omega) (by omega), e 16 20 (by omega) (by omega) (by omega), e 20 22 (by omega) (by omega) (by omega), Int.add_zero]
theorem cut_prt (x : List Int) (o m : Int) : List.drop (Int.toNat o) (List.take (Int.toNat m) x) = prt x o m := rfl

theorem shr_0 (n : Int) : iopI .shr .i64 n 0 = n := by
  show Int.fdiv n (2 ^ (min (0 : Int).toNat 64)) = n
  exact Int.fdiv_one n
theorem prt_e : prt [] 0 (0 + 0) = [] := rfl
theorem lay_nil (t s b q a : Int) : layI t s b q a [] = [83, 75, 1, IntKind.u8.wrap t] ++ fourI s ++ fourI b ++ fourI q ++ fourI a ++ [0, 0] := by
  unfold layI
  rw [List.append_nil, List.length_nil, show byteI ((0 : Nat) : Int) 8 = 0 from by decide, show IntKind.u8.wrap ((0 : Nat) : Int) = 0 from by decide]
theorem lay_bytes {t s b q a : Int} {B : List Int} (h : ∀ c ∈ B, inK .u8 c) : ∀ c ∈ layI t s b q a B, inK .u8 c := by
  intro c hc
  unfold layI fourI byteI at hc
  simp only [List.mem_append, List.mem_cons, List.not_mem_nil, or_false] at hc
  repeat' (refine Or.elim hc ?_ ?_ <;> clear hc <;> intro hc)
  all_goals first
    | exact h c hc
    | (subst hc; exact wrap_in .u8 _)
    | (subst hc; simp only [inK, u8min, u8max]; omega)

end Go.Proofs.YtlmcjfcfmcdcpaaDoor.Kl
