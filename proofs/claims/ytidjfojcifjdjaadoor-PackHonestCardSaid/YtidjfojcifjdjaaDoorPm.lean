/-
 The sum by a table is the sum bit by bit; sums of what stands one behind the other. No condition.
-/
import Derived.Test.YtidjfojcifjdjaaDoorPa
set_option linter.unusedSimpArgs false
set_option linter.unusedVariables false
namespace Go.Proofs.YtidjfojcifjdjaaDoor.Pm
open Go.RowKit Go.Ev Go.Proofs.YtidjfojcifjdjaaDoor.P0 Go.Proofs.YtidjfojcifjdjaaDoor.Pa

theorem ofInt32 (a : BitVec 32) : BitVec.ofInt 32 (a.toNat : Int) = a := by simp
theorem ofInt8 (a : BitVec 8) : BitVec.ofInt 8 (a.toNat : Int) = a := by simp
theorem xor_bv (a b : BitVec 32) : iopI .xor .u32 a.toNat b.toNat = (a ^^^ b).toNat := by
 show IntKind.u32.wrap ((BitVec.ofInt 32 (a.toNat : Int) ^^^ BitVec.ofInt 32 (b.toNat : Int)).toNat : Int) = _
 rw [ofInt32, ofInt32, wrap_fit]
 simp only [u32min, u32max]
 have h1 := (a ^^^ b).isLt
 omega
theorem xor_bv8 (a b : BitVec 8) : iopI .xor .u8 a.toNat b.toNat = (a ^^^ b).toNat := by
 show IntKind.u8.wrap ((BitVec.ofInt 8 (a.toNat : Int) ^^^ BitVec.ofInt 8 (b.toNat : Int)).toNat : Int) = _
 rw [ofInt8, ofInt8, wrap_fit]
 simp only [u8min, u8max]
 have h1 := (a ^^^ b).isLt
 omega
theorem of32 {n : Int} (h : 0 ≤ n ∧ n ≤ 4294967295) : ∃ a : BitVec 32, n = (a.toNat : Int) := by
 refine ⟨BitVec.ofNat 32 n.toNat, ?_⟩
 rw [BitVec.toNat_ofNat, Nat.mod_eq_of_lt (by omega)]
 omega
theorem of8 {n : Int} (h : 0 ≤ n ∧ n ≤ 255) : ∃ a : BitVec 8, n = (a.toNat : Int) := by
 refine ⟨BitVec.ofNat 8 n.toNat, ?_⟩
 rw [BitVec.toNat_ofNat, Nat.mod_eq_of_lt (by omega)]
 omega
theorem shr_bv (a : BitVec 32) (k : Nat) (hk : k ≤ 32) : iopI .shr .u32 a.toNat k = (a >>> k).toNat := by
 show Int.fdiv _ (2 ^ (min (k : Int).toNat 32)) = _
 rw [BitVec.toNat_ushiftRight, Nat.shiftRight_eq_div_pow, Int.fdiv_eq_ediv_of_nonneg _ (by exact Int.pow_nonneg (by omega))]
 rw [show min (k : Int).toNat 32 = k by omega]
 simp
theorem not_bv (a : BitVec 32) : notI a.toNat = (~~~ a).toNat := by
 unfold notI
 have := xor_bv (BitVec.allOnes 32) a
 rw [show ((BitVec.allOnes 32).toNat : Int) = 4294967295 from rfl] at this
 rw [this, BitVec.allOnes_xor]
theorem not_not {n : Int} (h : 0 ≤ n ∧ n ≤ 4294967295) : notI (notI n) = n := by
 obtain ⟨a, rfl⟩ := of32 h
 rw [not_bv, not_bv, BitVec.not_not]
theorem not_in (n : Int) : 0 ≤ notI n ∧ notI n ≤ 4294967295 := xor_in .u32 _ _
theorem step_in (n c : Int) : 0 ≤ stepI n c ∧ stepI n c ≤ 4294967295 := xor_in .u32 _ _
theorem more_in : ∀ (l : List Int) (n : Int), (0 ≤ n ∧ n ≤ 4294967295) → 0 ≤ moreI n l ∧ moreI n l ≤ 4294967295
 | [], n, h => h
 | c :: l, n, _ => more_in l (stepI n c) (step_in n c)
theorem more_app (n : Int) (l m : List Int) : moreI n (l ++ m) = moreI (moreI n l) m := List.foldl_append

def polyB : BitVec 32 := 3988292384#32
def L (a : BitVec 32) : BitVec 32 := a >>> 1 ^^^ (if a.getLsbD 0 then polyB else 0#32)
theorem L_xor (a b : BitVec 32) : L (a ^^^ b) = L a ^^^ L b := by
 unfold L
 rw [BitVec.getLsbD_xor, BitVec.ushiftRight_xor_distrib]
 cases a.getLsbD 0 <;> cases b.getLsbD 0 <;> simp
 ·rw [BitVec.xor_assoc]
 ·rw [BitVec.xor_assoc, BitVec.xor_assoc, BitVec.xor_comm (b >>> 1)]
 ·rw [BitVec.xor_assoc]
  congr 1
  rw [BitVec.xor_comm polyB, BitVec.xor_assoc, BitVec.xor_self, BitVec.xor_zero]
def Lk : Nat → BitVec 32 → BitVec 32
 | 0, a => a
 | k + 1, a => Lk k (L a)
theorem Lk_xor : ∀ (k : Nat) (a b : BitVec 32), Lk k (a ^^^ b) = Lk k a ^^^ Lk k b
 | 0, _, _ => rfl
 | k + 1, a, b => by simp only [Lk, L_xor, Lk_xor k]
theorem Lk_shift : ∀ (k : Nat) (a : BitVec 32), (∀ i, i < k → a.getLsbD i = false) → Lk k a = a >>> k
 | 0, a, _ => by simp [Lk]
 | k + 1, a, h => by
  have h0 := h 0 (by omega)
  have e1 : L a = a >>> 1 := by unfold L; rw [h0]; simp
  rw [Lk, e1, Lk_shift k (a >>> 1) (fun i hi => by rw [BitVec.getLsbD_ushiftRight]; exact h (1 + i) (by omega)), show k + 1 = 1 + k by omega, BitVec.shiftRight_add]

theorem L_bit (a : BitVec 32) (b : Bool) : L (a ^^^ (if b then 1#32 else 0#32)) = if a.getLsbD 0 = b then a >>> 1 else a >>> 1 ^^^ polyB := by
 rw [L_xor]
 cases b
 ·simp only [Bool.false_eq_true, if_false, show L 0#32 = 0#32 from rfl, BitVec.xor_zero]
  unfold L
  cases a.getLsbD 0 <;> simp
 ·simp only [if_true, show L 1#32 = polyB from rfl]
  unfold L
  cases h : a.getLsbD 0
  ·simp
  ·simp only [if_true]
   rw [BitVec.xor_assoc, BitVec.xor_self, BitVec.xor_zero]

theorem bit_bv (a : BitVec 32) (c : BitVec 8) (k : Nat) (hk : k < 8) : bitI a.toNat c.toNat k = ((L (a ^^^ (if c.getLsbD k then 1#32 else 0#32))).toNat : Int) := by
 rw [L_bit]
 have e1 : iopI .rem .u32 (a.toNat : Int) 2 = ((a.toNat % 2 : Nat) : Int) := by rw [rem_emod _ (by omega)]; omega
 have e2 : iopI .rem .u32 (iopI .shr .u8 (c.toNat : Int) k) 2 = (((c.toNat >>> k) % 2 : Nat) : Int) := by
  have : iopI .shr .u8 (c.toNat : Int) k = ((c.toNat >>> k : Nat) : Int) := by
   show Int.fdiv _ (2 ^ (min (k : Int).toNat 8)) = _
   rw [Nat.shiftRight_eq_div_pow, Int.fdiv_eq_ediv_of_nonneg _ (by exact Int.pow_nonneg (by omega)), show min (k : Int).toNat 8 = k by omega]
   simp
  rw [this]
  generalize c.toNat >>> k = x
  rw [rem_emod _ (by omega)]
  omega
 have e3 : (a.toNat % 2 = (c.toNat >>> k) % 2) ↔ a.getLsbD 0 = c.getLsbD k := by
  have h1 : a.getLsbD 0 = decide (a.toNat % 2 = 1) := by
   simp [BitVec.getLsbD, Nat.testBit_zero]
  have h2 : c.getLsbD k = decide ((c.toNat >>> k) % 2 = 1) := by
   rw [BitVec.getLsbD, Nat.testBit_eq_decide_div_mod_eq, Nat.shiftRight_eq_div_pow]
  rw [h1, h2]
  have h3 := Nat.mod_two_eq_zero_or_one a.toNat
  have h4 := Nat.mod_two_eq_zero_or_one (c.toNat >>> k)
  rcases h3 with h3 | h3 <;> rcases h4 with h4 | h4 <;> simp [h3, h4]
 unfold bitI
 rw [e1, e2]
 have e4 := shr_bv a 1 (by omega)
 have e4 : iopI .shr .u32 (a.toNat : Int) 1 = ((a >>> 1).toNat : Int) := e4
 have e5 := xor_bv (a >>> 1) polyB
 have e5 : iopI .xor .u32 ((a >>> 1).toNat : Int) 3988292384 = ((a >>> 1 ^^^ polyB).toNat : Int) := e5
 rw [e4, e5]
 by_cases h : a.getLsbD 0 = c.getLsbD k
 ·rw [if_pos h, if_pos (by rw [e3.2 h])]
 ·rw [if_neg h, if_neg (fun x => h (e3.1 (by omega)))]

theorem bits_bv (c : BitVec 8) : ∀ (r : Nat) (k : Nat) (a : BitVec 32), k + r = 8 → ∃ b : BitVec 32, bitsI c.toNat r k a.toNat = (b.toNat : Int) ∧ b ^^^ (c.setWidth 32 >>> 8) = Lk r (a ^^^ (c.setWidth 32 >>> k))
 | 0, k, a, h => ⟨a, rfl, by rw [show k = 8 by omega]; rfl⟩
 | r + 1, k, a, h => by
  obtain ⟨b, h1, h2⟩ := bits_bv c r (k + 1) (L (a ^^^ (if c.getLsbD k then 1#32 else 0#32))) (by omega)
  refine ⟨b, ?_, ?_⟩
  ·show bitsI c.toNat r ((k : Int) + 1) (bitI a.toNat c.toNat k) = _
   rw [bit_bv a c k (by omega)]
   exact h1
  ·rw [h2, Lk]
   congr 1
   have e1 : c.setWidth 32 >>> (k + 1) = L ((c.setWidth 32 >>> k) ^^^ (if c.getLsbD k then 1#32 else 0#32)) := by
    have h0 : ((c.setWidth 32 >>> k) ^^^ (if c.getLsbD k then 1#32 else 0#32)).getLsbD 0 = false := by
     rw [BitVec.getLsbD_xor, BitVec.getLsbD_ushiftRight, BitVec.getLsbD_setWidth]
     have : k < 8 := by omega
     cases c.getLsbD k <;> simp <;> omega
    unfold L
    rw [h0, BitVec.ushiftRight_xor_distrib]
    have : (if c.getLsbD k then 1#32 else 0#32) >>> 1 = 0#32 := by cases c.getLsbD k <;> rfl
    rw [this, BitVec.shiftRight_add]
    simp
   rw [e1, ← L_xor]
   congr 1
   rw [BitVec.xor_comm (c.setWidth 32 >>> k), ← BitVec.xor_assoc, BitVec.xor_assoc a, BitVec.xor_self, BitVec.xor_zero]

theorem crcT_len : crcT.length = 256 := by decide +kernel
theorem crcT_ok : (List.range 256).all (fun i => decide (((Lk 8 (BitVec.ofNat 32 i)).toNat : Int) = (crcT[i]?).getD 0)) = true := by decide +kernel

theorem step_bits {n c : Int} (hn : 0 ≤ n ∧ n ≤ 4294967295) (hc : 0 ≤ c ∧ c ≤ 255) : bitsI c 8 0 n = stepI n c := by
 obtain ⟨a, rfl⟩ := of32 hn
 obtain ⟨c, rfl⟩ := of8 hc
 obtain ⟨b, h1, h2⟩ := bits_bv c 8 0 a rfl
 have h1 : bitsI c.toNat 8 0 a.toNat = (b.toNat : Int) := h1
 rw [h1]
 have e0 : (c.setWidth 32 >>> 8 : BitVec 32) = 0#32 := by
  apply BitVec.eq_of_getLsbD_eq
  intro i hi
  rw [BitVec.getLsbD_ushiftRight, BitVec.getLsbD_setWidth]
  simp [BitVec.getLsbD_of_ge]
 rw [e0, BitVec.xor_zero, show (c.setWidth 32 >>> 0 : BitVec 32) = c.setWidth 32 from by simp] at h2
 subst h2
 have lo : a ^^^ c.setWidth 32 = ((a >>> 8) <<< 8) ^^^ ((a.setWidth 8 ^^^ c).setWidth 32) := by
  apply BitVec.eq_of_getLsbD_eq
  intro i hi
  simp only [BitVec.getLsbD_xor, BitVec.getLsbD_setWidth, BitVec.getLsbD_shiftLeft, BitVec.getLsbD_ushiftRight]
  by_cases h8 : i < 8
  ·simp [h8, hi]
  ·simp [h8, hi, show 8 + (i - 8) = i by omega, BitVec.getLsbD_of_ge c i (by omega)]
 rw [lo, Lk_xor, Lk_shift 8 ((a >>> 8) <<< 8) (fun i hi => by rw [BitVec.getLsbD_shiftLeft]; simp; omega)]
 have e3 : ((a >>> 8) <<< 8) >>> 8 = a >>> 8 := by
  apply BitVec.eq_of_getLsbD_eq
  intro i hi
  simp only [BitVec.getLsbD_ushiftRight, BitVec.getLsbD_shiftLeft]
  by_cases h : 8 + i < 32
  ·simp [h, show ¬ (8 + i < 8) by omega, show 8 + i - 8 = i by omega]
  ·simp [h]; rw [BitVec.getLsbD_of_ge]; omega
 rw [e3]
 unfold stepI
 have e4 := shr_bv a 8 (by omega)
 have e4 : iopI .shr .u32 (a.toNat : Int) 8 = ((a >>> 8).toNat : Int) := e4
 rw [e4]
 generalize hy : a.setWidth 8 ^^^ c = y
 have e5 : iopI .xor .u8 (IntKind.u8.wrap a.toNat) c.toNat = (y.toNat : Int) := by
  have w1 : IntKind.u8.wrap (a.toNat : Int) = ((a.setWidth 8).toNat : Int) := by
   simp [IntKind.wrap, IntKind.signed, IntKind.bits]
  rw [w1, xor_bv8, hy]
 rw [e5]
 have hl := List.all_eq_true.1 crcT_ok y.toNat (List.mem_range.2 y.isLt)
 have hl := of_decide_eq_true hl
 rw [show ((y.toNat : Int)).toNat = y.toNat by omega, ← hl, ← xor_bv]
 rw [show BitVec.setWidth 32 y = BitVec.ofNat 32 y.toNat from by apply BitVec.eq_of_toNat_eq; simp]
theorem ref_more : ∀ (l : List Int) {n : Int}, (0 ≤ n ∧ n ≤ 4294967295) → (∀ c ∈ l, 0 ≤ c ∧ c ≤ 255) → refI n l = moreI n l
 | [], _, _, _ => rfl
 | c :: l, n, hn, hc => by
  show refI (bitsI c 8 0 n) l = moreI (stepI n c) l
  rw [step_bits hn (hc c (by simp)), ref_more l (step_in n c) fun x hx => hc x (by simp [hx])]
theorem ref0 {l : List Int} (h : ∀ c ∈ l, inK .u8 c) : refI 4294967295 l = moreI (notI 0) l :=
 ref_more l (by omega) fun c hc => by have := h c hc; simpa only [inK, u8min, u8max] using this
theorem rput_put {l : List Int} (h : ∀ c ∈ l, inK .u8 c) : rputI l = putI l := by
 unfold rputI putI rsumI gsumI; rw [ref0 h]
theorem prt_lent {P : List Int} {n : Int} (h : n = P.length) : prt (lentI P) 0 n = P := by
 subst h; simp [prt, lentI]
theorem more_nil (n : Int) : moreI n [] = n := rfl
theorem prt_marks : prt [160, 161, 162] 0 0 = [] := rfl
theorem not0 : notI (notI 0) = 0 := not_not (by omega)
theorem put_nil : putI [] = [0, 0, 0, 0] := by decide +kernel
theorem prt_lent2 {P : List Int} {n : Int} (h : n ≤ P.length) : prt (lentI P) 0 n = prt P 0 n := by
 unfold prt lentI
 rw [List.take_append_of_le_length (by omega)]
theorem sel_lent {P : List Int} {j : Nat} (h : j < P.length) : ((lentI P)[j]?).getD 0 = (P[j]?).getD 0 := by
 unfold lentI
 rw [List.getElem?_append_left h]
theorem tail4 {z : List Int} {n : Int} (h : n = z.length) (h4 : 4 ≤ n) : z = prt z 0 (n + -4) ++ [(z[(n + -4).toNat]?).getD 0, (z[(n + -3).toNat]?).getD 0, (z[(n + -2).toNat]?).getD 0, (z[(n + -1).toNat]?).getD 0] := by
 have e1 := prt_app (x := z) (o := 0) (m := n + -4) (t := n) (by omega) (by omega) (by omega) (by omega)
 rw [prt_all h] at e1
 have e2 := prt_step (x := z) (o := n + -4) (t := n) (by omega) (by omega) (by omega)
 have e3 := prt_step (x := z) (o := n + -4 + 1) (t := n) (by omega) (by omega) (by omega)
 have e4 := prt_step (x := z) (o := n + -4 + 1 + 1) (t := n) (by omega) (by omega) (by omega)
 have e5 := prt_step (x := z) (o := n + -4 + 1 + 1 + 1) (t := n) (by omega) (by omega) (by omega)
 rw [prt_nil (o := n + -4 + 1 + 1 + 1 + 1) (by omega) (by omega)] at e5
 rw [e2, e3, e4, e5] at e1
 rw [show n + -4 + 1 = n + -3 by omega, show n + -3 + 1 = n + -2 by omega, show n + -2 + 1 = n + -1 by omega] at e1
 exact e1
theorem same4 {z : List Int} {n : Int} (h : n = z.length) (h4 : 4 ≤ n) (a b c d : Int) : (prt z 0 (n + -4) ++ [a, b, c, d] = z) = (a = (z[(n + -4).toNat]?).getD 0 ∧ b = (z[(n + -3).toNat]?).getD 0 ∧ c = (z[(n + -2).toNat]?).getD 0 ∧ d = (z[(n + -1).toNat]?).getD 0) := by
 have e := tail4 h h4
 refine propext ⟨fun x => ?_, fun ⟨x1, x2, x3, x4⟩ => ?_⟩
 ·rw [← x] at e
  have e2 := x.trans (tail4 h h4)
  have e3 := List.append_cancel_left e2
  simpa using e3
 ·rw [x1, x2, x3, x4]; exact (tail4 h h4).symm
end Go.Proofs.YtidjfojcifjdjaaDoor.Pm
