/-
  Contracts of this seat: what loops and calls leave, for all inputs. No condition.
-/
import Derived.Test.YtlmcjfcfmcdcpaaDoorSycp
import Derived.Test.YtlmcjfcfmcdcpaaDoorCo
import Derived.Test.YtlmcjfcfmcdcpaaDoorKa
import Derived.Test.YtlmcjfcfmcdcpaaDoorKm
import Derived.Test.YtlmcjfcfmcdcpaaDoorKx
set_option linter.unusedSimpArgs false
set_option linter.unusedVariables false
namespace Go.Proofs.YtlmcjfcfmcdcpaaDoor.Kf
open Go.RowKit Go.Ev Go.Proofs.YtlmcjfcfmcdcpaaDoor.Co

open Go.Proofs.YtlmcjfcfmcdcpaaDoor.Ka
open Go.Proofs.YtlmcjfcfmcdcpaaDoor.Km
open Go.Proofs.YtlmcjfcfmcdcpaaDoor.Kx
theorem L1_L (a : BitVec 32) : L1 a.toNat = (L a).toNat := by
  unfold L1 L
  rw [BitVec.toNat_xor, BitVec.toNat_ushiftRight, Nat.shiftRight_eq_div_pow]
  have h1 : a.getLsbD 0 = decide (a.toNat % 2 = 1) := by simp [BitVec.getLsbD, Nat.testBit_zero]
  rw [h1]
  rcases Nat.mod_two_eq_zero_or_one a.toNat with h | h
  · rw [h]; simp
  · rw [h]; simp [polyB]
theorem L8_Lk (a : BitVec 32) : L8 a.toNat = (Lk 8 a).toNat := by
  unfold L8
  rw [L1_L, L1_L, L1_L, L1_L, L1_L, L1_L, L1_L, L1_L]
  rfl
theorem moreN_more : ∀ (l : List Int) (a : BitVec 32), (∀ c ∈ l, 0 ≤ c ∧ c ≤ 255) → moreI a.toNat l = (moreN l a.toNat : Int)
  | [], _, _ => rfl
  | c :: l, a, h => by
    have hc := h c (by simp)
    have h1 := step_Lk a hc
    rw [bitsN_once 8 a c.toNat (by omega) (by omega)] at h1
    show moreI (stepI a.toNat c) l = (moreN l (L8 (Nat.xor a.toNat c.toNat)) : Int)
    have h2 : Nat.xor a.toNat c.toNat = (a ^^^ BitVec.ofNat 32 c.toNat).toNat := by
      rw [BitVec.toNat_xor, BitVec.toNat_ofNat, Nat.mod_eq_of_lt (by omega)]; rfl
    rw [h1, h2, L8_Lk]
    exact moreN_more l _ fun x hx => h x (by simp [hx])
theorem sumN_sum (l : List Int) : sumN l = sumI l := by
  unfold sumN
  split
  · rename_i h
    have hb : ∀ c ∈ l, 0 ≤ c ∧ c ≤ 255 := fun c hc => of_decide_eq_true (List.all_eq_true.1 h c hc)
    have h1 := moreN_more l (BitVec.allOnes 32) hb
    have h0 : notI 0 = ((BitVec.allOnes 32).toNat : Int) := by decide
    have ha : (BitVec.allOnes 32).toNat = 4294967295 := rfl
    unfold sumI
    rw [h0, h1, ha]
    obtain ⟨b, hb2⟩ := of32 (more_in l 4294967295 (by omega))
    rw [ha] at h1
    have h1' : (moreN l 4294967295 : Int) = b.toNat := by rw [← hb2, ← h1]; rfl
    rw [h1', not_bv]
    have : moreN l 4294967295 = b.toNat := by omega
    rw [this]
    have h5 : Nat.xor 4294967295 b.toNat = (~~~ b).toNat := by
      have := BitVec.toNat_xor (BitVec.allOnes 32) b
      rw [BitVec.allOnes_xor] at this
      rw [this]; rfl
    rw [h5]
  · rfl
theorem goodF_good (l : List Int) : goodF l = goodI l := by
  unfold goodF goodI putI
  rw [sumN_sum]
theorem F14 (x o t : D) : F 14 (.list [x, .list [o, .list [t, .int 0]]]) = .int (goodI (prt x.ints o.toInt t.toInt)) := by
  show D.int (goodF (prt x.ints o.toInt t.toInt)) = _
  rw [goodF_good]

end Go.Proofs.YtlmcjfcfmcdcpaaDoor.Kf
