/-
 The sum by a table is the sum bit by bit; sums of what stands one behind the other. No condition.
-/
import Derived.Test.YtidpndnehbhloaaDoorPa
set_option linter.unusedSimpArgs false
set_option linter.unusedVariables false
namespace Go.Proofs.YtidpndnehbhloaaDoor.Pm
open Go.RowKit Go.Ev Go.Proofs.YtidpndnehbhloaaDoor.P0 Go.Proofs.YtidpndnehbhloaaDoor.Pa

theorem ofInt32 (a : BitVec 32) : BitVec.ofInt 32 (a.toNat : Int) = a := by simp
theorem ofInt8 (a : BitVec 8) : BitVec.ofInt 8 (a.toNat : Int) = a := by simp
theorem xor_bv (a b : BitVec 32) : iopI .xor .u32 a.toNat b.toNat = (a ^^^ b).toNat := by
 show IntKind.u32.wrap ((BitVec.ofInt 32 (a.toNat : Int) ^^^ BitVec.ofInt 32 (b.toNat : Int)).toNat : Int) = _
 rw [ofInt32, ofInt32, wrap_fit]
 simp only [u32min, u32max]
 have h1 := (a ^^^ b).isLt
 omega
theorem xor_bv8 (a b : BitVec 8) : iopI .xor .u8 a.toNat b.toNat = (a ^^^ b).toNat := by
 show IntKind.u8.wrap ((BitVec.ofInt 8 (a.toNat : Int) ^^^ BitVec.ofInt 8 (b.toNat : Int)).toNat : Int) = _
 rw [ofInt8, ofInt8, wrap_fit]
 simp only [u8min, u8max]
 have h1 := (a ^^^ b).isLt
 omega
theorem of32 {n : Int} (h : 0 ≤ n ∧ n ≤ 4294967295) : ∃ a : BitVec 32, n = (a.toNat : Int) := by
 refine ⟨BitVec.ofNat 32 n.toNat, ?_⟩
 rw [BitVec.toNat_ofNat, Nat.mod_eq_of_lt (by omega)]
 omega
theorem of8 {n : Int} (h : 0 ≤ n ∧ n ≤ 255) : ∃ a : BitVec 8, n = (a.toNat : Int) := by
 refine ⟨BitVec.ofNat 8 n.toNat, ?_⟩
 rw [BitVec.toNat_ofNat, Nat.mod_eq_of_lt (by omega)]
 omega
theorem not_bv (a : BitVec 32) : notI a.toNat = (~~~ a).toNat := by
 unfold notI
 have := xor_bv (BitVec.allOnes 32) a
 rw [show ((BitVec.allOnes 32).toNat : Int) = 4294967295 from rfl] at this
 rw [this, BitVec.allOnes_xor]
theorem not_not {n : Int} (h : 0 ≤ n ∧ n ≤ 4294967295) : notI (notI n) = n := by
 obtain ⟨a, rfl⟩ := of32 h
 rw [not_bv, not_bv, BitVec.not_not]
def polyB : BitVec 32 := 3988292384#32
def L (a : BitVec 32) : BitVec 32 := a >>> 1 ^^^ (if a.getLsbD 0 then polyB else 0#32)
end Go.Proofs.YtidpndnehbhloaaDoor.Pm
