/-
  Contracts of this seat: what loops and calls leave, for all inputs. No condition.
-/
import Derived.Test.YtlmcjfcfmcdcpaaDoorSycp
import Derived.Test.YtlmcjfcfmcdcpaaDoorCo
import Derived.Test.YtlmcjfcfmcdcpaaDoorGa
import Derived.Test.YtlmcjfcfmcdcpaaDoorGm
import Derived.Test.YtlmcjfcfmcdcpaaDoorGx
import Derived.Test.YtlmcjfcfmcdcpaaDoorFl
set_option linter.unusedSimpArgs false
set_option linter.unusedVariables false
namespace Go.Proofs.YtlmcjfcfmcdcpaaDoor.Fu
open Go.RowKit Go.Ev Go.Proofs.YtlmcjfcfmcdcpaaDoor.Co

open Go.Proofs.YtlmcjfcfmcdcpaaDoor.Ga
open Go.Proofs.YtlmcjfcfmcdcpaaDoor.Gm
open Go.Proofs.YtlmcjfcfmcdcpaaDoor.Gx
open Go.Proofs.YtlmcjfcfmcdcpaaDoor.Fl

theorem flip_bad {P X : List Int} {f m n : Int} (hP : ∀ c ∈ P, inK .u8 c) (hn : n = P.length) (hl : P.length ≤ 1000000) (hf : 0 ≤ f) (hf2 : f + 32 ≤ 8 * (n + 4)) (hm : 0 ≤ m ∧ m ≤ 4294967295) (h0 : m ≠ 0) (hX : X = flipI f m 32 0 (putI P)) : goodI X ≠ 1 ∧ (X.length : Int) = n + 4 := by
  have hP' : ∀ c ∈ P, 0 ≤ c ∧ c ≤ 255 := fun c hc => by have := hP c hc; simpa only [inK, u8min, u8max] using this
  obtain ⟨f, rfl⟩ := Int.eq_ofNat_of_zero_le hf
  obtain ⟨m, rfl⟩ := Int.eq_ofNat_of_zero_le hm.1
  have hW := put_bytes hP'
  have hWl := put_len P
  rw [show (0 : Int) = ((0 : Nat) : Int) from rfl, flipI_flips m f (by omega) (by omega) 32 0 (putI P) hW (by omega) (by omega)] at hX
  have hXb : ∀ c ∈ X, 0 ≤ c ∧ c ≤ 255 := by rw [hX]; exact flips_bytes m f 32 0 _ hW (by omega)
  have hXl : X.length = (putI P).length := by rw [hX, flips_len]
  have hXn : num X = num (putI P) ^^^ (m * 2 ^ f) := by
    rw [hX, flips_num m f 32 0 _ hW (by omega) (by simp; omega)]
    simp
  have hlen : (X.length : Int) - 4 = n := by omega
  refine ⟨?_, by omega⟩
  unfold goodI
  rw [hlen]
  intro h
  split at h
  · rename_i hw
    exact turned (W := putI P) (W' := X) (P' := prt X 0 n) (P := P) rfl hP' hXb hXl (by omega) (by omega) (by omega) hXn (fun c hc => hXb c (List.mem_of_mem_take (List.mem_of_mem_drop hc))) hw
  · omega
theorem lay_len (t s b q a : Int) (B : List Int) : ((layI t s b q a B).length : Int) = 22 + B.length := by
  simp only [layI, fourI, List.length_append, List.length_cons, List.length_nil]
  omega
theorem turned_read {t s b q a : Int} {B : List Int} {f m n : Int} (hB : ∀ c ∈ B, inK .u8 c) (hn : n = B.length + 26) (hl : B.length ≤ 1400) (hf : 0 ≤ f) (hf2 : f + 32 ≤ 8 * n) (hm : 0 ≤ m ∧ m ≤ 4294967295) (h0 : m ≠ 0) :
    readI (prt (flipI f m (32 - 0 : Int).toNat 0 (putI (layI t s b q a B))) 0 (0 + n)) = 210 := by
  have hL := lay_len t s b q a B
  obtain ⟨g1, g2⟩ := flip_bad (P := layI t s b q a B) (f := f) (m := m) (n := n - 4) (lay_bytes hB) (by omega) (by omega) hf (by omega) hm h0 rfl
  rw [show ((32 : Int) - 0).toNat = 32 from rfl, prt_all (by omega)]
  unfold readI
  rw [if_neg (by omega), if_neg (by omega), if_pos g1]

def flipL : LSpec := { n := 89, next := 1, pat := [(10, .sint .i64 (.var 0)), (1, .sint .i64 (.var 1)), (2, .sint .u32 (.var 2)), (8, .sslice 1 (.int 0) (.var 3) (.var 3) true)], rows := [(1, .seq ⟨5, .u8, .var 3, .var 4, true, false⟩)], pre := [(.le (.int 0) (.var 0), true), (.le (.var 0) (.int 32), true), (.le (.int 0) (.var 1), true), (.le (.bi .add (.var 1) (.int 32)) (.bi .mul (.int 8) (.var 3)), true), (.le (.var 3) (.int 1000000), true)], x := 0, fin := [(8, .sslice 1 (.int 0) (.var 3) (.var 3) true)], frows := [(1, .seq ⟨5, .u8, .var 3, .fn 10 (argsE [.var 4, .var 1, .var 2, .var 0]), true, false⟩)], same := [1], chg := [1, 2, 8, 10, 46, 47, 48, 49, 50, 51, 52, 53, 54, 55, 56, 57, 58, 59, 60, 61, 62, 63, 64, 65, 66, 67, 68, 69, 70, 71, 72, 73] }
abbrev asFu0 : Q × Bool := ((.le (.int 32) (.var 0)), false)
abbrev asFu1 : Q × Bool := ((.le (.int 0) (.var 0)), true)
abbrev asFu2 : Q × Bool := ((.eq (.bi (.iop .rem .u32) (.bi (.iop .shr .u32) (.var 2) (.var 0)) (.int 2)) (.int 1)), false)
abbrev asFu3 : Q × Bool := ((.fit .i64 (.bi .add (.var 0) (.int 1))), true)
def flipL_t0 : List (Q × Bool) := [asFu0, asFu1, asFu2, asFu3]
def flipL_d0 : List Duty := [(false, (.fn 10 (.bi .pair (.var 4) (.bi .pair (.var 1) (.bi .pair (.var 2) (.bi .pair (.bi .add (.var 0) (.int 1)) (.int 0)))))), (.fn 10 (.bi .pair (.var 4) (.bi .pair (.var 1) (.bi .pair (.var 2) (.bi .pair (.var 0) (.int 0)))))))]
def flipL_h0 : List (Nat × E) := [(4, (.var 4)), (3, (.var 3)), (2, (.var 2)), (1, (.var 1)), (0, (.bi .add (.var 0) (.int 1)))]
theorem flipL_h0_0 : lookE flipL_h0 0 = (.bi .add (.var 0) (.int 1)) := rfl
theorem flipL_h0_1 : lookE flipL_h0 1 = (.var 1) := rfl
theorem flipL_h0_2 : lookE flipL_h0 2 = (.var 2) := rfl
theorem flipL_h0_3 : lookE flipL_h0 3 = (.var 3) := rfl
theorem flipL_h0_4 : lookE flipL_h0 4 = (.var 4) := rfl
theorem flipL_y0 : nextD flipL flipL_h0 [(1, 1)] (roundC Tryd.prog [] [] [] 3000 40 7 [4, 1, 0, 1, 1, 1, 1, 1, 1] (tellA flipL_t0) flipL) = some flipL_d0 := by kernel_rfl
abbrev asFu4 : Q × Bool := ((.eq (.bi (.iop .rem .u32) (.bi (.iop .shr .u32) (.var 2) (.var 0)) (.int 2)) (.int 1)), true)
abbrev asFu5 : Q × Bool := ((.fit .i64 (.bi .add (.var 1) (.var 0))), true)
abbrev asFu6 : Q × Bool := ((.le (.int 0) (.bi (.iop .quo .i64) (.bi .add (.var 1) (.var 0)) (.int 8))), true)
abbrev asFu7 : Q × Bool := ((.le (.var 3) (.bi (.iop .quo .i64) (.bi .add (.var 1) (.var 0)) (.int 8))), false)
abbrev asFu8 : Q × Bool := ((.le (.int 0) (.bi (.iop .rem .i64) (.bi .add (.var 1) (.var 0)) (.int 8))), true)
def flipL_t1 : List (Q × Bool) := [asFu0, asFu1, asFu4, asFu5, asFu6, asFu7, asFu8, asFu3]
def flipL_d1 : List Duty := [(false, (.fn 10 (.bi .pair (.tr .upd (.var 4) (.bi (.iop .quo .i64) (.bi .add (.var 1) (.var 0)) (.int 8)) (.bi (.iop .xor .u8) (.bi .sel (.var 4) (.bi (.iop .quo .i64) (.bi .add (.var 1) (.var 0)) (.int 8))) (.bi (.iop .shl .u8) (.int 1) (.bi (.iop .rem .i64) (.bi .add (.var 1) (.var 0)) (.int 8))))) (.bi .pair (.var 1) (.bi .pair (.var 2) (.bi .pair (.bi .add (.var 0) (.int 1)) (.int 0)))))), (.fn 10 (.bi .pair (.var 4) (.bi .pair (.var 1) (.bi .pair (.var 2) (.bi .pair (.var 0) (.int 0)))))))]
def flipL_h1 : List (Nat × E) := [(4, (.tr .upd (.var 4) (.bi (.iop .quo .i64) (.bi .add (.var 1) (.var 0)) (.int 8)) (.bi (.iop .xor .u8) (.bi .sel (.var 4) (.bi (.iop .quo .i64) (.bi .add (.var 1) (.var 0)) (.int 8))) (.bi (.iop .shl .u8) (.int 1) (.bi (.iop .rem .i64) (.bi .add (.var 1) (.var 0)) (.int 8)))))), (3, (.var 3)), (2, (.var 2)), (1, (.var 1)), (0, (.bi .add (.var 0) (.int 1)))]
theorem flipL_h1_0 : lookE flipL_h1 0 = (.bi .add (.var 0) (.int 1)) := rfl
theorem flipL_h1_1 : lookE flipL_h1 1 = (.var 1) := rfl
theorem flipL_h1_2 : lookE flipL_h1 2 = (.var 2) := rfl
theorem flipL_h1_3 : lookE flipL_h1 3 = (.var 3) := rfl
theorem flipL_h1_4 : lookE flipL_h1 4 = (.tr .upd (.var 4) (.bi (.iop .quo .i64) (.bi .add (.var 1) (.var 0)) (.int 8)) (.bi (.iop .xor .u8) (.bi .sel (.var 4) (.bi (.iop .quo .i64) (.bi .add (.var 1) (.var 0)) (.int 8))) (.bi (.iop .shl .u8) (.int 1) (.bi (.iop .rem .i64) (.bi .add (.var 1) (.var 0)) (.int 8))))) := rfl
theorem flipL_y1 : nextD flipL flipL_h1 [(1, 1)] (roundC Tryd.prog [] [] [] 3000 40 7 [4, 1, 0, 1, 1, 1, 1, 1, 1] (tellA flipL_t1) flipL) = some flipL_d1 := by kernel_rfl
abbrev asFu9 : Q × Bool := ((.le (.int 32) (.var 0)), true)
def flipL_t2 : List (Q × Bool) := [asFu9]
def flipL_d2 : List Duty := [(false, (.var 4), (.fn 10 (.bi .pair (.var 4) (.bi .pair (.var 1) (.bi .pair (.var 2) (.bi .pair (.var 0) (.int 0)))))))]
theorem flipL_y2 : endD flipL [(1, 1)] 1000 (roundC Tryd.prog [] [] [] 3000 40 7 [4, 1, 0, 1, 1, 1, 1, 1, 1] (tellA flipL_t2) flipL) = some flipL_d2 := by kernel_rfl
theorem flipL_holds : LHolds Tryd.prog (loopAt Tryd.prog 7 [4, 1, 0, 1, 1, 1, 1, 1, 1]) flipL F := by
  refine loop_roundsC sound (tableNil _ _) (specsNil _ _) (oversNil _ _) (fuel := 3000) (depth := 40) (by kernel_rfl) (by kernel_rfl) (by kernel_rfl) (fun d => (32 - (d 0).toInt).toNat) fun d hp hR hA => ?_
  have hp := allTold'_iff.2 hp
  simp only [flipL, allTold', dutiesTold, factsA, factsC, factsP, factsR, AV.facts, RW.facts, inK, and_true, Q.holds', E.i, E.s, E.n, D.nat, E.den, BO.den, UO.den, TO.den, D.toInt_int, D.toList_list, D.ints_ofInts, i64min, i64max, u8min, u8max, u16min, u16max, u32min, u32max, u64min, u64max, i32min, i32max, Om.sub, selI, ints_app, ints_cut, ints_upd, ints_rep, ints_splice, ints_seg, len_ints] at hp hR hA
  by_cases h : 32 ≤ (d 0).toInt
  · refine ⟨tellA flipL_t2, tellA_ok (allTold'_iff.1 ?_), .inl ⟨_, _, _, flipL_y2, dutiesTold_ok ?_⟩⟩
    · simp only [flipL_t2, allTold', dutiesTold, factsA, factsC, factsP, factsR, AV.facts, RW.facts, inK, and_true, Q.holds', E.i, E.s, E.n, D.nat, E.den, BO.den, UO.den, TO.den, D.toInt_int, D.toList_list, D.ints_ofInts, i64min, i64max, u8min, u8max, u16min, u16max, u32min, u32max, u64min, u64max, i32min, i32max, Om.sub, selI, ints_app, ints_cut, ints_upd, ints_rep, ints_splice, ints_seg, len_ints]
      omega
    · simp only [flipL_d2, F10, allTold', dutiesTold, factsA, factsC, factsP, factsR, AV.facts, RW.facts, inK, and_true, Q.holds', E.i, E.s, E.n, D.nat, E.den, BO.den, UO.den, TO.den, D.toInt_int, D.toList_list, D.ints_ofInts, i64min, i64max, u8min, u8max, u16min, u16max, u32min, u32max, u64min, u64max, i32min, i32max, Om.sub, selI, ints_app, ints_cut, ints_upd, ints_rep, ints_splice, ints_seg, len_ints]
      rw [show (32 - (d 0).toInt).toNat = 0 by omega]
      rfl
  · by_cases g : iopI .rem .u32 (iopI .shr .u32 (d 2).toInt (d 0).toInt) 2 = 1
    · refine ⟨tellA flipL_t1, tellA_ok (allTold'_iff.1 ?_), .inr ⟨flipL_h1, _, _, flipL_y1, dutiesTold_ok ?_, allTold'_iff.1 ?_, ?_⟩⟩
      · simp only [flipL_t1, allTold', dutiesTold, factsA, factsC, factsP, factsR, AV.facts, RW.facts, inK, and_true, Q.holds', E.i, E.s, E.n, D.nat, E.den, BO.den, UO.den, TO.den, D.toInt_int, D.toList_list, D.ints_ofInts, i64min, i64max, u8min, u8max, u16min, u16max, u32min, u32max, u64min, u64max, i32min, i32max, Om.sub, selI, ints_app, ints_cut, ints_upd, ints_rep, ints_splice, ints_seg, len_ints]
        rw [quo_ediv (by omega) (by omega) (by omega), rem_emod .i64 (by omega)]
        omega
      · simp only [flipL_d1, F10, allTold', dutiesTold, factsA, factsC, factsP, factsR, AV.facts, RW.facts, inK, and_true, Q.holds', E.i, E.s, E.n, D.nat, E.den, BO.den, UO.den, TO.den, D.toInt_int, D.toList_list, D.ints_ofInts, i64min, i64max, u8min, u8max, u16min, u16max, u32min, u32max, u64min, u64max, i32min, i32max, Om.sub, selI, ints_app, ints_cut, ints_upd, ints_rep, ints_splice, ints_seg, len_ints]
        rw [flip_step (d 1).toInt (d 2).toInt (d 4).ints (d 0).toInt (by omega), if_pos g]
        rfl
      · simp only [flipL, flipL_h1_0, flipL_h1_1, flipL_h1_2, flipL_h1_3, flipL_h1_4, allTold', dutiesTold, factsA, factsC, factsP, factsR, AV.facts, RW.facts, inK, and_true, Q.holds', E.i, E.s, E.n, D.nat, E.den, BO.den, UO.den, TO.den, D.toInt_int, D.toList_list, D.ints_ofInts, i64min, i64max, u8min, u8max, u16min, u16max, u32min, u32max, u64min, u64max, i32min, i32max, Om.sub, selI, ints_app, ints_cut, ints_upd, ints_rep, ints_splice, ints_seg, len_ints]
        omega
      · simp only [flipL_h1_0, flipL_h1_1, flipL_h1_2, flipL_h1_3, flipL_h1_4, allTold', dutiesTold, factsA, factsC, factsP, factsR, AV.facts, RW.facts, inK, and_true, Q.holds', E.i, E.s, E.n, D.nat, E.den, BO.den, UO.den, TO.den, D.toInt_int, D.toList_list, D.ints_ofInts, i64min, i64max, u8min, u8max, u16min, u16max, u32min, u32max, u64min, u64max, i32min, i32max, Om.sub, selI, ints_app, ints_cut, ints_upd, ints_rep, ints_splice, ints_seg, len_ints]
        omega
    · refine ⟨tellA flipL_t0, tellA_ok (allTold'_iff.1 ?_), .inr ⟨flipL_h0, _, _, flipL_y0, dutiesTold_ok ?_, allTold'_iff.1 ?_, ?_⟩⟩
      · simp only [flipL_t0, allTold', dutiesTold, factsA, factsC, factsP, factsR, AV.facts, RW.facts, inK, and_true, Q.holds', E.i, E.s, E.n, D.nat, E.den, BO.den, UO.den, TO.den, D.toInt_int, D.toList_list, D.ints_ofInts, i64min, i64max, u8min, u8max, u16min, u16max, u32min, u32max, u64min, u64max, i32min, i32max, Om.sub, selI, ints_app, ints_cut, ints_upd, ints_rep, ints_splice, ints_seg, len_ints]
        omega
      · simp only [flipL_d0, F10, allTold', dutiesTold, factsA, factsC, factsP, factsR, AV.facts, RW.facts, inK, and_true, Q.holds', E.i, E.s, E.n, D.nat, E.den, BO.den, UO.den, TO.den, D.toInt_int, D.toList_list, D.ints_ofInts, i64min, i64max, u8min, u8max, u16min, u16max, u32min, u32max, u64min, u64max, i32min, i32max, Om.sub, selI, ints_app, ints_cut, ints_upd, ints_rep, ints_splice, ints_seg, len_ints]
        rw [flip_step (d 1).toInt (d 2).toInt (d 4).ints (d 0).toInt (by omega), if_neg g]
      · simp only [flipL, flipL_h0_0, flipL_h0_1, flipL_h0_2, flipL_h0_3, flipL_h0_4, allTold', dutiesTold, factsA, factsC, factsP, factsR, AV.facts, RW.facts, inK, and_true, Q.holds', E.i, E.s, E.n, D.nat, E.den, BO.den, UO.den, TO.den, D.toInt_int, D.toList_list, D.ints_ofInts, i64min, i64max, u8min, u8max, u16min, u16max, u32min, u32max, u64min, u64max, i32min, i32max, Om.sub, selI, ints_app, ints_cut, ints_upd, ints_rep, ints_splice, ints_seg, len_ints]
        omega
      · simp only [flipL_h0_0, flipL_h0_1, flipL_h0_2, flipL_h0_3, flipL_h0_4, allTold', dutiesTold, factsA, factsC, factsP, factsR, AV.facts, RW.facts, inK, and_true, Q.holds', E.i, E.s, E.n, D.nat, E.den, BO.den, UO.den, TO.den, D.toInt_int, D.toList_list, D.ints_ofInts, i64min, i64max, u8min, u8max, u16min, u16max, u32min, u32max, u64min, u64max, i32min, i32max, Om.sub, selI, ints_app, ints_cut, ints_upd, ints_rep, ints_splice, ints_seg, len_ints]
        omega

end Go.Proofs.YtlmcjfcfmcdcpaaDoor.Fu
