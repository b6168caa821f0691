/-
 Contracts of this seat: what loops and calls leave, for all inputs. No condition.
-/
import Derived.Test.YtmmfjmmldhnpfaaSycp
import Derived.Test.YtmmfjmmldhnpfaaSyfm
import Derived.Test.YtmmfjmmldhnpfaaCo
import Derived.Test.YtmmfjmmldhnpfaaSa
set_option linter.unusedSimpArgs false
set_option linter.unusedVariables false
namespace Go.Proofs.Ytmmfjmmldhnpfaa.Sb
open Go.RowKit Go.Ev Go.Proofs.Ytmmfjmmldhnpfaa.Co

open Go.Proofs.Ytmmfjmmldhnpfaa.Sa
theorem almost_iff {k n i b j : Int} {x : List Int} : almostB k n i b x j = true ↔ nameI (kindI k) ≠ [] ∧ (lowI (kindI k) 1 ≤ n ∧ n ≤ topI (kindI k) 1 + (if j = 1 then 1 else 0) ∧ lowI (kindI k) 2 ≤ i ∧ i ≤ topI (kindI k) 2 + (if j = 2 then 1 else 0) ∧ lowI (kindI k) 3 ≤ b ∧ b ≤ topI (kindI k) 3 + (if j = 3 then 1 else 0)) ∧ fineL x = true := by
 simp only [almostB, Bool.and_eq_true, decide_eq_true_eq, and_assoc]
theorem wrong_iff {k n i b : Int} {x : List Int} : wrongI k n i b x = 0 ↔ nameI (kindI k) ≠ [] ∧ (lowI (kindI k) 1 ≤ n ∧ n ≤ topI (kindI k) 1 ∧ lowI (kindI k) 2 ≤ i ∧ i ≤ topI (kindI k) 2 ∧ lowI (kindI k) 3 ≤ b ∧ b ≤ topI (kindI k) 3) ∧ fineL x = true := by
 unfold wrongI
 by_cases h0 : nameI (kindI k) = []
 ·simp [h0]
 ·rw [if_neg h0]
  by_cases h1 : (holdB (kindI k) 1 n && holdB (kindI k) 2 i && holdB (kindI k) 3 b) = true
  ·rw [if_pos h1]
   simp only [holdB, Bool.and_eq_true, decide_eq_true_eq] at h1
   by_cases h2 : fineL x = true
   ·rw [if_pos h2]; simp [h0, h2, h1]
   ·rw [if_neg h2]; simp [h2]
  ·rw [if_neg h1]
   simp only [holdB, Bool.and_eq_true, decide_eq_true_eq] at h1
   constructor
   ·intro h; omega
   ·intro ⟨_, h, _⟩; exact absurd ⟨⟨⟨h.1, h.2.1⟩, h.2.2.1, h.2.2.2.1⟩, h.2.2.2.2.1, h.2.2.2.2.2⟩ h1
theorem fine_snoc {x : List Int} (h : fineL x = true) : fineL (x ++ [0]) = true := by
 unfold fineL at *
 rw [List.all_append, h]; rfl
theorem lack_end {k j : Int} {n : Nat} (h : (n : Int) = topI (kindI k) j + 1) : lackI k j n = 0 := by unfold lackI; omega
theorem lack_step {k j : Int} {n : Nat} (h : (n : Int) ≤ topI (kindI k) j) : lackI k j n = lackI k j (n + 1) + 1 := by unfold lackI; omega
theorem pad_step {α : Type} {x : List α} {z : α} {k j : Int} (h : (x.length : Int) ≤ topI (kindI k) j) : (x ++ [z]) ++ List.replicate (lackI k j (x ++ [z]).length) z = x ++ List.replicate (lackI k j x.length) z := by
 rw [lack_step h, List.length_append, List.length_singleton, List.append_assoc, List.replicate_succ]; rfl
theorem zero_eq : D.list ((D.ofInts []).toList ++ [D.int 0] ++ [D.int 0] ++ [D.int 0] ++ [D.int 0] ++ [D.int 0] ++ [D.int 0] ++ [D.int 0] ++ [D.int 0] ++ [D.int 0] ++ [D.int 0] ++ [D.int 0] ++ [D.int 0] ++ [D.int 0] ++ [D.int 0] ++ [D.int 0] ++ [D.int 0]) = zeroD := rfl
theorem list_back {d : D} (h : d.toList ≠ []) : D.list d.toList = d := by
 cases d with
 | int n => exact absurd rfl h
 | list l => rfl
theorem pad_end {α : Type} {x : List α} {z : α} {k j : Int} (h : (x.length : Int) = topI (kindI k) j + 1) : x ++ List.replicate (lackI k j x.length) z = x := by
 rw [lack_end h]; simp

abbrev txSb0 : E := (.bi .pair (.var 0) (.bi .pair (.int 1) (.int 0)))
abbrev txSb1 : E := (.bi .pair (.int 1) (.bi .pair (.var 2) (.int 0)))
abbrev txSb2 : E := (.bi .pair (.var 5) (.bi .pair (.var 2) (.int 0)))
abbrev txSb3 : E := (.bi .pair (.var 0) (.bi .pair (.int 3) (.int 0)))
abbrev txSb4 : E := (.bi .pair (.int 3) (.bi .pair (.var 6) (.int 0)))
abbrev txSb5 : E := (.bi .pair (.var 0) (.bi .pair (.int 2) (.int 0)))
abbrev txSb6 : E := (.bi .pair (.var 0) (.bi .pair (.var 4) (.int 0)))
abbrev txSb7 : E := (.bi .snoc (.bi .snoc (.lits []) (.int 0)) (.int 0))
abbrev txSb8 : E := (.bi .pair (.var 5) (.bi .pair (.var 2) (.bi .pair (.int 1) (.int 0))))
abbrev txSb9 : E := (.bi .pair (.var 5) (.bi .pair (.var 2) (.bi .pair (.int 3) (.int 0))))
abbrev txSb10 : E := (.bi .pair (.var 5) (.bi .pair (.var 2) (.bi .pair (.int 2) (.int 0))))
abbrev zSb7 : E := (.bi .app (.var 2) (.lits [0]))
abbrev txSb11 : E := (.bi .pair (.int 1) (.bi .pair zSb7 (.int 0)))
abbrev zSb9 : E := (.bi .app (.var 6) (.lits [0]))
abbrev txSb12 : E := (.bi .pair (.int 3) (.bi .pair zSb9 (.int 0)))
abbrev txSb13 : E := (.bi .pair (.var 1) (.bi .pair (.int 0) txSb2))
abbrev txSb14 : E := (.bi .pair (.var 1) (.bi .pair (.var 3) txSb2))
abbrev txSb15 : E := (.bi .snoc (.bi .snoc txSb7 (.int 0)) (.int 0))
abbrev txSb16 : E := (.bi .snoc (.bi .snoc txSb15 (.int 0)) (.int 0))
abbrev txSb17 : E := (.bi .snoc (.bi .snoc txSb16 (.int 0)) (.int 0))
abbrev txSb18 : E := (.bi .snoc (.bi .snoc txSb17 (.int 0)) (.int 0))
abbrev txSb19 : E := (.bi .snoc (.bi .snoc txSb18 (.int 0)) (.int 0))
abbrev txSb20 : E := (.bi .snoc (.bi .snoc txSb19 (.int 0)) (.int 0))
abbrev txSb21 : E := (.bi .snoc (.bi .snoc txSb20 (.int 0)) (.int 0))
abbrev zSb0 : Nat × RW := (5, .vseq ⟨49, (.agg [.int .u8, .int .u8, .int .u8, .int .u8, .int .u8, .int .u8, .int .u8, .int .u8, .int .u8, .int .u8, .int .u8, .int .u8, .int .u8, .int .u8, .int .u8, .int .u8]), .var 3, .var 4, true⟩)
abbrev zSb1 : Nat × RW := (3, .seq ⟨3, .i64, .var 1, .var 2, true, false⟩)
abbrev zSb2 : Nat × RW := (7, .seq ⟨5, .u8, .var 5, .var 6, true, false⟩)
abbrev zSb3 : Nat × RW := (1, .cells 26 0 false false [.sint .i64 (.var 0), .sslice 3 (.int 0) (.var 1) (.var 9) true, .vslice 5 16 (.int 0) (.fn 35 txSb5) (.fn 35 txSb5) true, .sslice 7 (.int 0) (.var 5) (.var 11) true])
abbrev zSb4 : Duty := (true, (.var 1), (.fn 35 txSb0))
abbrev zSb5 : Duty := (true, (.var 5), (.fn 35 txSb3))
abbrev zSb6 : E := (.bi .pair (.var 0) txSb1)
abbrev zSb8 : E := (.bi .pair (.var 0) txSb4)
abbrev zSb10 : Nat × RW := (5, .cells 49 0 false false [])
abbrev zSb11 : E := (.bi .add (.var 1) (.int 1))
abbrev zSb12 : E := (.bi .add (.var 5) (.int 1))
abbrev zSb13 : Duty := (false, (.fn 36 (.bi .pair (.var 0) txSb11)), (.fn 36 zSb6))
abbrev zSb14 : Duty := (false, (.fn 36 (.bi .pair (.var 0) txSb12)), (.fn 36 zSb8))
abbrev zSb15 : Duty := (true, (.var 3), (.fn 35 txSb5))
abbrev zSb16 : Nat × RW := (3, .seq ⟨3, .i64, .fn 35 txSb0, .fn 36 zSb6, true, false⟩)
abbrev zSb17 : E := (.bi .pair (.var 0) (.bi .pair (.lits []) (.int 0)))
abbrev zSb18 : E := (.bi .snoc (.lits []) txSb21)
abbrev zSb19 : Nat × RW := (7, .seq ⟨5, .u8, .fn 35 txSb3, .fn 36 zSb8, true, false⟩)
abbrev zSb20 : E := (.bi .add (.var 3) (.int 1))
abbrev zSb21 : E := (.bi .snoc (.var 4) txSb21)
def ye : LSpec := { n := 117, next := 8, pat := [(6, .ptr 1 0)], rows := [(1, .cells 26 0 false false [.sint .i64 (.var 0), .sslice 3 (.int 0) (.var 1) (.var 1) true, .slice 5 0 0 0 false, .sslice 7 (.int 0) (.var 5) (.var 11) true]), zSb1, zSb10, zSb2], pre := [(.eq (.fn 34 (.bi .pair (.var 0) (.bi .pair (.var 1) (.bi .pair (.int 0) txSb8)))) (.int 1), true), (.le (.int 0) (.var 1), true), (.le (.int 0) (.var 5), true)], x := 0, fin := [(6, .ptr 1 0)], frows := [(1, .cells 26 0 false false [.sint .i64 (.var 0), .sslice 3 (.int 0) (.fn 35 txSb0) (.fn 35 txSb0) true, .slice 5 0 0 0 false, .sslice 7 (.int 0) (.var 5) (.var 11) true]), zSb16, zSb10, zSb2], same := [1, 5, 7], chg := [6, 21, 22, 23, 24, 25, 26, 27, 28, 29, 30, 31, 32, 33, 34] }
abbrev asSb0 : Q × Bool := ((.le (.int 0) (.var 1)), true)
abbrev asSb1 : Q × Bool := ((.le (.var 1) (.int 5000)), true)
abbrev asSb2 : Q × Bool := ((.le (.int 0) (.var 5)), true)
abbrev asSb3 : Q × Bool := ((.le (.var 5) (.int 5000)), true)
abbrev asSb4 : Q × Bool := ((.eq (.fn 32 (.bi .pair (.var 0) txSb13)) (.int 0)), true)
abbrev asSb5 : Q × Bool := ((.fit .i64 (.var 1)), true)
abbrev asSb6 : Q × Bool := ((.le (.int 300) (.var 1)), false)
abbrev asSb7 : Q × Bool := ((.le (.bi .mul zSb11 (.int 16)) (.int 281474976710656)), true)
def ye_t0 : List (Q × Bool) := [asSb0, asSb1, asSb2, asSb3, asSb4, asSb5, asSb6, asSb7]
def ye_d0 : List Duty := [zSb13]
def ye_h0 : List (Nat × E) := [(6, (.var 6)), (2, zSb7), (5, (.var 5)), (11, (.var 11)), (1, zSb11), (0, (.var 0))]
theorem ye_h0_a : lookE ye_h0 0 = (.var 0) ∧ lookE ye_h0 1 = zSb11 ∧ lookE ye_h0 2 = zSb7 ∧ lookE ye_h0 5 = (.var 5) ∧ lookE ye_h0 6 = (.var 6) ∧ lookE ye_h0 11 = (.var 11) := ⟨rfl, rfl, rfl, rfl, rfl, rfl⟩
theorem ye_y0 : nextD ye ye_h0 [(7, 7), (5, 5), (3, 19), (1, 1)] (roundC Try.prog [] [(13, chkoeo), (13, chkooo)] [] 3000 40 7 [4, 0, 1, 1, 1, 1] (tellA ye_t0) ye) = some ye_d0 := by kernel_rfl
abbrev asSb8 : Q × Bool := ((.eq (.fn 32 (.bi .pair (.var 0) txSb13)) (.int 0)), false)
def ye_t1 : List (Q × Bool) := [asSb0, asSb1, asSb2, asSb3, asSb8]
def ye_d1 : List Duty := [zSb4, zSb4, zSb4, (false, (.var 2), (.fn 36 zSb6))]
theorem ye_y1 : endD ye [(7, 7), (5, 5), (3, 3), (1, 1)] 1000 (roundC Try.prog [] [(13, chkoeo), (13, chkooo)] [] 3000 40 7 [4, 0, 1, 1, 1, 1] (tellA ye_t1) ye) = some ye_d1 := by kernel_rfl
set_option maxHeartbeats 16000000 in
theorem ye_holds : LHolds Try.prog (loopAt Try.prog 7 [4, 0, 1, 1, 1, 1]) ye F := by
 refine loop_roundsC sound (tableNil _ _) (specsCons chkoeo_holds (specsCons chkooo_holds (specsNil _ _))) (oversNil _ _) (fuel := 3000) (depth := 40) (by kernel_rfl) (by kernel_rfl) (by kernel_rfl) (fun d => ((2000 : Int) - (d 1).toInt).toNat) fun d hp hR hA => ?_
 have hp := allTold'_iff.2 hp
 simp only [ye, tl] at hp hR hA
 simp only [F34, D.toInt_int] at hp
 obtain ⟨pa, pb, pc⟩ := hp
 have pa := one_of pa
 obtain ⟨a0, a1, a2⟩ := almost_iff.1 pa
 rw [if_pos (by decide), if_neg (by decide), if_neg (by decide)] at a1
 have tf := tab_in (kind_in (d 0).toInt)
 by_cases g : (d 1).toInt ≤ topI (kindI (d 0).toInt) 1
 ·refine ⟨tellA ye_t0, tellA_ok (allTold'_iff.1 ?_), .inr ⟨ye_h0, _, _, ye_y0, dutiesTold_ok ?_, allTold'_iff.1 ?_, ?_⟩⟩
  all_goals simp only [ye_t0, ye_d0, ye, ye_h0_a, F32, F34, F35, F36, F37, D.ints_ofInts, tl]
  all_goals first | done | omega | trivial | (and_intros <;> first | omega | trivial | (exact wrong_iff.2 ⟨a0, by omega, a2⟩) | (exact one_to (almost_iff.2 ⟨a0, by simp; omega, a2⟩)) | (exact one_to (almost_iff.2 ⟨a0, by simp; omega, fine_snoc a2⟩)) | (exact pad_step (by omega)) | (exact (pad_end (by omega)).symm) | (exact fun h => by have := wrong_iff.1 h; omega))
 ·refine ⟨tellA ye_t1, tellA_ok (allTold'_iff.1 ?_), .inl ⟨_, _, _, ye_y1, dutiesTold_ok ?_⟩⟩
  all_goals simp only [ye_t1, ye_d1, ye, F32, F34, F35, F36, F37, D.ints_ofInts, tl]
  all_goals first | done | omega | trivial | (and_intros <;> first | omega | trivial | (exact wrong_iff.2 ⟨a0, by omega, a2⟩) | (exact one_to (almost_iff.2 ⟨a0, by simp; omega, a2⟩)) | (exact one_to (almost_iff.2 ⟨a0, by simp; omega, fine_snoc a2⟩)) | (exact pad_step (by omega)) | (exact (pad_end (by omega)).symm) | (exact fun h => by have := wrong_iff.1 h; omega))

def yo : LSpec := { n := 117, next := 8, pat := [(6, .ptr 1 0)], rows := [(1, .cells 26 0 false false [.sint .i64 (.var 0), .sslice 3 (.int 0) (.var 1) (.var 1) true, .vslice 5 16 (.int 0) (.var 3) (.var 10) true, .sslice 7 (.int 0) (.var 5) (.var 11) true]), zSb1, zSb0, zSb2], pre := [(.eq (.fn 34 (.bi .pair (.var 0) (.bi .pair (.var 1) (.bi .pair (.var 3) txSb8)))) (.int 1), true), (.le (.int 0) (.var 1), true), (.le (.int 0) (.var 5), true), (.le (.int 0) (.var 3), true)], x := 0, fin := [(6, .ptr 1 0)], frows := [(1, .cells 26 0 false false [.sint .i64 (.var 0), .sslice 3 (.int 0) (.fn 35 txSb0) (.fn 35 txSb0) true, .vslice 5 16 (.int 0) (.var 3) (.var 10) true, .sslice 7 (.int 0) (.var 5) (.var 11) true]), zSb16, zSb0, zSb2], same := [1, 5, 7], chg := [6, 21, 22, 23, 24, 25, 26, 27, 28, 29, 30, 31, 32, 33, 34] }
abbrev asSb9 : Q × Bool := ((.le (.int 0) (.var 3)), true)
abbrev asSb10 : Q × Bool := ((.le (.var 3) (.int 5000)), true)
abbrev asSb11 : Q × Bool := ((.eq (.fn 32 (.bi .pair (.var 0) txSb14)) (.int 0)), true)
def yo_t0 : List (Q × Bool) := [asSb0, asSb1, asSb9, asSb10, asSb2, asSb3, asSb11, asSb5, asSb6, asSb7]
def yo_d0 : List Duty := [zSb13]
def yo_h0 : List (Nat × E) := [(6, (.var 6)), (4, (.var 4)), (2, zSb7), (5, (.var 5)), (11, (.var 11)), (3, (.var 3)), (10, (.var 10)), (1, zSb11), (0, (.var 0))]
theorem yo_h0_a : lookE yo_h0 0 = (.var 0) ∧ lookE yo_h0 1 = zSb11 ∧ lookE yo_h0 2 = zSb7 ∧ lookE yo_h0 3 = (.var 3) ∧ lookE yo_h0 4 = (.var 4) ∧ lookE yo_h0 5 = (.var 5) ∧ lookE yo_h0 6 = (.var 6) ∧ lookE yo_h0 10 = (.var 10) ∧ lookE yo_h0 11 = (.var 11) := ⟨rfl, rfl, rfl, rfl, rfl, rfl, rfl, rfl, rfl⟩
theorem yo_y0 : nextD yo yo_h0 [(7, 7), (5, 5), (3, 19), (1, 1)] (roundC Try.prog [] [(13, chkoeo), (13, chkooo)] [] 3000 40 7 [4, 0, 1, 1, 1, 1] (tellA yo_t0) yo) = some yo_d0 := by kernel_rfl
abbrev asSb12 : Q × Bool := ((.eq (.fn 32 (.bi .pair (.var 0) txSb14)) (.int 0)), false)
def yo_t1 : List (Q × Bool) := [asSb0, asSb1, asSb9, asSb10, asSb2, asSb3, asSb12]
def yo_d1 : List Duty := [zSb4, zSb4, zSb4, (false, (.var 2), (.fn 36 zSb6))]
theorem yo_y1 : endD yo [(7, 7), (5, 5), (3, 3), (1, 1)] 1000 (roundC Try.prog [] [(13, chkoeo), (13, chkooo)] [] 3000 40 7 [4, 0, 1, 1, 1, 1] (tellA yo_t1) yo) = some yo_d1 := by kernel_rfl
set_option maxHeartbeats 16000000 in
theorem yo_holds : LHolds Try.prog (loopAt Try.prog 7 [4, 0, 1, 1, 1, 1]) yo F := by
 refine loop_roundsC sound (tableNil _ _) (specsCons chkoeo_holds (specsCons chkooo_holds (specsNil _ _))) (oversNil _ _) (fuel := 3000) (depth := 40) (by kernel_rfl) (by kernel_rfl) (by kernel_rfl) (fun d => ((2000 : Int) - (d 1).toInt).toNat) fun d hp hR hA => ?_
 have hp := allTold'_iff.2 hp
 simp only [yo, tl] at hp hR hA
 simp only [F34, D.toInt_int] at hp
 obtain ⟨pa, pb, pc, pd⟩ := hp
 have pa := one_of pa
 obtain ⟨a0, a1, a2⟩ := almost_iff.1 pa
 rw [if_pos (by decide), if_neg (by decide), if_neg (by decide)] at a1
 have tf := tab_in (kind_in (d 0).toInt)
 by_cases g : (d 1).toInt ≤ topI (kindI (d 0).toInt) 1
 ·refine ⟨tellA yo_t0, tellA_ok (allTold'_iff.1 ?_), .inr ⟨yo_h0, _, _, yo_y0, dutiesTold_ok ?_, allTold'_iff.1 ?_, ?_⟩⟩
  all_goals simp only [yo_t0, yo_d0, yo, yo_h0_a, F32, F34, F35, F36, F37, D.ints_ofInts, tl]
  all_goals first | done | omega | trivial | (and_intros <;> first | omega | trivial | (exact wrong_iff.2 ⟨a0, by omega, a2⟩) | (exact one_to (almost_iff.2 ⟨a0, by simp; omega, a2⟩)) | (exact one_to (almost_iff.2 ⟨a0, by simp; omega, fine_snoc a2⟩)) | (exact pad_step (by omega)) | (exact (pad_end (by omega)).symm) | (exact fun h => by have := wrong_iff.1 h; omega))
 ·refine ⟨tellA yo_t1, tellA_ok (allTold'_iff.1 ?_), .inl ⟨_, _, _, yo_y1, dutiesTold_ok ?_⟩⟩
  all_goals simp only [yo_t1, yo_d1, yo, F32, F34, F35, F36, F37, D.ints_ofInts, tl]
  all_goals first | done | omega | trivial | (and_intros <;> first | omega | trivial | (exact wrong_iff.2 ⟨a0, by omega, a2⟩) | (exact one_to (almost_iff.2 ⟨a0, by simp; omega, a2⟩)) | (exact one_to (almost_iff.2 ⟨a0, by simp; omega, fine_snoc a2⟩)) | (exact pad_step (by omega)) | (exact (pad_end (by omega)).symm) | (exact fun h => by have := wrong_iff.1 h; omega))

def we : LSpec := { n := 117, next := 8, pat := [(8, .ptr 1 0)], rows := [(1, .cells 26 0 false false [.sint .i64 (.var 0), .sslice 3 (.int 0) (.var 1) (.var 9) true, .slice 5 0 0 0 false, .sslice 7 (.int 0) (.var 5) (.var 5) true]), zSb1, zSb10, zSb2], pre := [(.eq (.fn 34 (.bi .pair (.var 0) (.bi .pair (.var 1) (.bi .pair (.int 0) txSb9)))) (.int 1), true), (.le (.int 0) (.var 1), true), (.le (.int 0) (.var 5), true)], x := 4, fin := [(8, .ptr 1 0)], frows := [(1, .cells 26 0 false false [.sint .i64 (.var 0), .sslice 3 (.int 0) (.var 1) (.var 9) true, .slice 5 0 0 0 false, .sslice 7 (.int 0) (.fn 35 txSb3) (.fn 35 txSb3) true]), zSb1, zSb10, zSb19], same := [1, 3, 5], chg := [8, 54, 55, 56, 57, 58, 59, 60, 61, 62, 63, 64, 65, 66, 67] }
abbrev asSb13 : Q × Bool := ((.fit .i64 (.var 5)), true)
abbrev asSb14 : Q × Bool := ((.le (.int 3000) (.var 5)), false)
abbrev asSb15 : Q × Bool := ((.le (.bi .mul zSb12 (.int 2)) (.int 281474976710656)), true)
def we_t0 : List (Q × Bool) := [asSb0, asSb1, asSb2, asSb3, asSb4, asSb13, asSb14, asSb15]
def we_d0 : List Duty := [zSb14]
def we_h0 : List (Nat × E) := [(6, zSb9), (2, (.var 2)), (5, zSb12), (1, (.var 1)), (9, (.var 9)), (0, (.var 0))]
theorem we_h0_a : lookE we_h0 0 = (.var 0) ∧ lookE we_h0 1 = (.var 1) ∧ lookE we_h0 2 = (.var 2) ∧ lookE we_h0 5 = zSb12 ∧ lookE we_h0 6 = zSb9 ∧ lookE we_h0 9 = (.var 9) := ⟨rfl, rfl, rfl, rfl, rfl, rfl⟩
theorem we_y0 : nextD we we_h0 [(7, 19), (5, 5), (3, 3), (1, 1)] (roundC Try.prog [] [(13, chkoeo), (13, chkooo)] [] 3000 40 7 [4, 0, 1, 1, 1, 1, 1, 1, 1, 1] (tellA we_t0) we) = some we_d0 := by kernel_rfl
def we_t1 : List (Q × Bool) := [asSb0, asSb1, asSb2, asSb3, asSb8]
def we_d1 : List Duty := [zSb5, zSb5, zSb5, (false, (.var 6), (.fn 36 zSb8))]
theorem we_y1 : endD we [(7, 7), (5, 5), (3, 3), (1, 1)] 1000 (roundC Try.prog [] [(13, chkoeo), (13, chkooo)] [] 3000 40 7 [4, 0, 1, 1, 1, 1, 1, 1, 1, 1] (tellA we_t1) we) = some we_d1 := by kernel_rfl
set_option maxHeartbeats 16000000 in
theorem we_holds : LHolds Try.prog (loopAt Try.prog 7 [4, 0, 1, 1, 1, 1, 1, 1, 1, 1]) we F := by
 refine loop_roundsC sound (tableNil _ _) (specsCons chkoeo_holds (specsCons chkooo_holds (specsNil _ _))) (oversNil _ _) (fuel := 3000) (depth := 40) (by kernel_rfl) (by kernel_rfl) (by kernel_rfl) (fun d => ((2000 : Int) - (d 5).toInt).toNat) fun d hp hR hA => ?_
 have hp := allTold'_iff.2 hp
 simp only [we, tl] at hp hR hA
 simp only [F34, D.toInt_int] at hp
 obtain ⟨pa, pb, pc⟩ := hp
 have pa := one_of pa
 obtain ⟨a0, a1, a2⟩ := almost_iff.1 pa
 rw [if_neg (by decide), if_neg (by decide), if_pos (by decide)] at a1
 have tf := tab_in (kind_in (d 0).toInt)
 by_cases g : (d 5).toInt ≤ topI (kindI (d 0).toInt) 3
 ·refine ⟨tellA we_t0, tellA_ok (allTold'_iff.1 ?_), .inr ⟨we_h0, _, _, we_y0, dutiesTold_ok ?_, allTold'_iff.1 ?_, ?_⟩⟩
  all_goals simp only [we_t0, we_d0, we, we_h0_a, F32, F34, F35, F36, F37, D.ints_ofInts, tl]
  all_goals first | done | omega | trivial | (and_intros <;> first | omega | trivial | (exact wrong_iff.2 ⟨a0, by omega, a2⟩) | (exact one_to (almost_iff.2 ⟨a0, by simp; omega, a2⟩)) | (exact one_to (almost_iff.2 ⟨a0, by simp; omega, fine_snoc a2⟩)) | (exact pad_step (by omega)) | (exact (pad_end (by omega)).symm) | (exact fun h => by have := wrong_iff.1 h; omega))
 ·refine ⟨tellA we_t1, tellA_ok (allTold'_iff.1 ?_), .inl ⟨_, _, _, we_y1, dutiesTold_ok ?_⟩⟩
  all_goals simp only [we_t1, we_d1, we, F32, F34, F35, F36, F37, D.ints_ofInts, tl]
  all_goals first | done | omega | trivial | (and_intros <;> first | omega | trivial | (exact wrong_iff.2 ⟨a0, by omega, a2⟩) | (exact one_to (almost_iff.2 ⟨a0, by simp; omega, a2⟩)) | (exact one_to (almost_iff.2 ⟨a0, by simp; omega, fine_snoc a2⟩)) | (exact pad_step (by omega)) | (exact (pad_end (by omega)).symm) | (exact fun h => by have := wrong_iff.1 h; omega))

def wo : LSpec := { n := 117, next := 8, pat := [(8, .ptr 1 0)], rows := [(1, .cells 26 0 false false [.sint .i64 (.var 0), .sslice 3 (.int 0) (.var 1) (.var 9) true, .vslice 5 16 (.int 0) (.var 3) (.var 10) true, .sslice 7 (.int 0) (.var 5) (.var 5) true]), zSb1, zSb0, zSb2], pre := [(.eq (.fn 34 (.bi .pair (.var 0) (.bi .pair (.var 1) (.bi .pair (.var 3) txSb9)))) (.int 1), true), (.le (.int 0) (.var 1), true), (.le (.int 0) (.var 5), true), (.le (.int 0) (.var 3), true)], x := 4, fin := [(8, .ptr 1 0)], frows := [(1, .cells 26 0 false false [.sint .i64 (.var 0), .sslice 3 (.int 0) (.var 1) (.var 9) true, .vslice 5 16 (.int 0) (.var 3) (.var 10) true, .sslice 7 (.int 0) (.fn 35 txSb3) (.fn 35 txSb3) true]), zSb1, zSb0, zSb19], same := [1, 3, 5], chg := [8, 54, 55, 56, 57, 58, 59, 60, 61, 62, 63, 64, 65, 66, 67] }
def wo_t0 : List (Q × Bool) := [asSb0, asSb1, asSb9, asSb10, asSb2, asSb3, asSb11, asSb13, asSb14, asSb15]
def wo_d0 : List Duty := [zSb14]
def wo_h0 : List (Nat × E) := [(6, zSb9), (4, (.var 4)), (2, (.var 2)), (5, zSb12), (3, (.var 3)), (10, (.var 10)), (1, (.var 1)), (9, (.var 9)), (0, (.var 0))]
theorem wo_h0_a : lookE wo_h0 0 = (.var 0) ∧ lookE wo_h0 1 = (.var 1) ∧ lookE wo_h0 2 = (.var 2) ∧ lookE wo_h0 3 = (.var 3) ∧ lookE wo_h0 4 = (.var 4) ∧ lookE wo_h0 5 = zSb12 ∧ lookE wo_h0 6 = zSb9 ∧ lookE wo_h0 9 = (.var 9) ∧ lookE wo_h0 10 = (.var 10) := ⟨rfl, rfl, rfl, rfl, rfl, rfl, rfl, rfl, rfl⟩
theorem wo_y0 : nextD wo wo_h0 [(7, 19), (5, 5), (3, 3), (1, 1)] (roundC Try.prog [] [(13, chkoeo), (13, chkooo)] [] 3000 40 7 [4, 0, 1, 1, 1, 1, 1, 1, 1, 1] (tellA wo_t0) wo) = some wo_d0 := by kernel_rfl
def wo_t1 : List (Q × Bool) := [asSb0, asSb1, asSb9, asSb10, asSb2, asSb3, asSb12]
def wo_d1 : List Duty := [zSb5, zSb5, zSb5, (false, (.var 6), (.fn 36 zSb8))]
theorem wo_y1 : endD wo [(7, 7), (5, 5), (3, 3), (1, 1)] 1000 (roundC Try.prog [] [(13, chkoeo), (13, chkooo)] [] 3000 40 7 [4, 0, 1, 1, 1, 1, 1, 1, 1, 1] (tellA wo_t1) wo) = some wo_d1 := by kernel_rfl
set_option maxHeartbeats 16000000 in
theorem wo_holds : LHolds Try.prog (loopAt Try.prog 7 [4, 0, 1, 1, 1, 1, 1, 1, 1, 1]) wo F := by
 refine loop_roundsC sound (tableNil _ _) (specsCons chkoeo_holds (specsCons chkooo_holds (specsNil _ _))) (oversNil _ _) (fuel := 3000) (depth := 40) (by kernel_rfl) (by kernel_rfl) (by kernel_rfl) (fun d => ((2000 : Int) - (d 5).toInt).toNat) fun d hp hR hA => ?_
 have hp := allTold'_iff.2 hp
 simp only [wo, tl] at hp hR hA
 simp only [F34, D.toInt_int] at hp
 obtain ⟨pa, pb, pc, pd⟩ := hp
 have pa := one_of pa
 obtain ⟨a0, a1, a2⟩ := almost_iff.1 pa
 rw [if_neg (by decide), if_neg (by decide), if_pos (by decide)] at a1
 have tf := tab_in (kind_in (d 0).toInt)
 by_cases g : (d 5).toInt ≤ topI (kindI (d 0).toInt) 3
 ·refine ⟨tellA wo_t0, tellA_ok (allTold'_iff.1 ?_), .inr ⟨wo_h0, _, _, wo_y0, dutiesTold_ok ?_, allTold'_iff.1 ?_, ?_⟩⟩
  all_goals simp only [wo_t0, wo_d0, wo, wo_h0_a, F32, F34, F35, F36, F37, D.ints_ofInts, tl]
  all_goals first | done | omega | trivial | (and_intros <;> first | omega | trivial | (exact wrong_iff.2 ⟨a0, by omega, a2⟩) | (exact one_to (almost_iff.2 ⟨a0, by simp; omega, a2⟩)) | (exact one_to (almost_iff.2 ⟨a0, by simp; omega, fine_snoc a2⟩)) | (exact pad_step (by omega)) | (exact (pad_end (by omega)).symm) | (exact fun h => by have := wrong_iff.1 h; omega))
 ·refine ⟨tellA wo_t1, tellA_ok (allTold'_iff.1 ?_), .inl ⟨_, _, _, wo_y1, dutiesTold_ok ?_⟩⟩
  all_goals simp only [wo_t1, wo_d1, wo, F32, F34, F35, F36, F37, D.ints_ofInts, tl]
  all_goals first | done | omega | trivial | (and_intros <;> first | omega | trivial | (exact wrong_iff.2 ⟨a0, by omega, a2⟩) | (exact one_to (almost_iff.2 ⟨a0, by simp; omega, a2⟩)) | (exact one_to (almost_iff.2 ⟨a0, by simp; omega, fine_snoc a2⟩)) | (exact pad_step (by omega)) | (exact (pad_end (by omega)).symm) | (exact fun h => by have := wrong_iff.1 h; omega))

def ze : LSpec := { n := 117, next := 8, pat := [(7, .ptr 1 0)], rows := [(1, .cells 26 0 false false [.sint .i64 (.var 0), .sslice 3 (.int 0) (.var 1) (.var 9) true, .slice 5 0 0 0 false, .sslice 7 (.int 0) (.var 5) (.var 11) true]), zSb1, zSb10, zSb2], pre := [(.eq (.fn 34 (.bi .pair (.var 0) (.bi .pair (.var 1) (.bi .pair (.int 0) txSb10)))) (.int 1), true), (.le (.int 0) (.var 1), true), (.le (.int 0) (.var 5), true)], x := 2, fin := [(7, .ptr 1 0)], frows := [zSb3, zSb1, (5, .vseq ⟨49, (.agg [.int .u8, .int .u8, .int .u8, .int .u8, .int .u8, .int .u8, .int .u8, .int .u8, .int .u8, .int .u8, .int .u8, .int .u8, .int .u8, .int .u8, .int .u8, .int .u8]), .fn 35 txSb5, .fn 37 zSb17, true⟩), zSb2], same := [1, 3, 7], chg := [7, 37, 38, 39, 40, 41, 42, 43, 44, 45, 46, 47, 48, 49, 50, 51] }
def zo : LSpec := { n := 117, next := 8, pat := [(7, .ptr 1 0)], rows := [(1, .cells 26 0 false false [.sint .i64 (.var 0), .sslice 3 (.int 0) (.var 1) (.var 9) true, .vslice 5 16 (.int 0) (.var 3) (.var 3) true, .sslice 7 (.int 0) (.var 5) (.var 11) true]), zSb1, zSb0, zSb2], pre := [(.eq (.fn 34 (.bi .pair (.var 0) (.bi .pair (.var 1) (.bi .pair (.var 3) txSb10)))) (.int 1), true), (.le (.int 0) (.var 1), true), (.le (.int 0) (.var 5), true), (.le (.int 1) (.var 3), true)], x := 2, fin := [(7, .ptr 1 0)], frows := [zSb3, zSb1, (5, .vseq ⟨49, (.agg [.int .u8, .int .u8, .int .u8, .int .u8, .int .u8, .int .u8, .int .u8, .int .u8, .int .u8, .int .u8, .int .u8, .int .u8, .int .u8, .int .u8, .int .u8, .int .u8]), .fn 35 txSb5, .fn 37 txSb6, true⟩), zSb2], same := [1, 3, 7], chg := [7, 37, 38, 39, 40, 41, 42, 43, 44, 45, 46, 47, 48, 49, 50, 51] }
def Z : Nat → LSpec
 | 0 => ze
 | _ => zo
def ze_t0 : List (Q × Bool) := [asSb0, asSb1, asSb2, asSb3, asSb4]
def ze_d0 : List Duty := [(false, (.un .code (.fn 37 (.bi .pair (.var 0) (.bi .pair zSb18 (.int 0))))), (.un .code (.fn 37 zSb17)))]
def ze_h0 : List (Nat × E) := [(6, (.var 6)), (4, zSb18), (2, (.var 2)), (5, (.var 5)), (11, (.var 11)), (3, (.int 1)), (1, (.var 1)), (9, (.var 9)), (0, (.var 0))]
theorem ze_h0_a : lookE ze_h0 0 = (.var 0) ∧ lookE ze_h0 1 = (.var 1) ∧ lookE ze_h0 2 = (.var 2) ∧ lookE ze_h0 3 = (.int 1) ∧ lookE ze_h0 4 = zSb18 ∧ lookE ze_h0 5 = (.var 5) ∧ lookE ze_h0 6 = (.var 6) ∧ lookE ze_h0 9 = (.var 9) ∧ lookE ze_h0 11 = (.var 11) := ⟨rfl, rfl, rfl, rfl, rfl, rfl, rfl, rfl, rfl⟩
theorem ze_y0 : nextJ (Z 0) (Z 1) ze_h0 [(7, 7), (5, 19), (3, 3), (1, 1)] (roundC Try.prog [] [(13, chkoeo), (13, chkooo)] [] 3000 40 7 [4, 0, 1, 1, 1, 1, 1, 1] (tellA ze_t0) (Z 0)) = some ze_d0 := by kernel_rfl
abbrev asSb16 : Q × Bool := ((.fit .i64 (.var 3)), true)
abbrev asSb17 : Q × Bool := ((.le (.int 300) (.var 3)), false)
abbrev asSb18 : Q × Bool := ((.le (.bi .mul zSb20 (.int 32)) (.int 281474976710656)), true)
def zo_t0 : List (Q × Bool) := [asSb0, asSb1, asSb9, asSb10, asSb2, asSb3, asSb11, asSb16, asSb17, asSb18]
def zo_d0 : List Duty := [(false, (.un .code (.fn 37 (.bi .pair (.var 0) (.bi .pair zSb21 (.int 0))))), (.un .code (.fn 37 txSb6)))]
def zo_h0 : List (Nat × E) := [(6, (.var 6)), (4, zSb21), (2, (.var 2)), (5, (.var 5)), (11, (.var 11)), (3, zSb20), (1, (.var 1)), (9, (.var 9)), (0, (.var 0))]
theorem zo_h0_a : lookE zo_h0 0 = (.var 0) ∧ lookE zo_h0 1 = (.var 1) ∧ lookE zo_h0 2 = (.var 2) ∧ lookE zo_h0 3 = zSb20 ∧ lookE zo_h0 4 = zSb21 ∧ lookE zo_h0 5 = (.var 5) ∧ lookE zo_h0 6 = (.var 6) ∧ lookE zo_h0 9 = (.var 9) ∧ lookE zo_h0 11 = (.var 11) := ⟨rfl, rfl, rfl, rfl, rfl, rfl, rfl, rfl, rfl⟩
theorem zo_y0 : nextJ (Z 1) (Z 1) zo_h0 [(7, 7), (5, 19), (3, 3), (1, 1)] (roundC Try.prog [] [(13, chkoeo), (13, chkooo)] [] 3000 40 7 [4, 0, 1, 1, 1, 1, 1, 1] (tellA zo_t0) (Z 1)) = some zo_d0 := by kernel_rfl
def zo_t1 : List (Q × Bool) := [asSb0, asSb1, asSb9, asSb10, asSb2, asSb3, asSb12]
def zo_d1 : List Duty := [zSb15, zSb15, zSb15, (false, (.un .code (.var 4)), (.un .code (.fn 37 txSb6)))]
theorem zo_y1 : endD (Z 1) [(5, 5), (1, 1), (3, 3), (7, 7)] 1000 (roundC Try.prog [] [(13, chkoeo), (13, chkooo)] [] 3000 40 7 [4, 0, 1, 1, 1, 1, 1, 1] (tellA zo_t1) (Z 1)) = some zo_d1 := by kernel_rfl
set_option maxHeartbeats 16000000 in
theorem Z_holds : ∀ i, i < 2 → LHolds Try.prog (loopAt Try.prog 7 [4, 0, 1, 1, 1, 1, 1, 1]) (Z i) F := by
 refine loop_famC sound (tableNil _ _) (specsCons chkoeo_holds (specsCons chkooo_holds (specsNil _ _))) (oversNil _ _) (fuel := 3000) (depth := 40) (by kernel_rfl) (fun i d => match i with | 0 => ((2000 : Int) - 0).toNat | _ => ((2000 : Int) - (d 3).toInt).toNat) ?_
 intro i hi d hp hR hA
 match i, hi with
 | 0, _ =>
   have hp := allTold'_iff.2 hp
   simp only [Z, ze, tl] at hp hR hA
   simp only [F34, D.toInt_int] at hp
   obtain ⟨pa, pb, pc⟩ := hp
   have pa := one_of pa
   obtain ⟨a0, a1, a2⟩ := almost_iff.1 pa
   rw [if_neg (by decide), if_pos (by decide), if_neg (by decide)] at a1
   have tf := tab_in (kind_in (d 0).toInt)
   refine ⟨tellA ze_t0, tellA_ok (allTold'_iff.1 ?_), .inr ⟨1, ze_h0, _, _, by decide, ze_y0, dutiesTold_ok ?_, allTold'_iff.1 ?_, ?_⟩⟩
   all_goals simp only [ze_t0, ze_d0, Z, ze, zo, ze_h0_a, F32, F34, F35, F36, F37, D.ints_ofInts, tl]
   all_goals first | done | omega | trivial | (and_intros <;> first | omega | trivial | (exact wrong_iff.2 ⟨a0, by omega, a2⟩) | (exact one_to (almost_iff.2 ⟨a0, by simp; omega, a2⟩)) | (exact one_to (almost_iff.2 ⟨a0, by simp; omega, fine_snoc a2⟩)) | (exact pad_step (by omega)) | (exact (pad_end (by omega)).symm) | (exact fun h => by have := wrong_iff.1 h; omega) | (rw [zero_eq]; exact congrArg (fun l => (D.list l).code) (pad_step (x := (D.ofInts []).toList) (by show (0 : Int) ≤ _; omega))))
 | 1, _ =>
   have hp := allTold'_iff.2 hp
   simp only [Z, zo, tl] at hp hR hA
   simp only [F34, D.toInt_int] at hp
   obtain ⟨pa, pb, pc, pd⟩ := hp
   have pa := one_of pa
   obtain ⟨a0, a1, a2⟩ := almost_iff.1 pa
   rw [if_neg (by decide), if_pos (by decide), if_neg (by decide)] at a1
   have tf := tab_in (kind_in (d 0).toInt)
   have h4 : (d 4).ints.length = (d 4).toList.length := List.length_map ..
   have hb : (d 4).toList ≠ [] := fun e => by have := congrArg List.length e; simp only [List.length_nil] at this; omega
   by_cases g : (d 3).toInt ≤ topI (kindI (d 0).toInt) 2
   ·refine ⟨tellA zo_t0, tellA_ok (allTold'_iff.1 ?_), .inr ⟨1, zo_h0, _, _, by decide, zo_y0, dutiesTold_ok ?_, allTold'_iff.1 ?_, ?_⟩⟩
    all_goals simp only [zo_t0, zo_d0, Z, ze, zo, zo_h0_a, F32, F34, F35, F36, F37, D.ints_ofInts, tl]
    all_goals first | done | omega | trivial | (and_intros <;> first | omega | trivial | (exact wrong_iff.2 ⟨a0, by omega, a2⟩) | (exact one_to (almost_iff.2 ⟨a0, by simp; omega, a2⟩)) | (exact one_to (almost_iff.2 ⟨a0, by simp; omega, fine_snoc a2⟩)) | (exact pad_step (by omega)) | (exact (pad_end (by omega)).symm) | (exact fun h => by have := wrong_iff.1 h; omega) | (rw [zero_eq, h4]; exact congrArg (fun l => (D.list l).code) (pad_step (by omega))) | (rw [h4, pad_end (by omega), list_back hb]))
   ·refine ⟨tellA zo_t1, tellA_ok (allTold'_iff.1 ?_), .inl ⟨_, _, _, zo_y1, dutiesTold_ok ?_⟩⟩
    all_goals simp only [zo_t1, zo_d1, Z, ze, zo, F32, F34, F35, F36, F37, D.ints_ofInts, tl]
    all_goals first | done | omega | trivial | (and_intros <;> first | omega | trivial | (exact wrong_iff.2 ⟨a0, by omega, a2⟩) | (exact one_to (almost_iff.2 ⟨a0, by simp; omega, a2⟩)) | (exact one_to (almost_iff.2 ⟨a0, by simp; omega, fine_snoc a2⟩)) | (exact pad_step (by omega)) | (exact (pad_end (by omega)).symm) | (exact fun h => by have := wrong_iff.1 h; omega) | (rw [zero_eq, h4]; exact congrArg (fun l => (D.list l).code) (pad_step (by omega))) | (rw [h4, pad_end (by omega), list_back hb]))
theorem ze_holds : LHolds Try.prog (loopAt Try.prog 7 [4, 0, 1, 1, 1, 1, 1, 1]) ze F := Z_holds 0 (by decide)
theorem zo_holds : LHolds Try.prog (loopAt Try.prog 7 [4, 0, 1, 1, 1, 1, 1, 1]) zo F := Z_holds 1 (by decide)

def awakeC : CSpec := ⟨[], 0, [], [], .bool true, [], []⟩
set_option maxRecDepth 100000 in
theorem awakeC_y : endC awakeC [] 1000 (callW Try.prog F noAsk [] [] [] 8000 80 17 awakeC) = some [] := by kernel_rfl
theorem awakeC_holds : CHolds Try.prog 17 awakeC F := choldsW_of sound (tableNil _ _) (specsNil _ _) (oversNil _ _) (by kernel_rfl) fun d _ _ _ => ⟨noAsk, [], 1000, [], noAsk_ok _, awakeC_y, fun p hp => by cases hp⟩

def tab : List LEntry := [⟨13, [4, 1, 0, 1, 1, 1], numPY⟩, ⟨13, [4, 1, 0, 1, 1, 1], numPN⟩, ⟨13, [4, 1, 0, 1, 1, 1], numOY⟩, ⟨13, [4, 1, 0, 1, 1, 1], numON⟩, ⟨7, [4, 0, 1, 1, 1, 1], ye⟩, ⟨7, [4, 0, 1, 1, 1, 1], yo⟩, ⟨7, [4, 0, 1, 1, 1, 1, 1, 1, 1, 1], we⟩, ⟨7, [4, 0, 1, 1, 1, 1, 1, 1, 1, 1], wo⟩, ⟨7, [4, 0, 1, 1, 1, 1, 1, 1], ze⟩, ⟨7, [4, 0, 1, 1, 1, 1, 1, 1], zo⟩]
def specs : List (FuncId × CSpec) := [(35, shapeC), (13, chkppp), (13, chkoeo), (13, chkooo), (17, awakeC)]
def overs : Overs := []
theorem tab_ok : TableOK Try.prog tab F := tableCons numPY_holds (tableCons numPN_holds (tableCons numOY_holds (tableCons numON_holds (tableCons ye_holds (tableCons yo_holds (tableCons we_holds (tableCons wo_holds (tableCons ze_holds (tableCons zo_holds (tableNil _ _))))))))))
theorem specs_ok : SpecsOK Try.prog specs F := specsCons shapeC_holds (specsCons chkppp_holds (specsCons chkoeo_holds (specsCons chkooo_holds (specsCons awakeC_holds (specsNil _ _)))))
theorem overs_ok : OversOK Try.prog overs F := oversNil _ _
end Go.Proofs.Ytmmfjmmldhnpfaa.Sb
