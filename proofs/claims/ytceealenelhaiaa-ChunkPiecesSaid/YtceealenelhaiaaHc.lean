/-
 Contracts of this seat: what loops and calls leave, for all inputs. No condition.
-/
import Derived.Test.YtceealenelhaiaaSycp
import Derived.Test.YtceealenelhaiaaSyfm
import Derived.Test.YtceealenelhaiaaCo
import Derived.Test.YtceealenelhaiaaGa
import Derived.Test.YtceealenelhaiaaGb
import Derived.Test.YtceealenelhaiaaHa
import Derived.Test.YtceealenelhaiaaHb
set_option linter.unusedSimpArgs false
set_option linter.unusedVariables false
namespace Go.Proofs.Ytceealenelhaiaa.Hc
open Go.RowKit Go.Ev Go.Proofs.Ytceealenelhaiaa.Co

open Go.Proofs.Ytceealenelhaiaa.Ga
open Go.Proofs.Ytceealenelhaiaa.Gb
open Go.Proofs.Ytceealenelhaiaa.Ha
open Go.Proofs.Ytceealenelhaiaa.Hb

abbrev dqHc (a b : E) (j : Int) : Duty := (true, .bi .sel a (.int j), .bi .sel b (.int j))
abbrev vu8Hc (a : E) (j : Int) : AV := .sint .u8 (.bi .sel a (.int j))
abbrev zHc4 : E := (.bi .add (.var 3) (.var 4))
abbrev txHc0 : E := (.bi .add zHc4 (.int 1))
abbrev txHc1 : E := (.bi .pair (.bi .add (.var 3) (.int 1)) (.int 0))
abbrev txHc2 : E := (.bi .pair (.bi .add (.var 6) (.int 1)) (.int 0))
abbrev txHc3 : E := (.bi .pair (.int 0) (.bi .pair (.var 4) (.int 0)))
abbrev txHc4 : E := (.un .code (.fn 41 (.bi .pair (.var 2) (.int 0))))
abbrev txHc5 : E := (.bi .pair (.int 0) (.bi .pair (.int 0) (.int 0)))
abbrev txHc6 : E := (.bi .pair (.int 0) (.bi .pair (.lits []) (.int 0)))
abbrev zHc23 : E := (.bi .add (.var 3) (.int 0))
abbrev txHc7 : E := (.bi .pair zHc23 (.bi .pair (.int 0) (.int 0)))
abbrev txHc8 : E := (.bi .pair (.bi .sel (.var 17) (.var 0)) (.bi .pair (.int 1) (.int 0)))
abbrev txHc9 : E := (.bi .pair (.int 0) (.bi .pair (.bi .add zHc23 (.int 1)) (.int 0)))
abbrev txHc10 : E := (.bi .pair (.int 0) (.bi .pair txHc0 (.int 0)))
abbrev txHc11 : E := (.bi .pair (.var 2) (.bi .pair (.int 0) txHc1))
abbrev txHc12 : E := (.bi .pair (.var 2) (.bi .pair (.int 0) txHc2))
abbrev txHc13 : E := (.bi .pair zHc4 txHc5)
abbrev txHc14 : E := (.bi .pair (.int 0) (.bi .pair (.var 3) txHc5))
abbrev txHc15 : E := (.bi .pair (.int 0) (.bi .pair (.var 6) txHc5))
abbrev txHc16 : E := (.bi .pair zHc23 txHc6)
abbrev zHc30 : E := (.bi .pair (.int 0) txHc6)
abbrev txHc17 : E := (.bi .pair (.var 6) zHc30)
abbrev txHc18 : E := (.bi .pair (.var 3) zHc30)
abbrev txHc19 : E := (.bi .pair zHc4 txHc7)
abbrev txHc20 : E := (.bi .pair zHc4 zHc30)
abbrev zHc27 : E := (.bi .pair (.var 2) txHc14)
abbrev txHc21 : E := (.un .len (.fn 20 zHc27))
abbrev zHc28 : E := (.bi .pair (.var 2) txHc15)
abbrev txHc22 : E := (.un .len (.fn 20 zHc28))
abbrev txHc23 : E := (.bi .pair (.var 2) (.bi .pair (.int 0) txHc13))
abbrev txHc24 : E := (.bi .pair zHc4 txHc16)
abbrev txHc25 : E := (.bi .pair (.var 2) (.bi .pair (.int 0) txHc17))
abbrev txHc26 : E := (.bi .pair (.var 2) (.bi .pair (.int 0) txHc18))
abbrev txHc27 : E := (.bi .pair (.var 2) (.bi .pair (.int 0) txHc19))
abbrev txHc28 : E := (.bi .pair (.var 2) (.bi .pair (.int 0) txHc20))
abbrev txHc29 : E := (.bi .pair (.var 2) (.bi .pair (.int 0) txHc24))
abbrev zHc6 : E := (.fn 21 zHc28)
abbrev zHc0 : Nat × RW := (1, .cells 52 0 false false [.ptr 1 0, .bool true, vu8Hc (.fn 9 txHc12) 0, vu8Hc (.fn 9 txHc12) 1, vu8Hc (.fn 9 txHc12) 2, vu8Hc (.fn 9 txHc12) 3, vu8Hc (.fn 9 txHc12) 4, vu8Hc (.fn 9 txHc12) 5, vu8Hc (.fn 9 txHc12) 6, vu8Hc (.fn 9 txHc12) 7, vu8Hc (.fn 9 txHc12) 8, vu8Hc (.fn 9 txHc12) 9, vu8Hc (.fn 9 txHc12) 10, vu8Hc (.fn 9 txHc12) 11, vu8Hc (.fn 9 txHc12) 12, vu8Hc (.fn 9 txHc12) 13, vu8Hc (.fn 9 txHc12) 14, vu8Hc (.fn 9 txHc12) 15, .sint .i64 (.var 6), .sint .u32 (.fn 11 txHc12), .sslice 3 (.int 0) zHc6 zHc6 true, .bool false])
abbrev zHc1 : Nat × RW := (1, .cells 52 0 false false [.ptr 1 0, .bool true, vu8Hc (.var 7) 0, vu8Hc (.var 7) 1, vu8Hc (.var 7) 2, vu8Hc (.var 7) 3, vu8Hc (.var 7) 4, vu8Hc (.var 7) 5, vu8Hc (.var 7) 6, vu8Hc (.var 7) 7, vu8Hc (.var 7) 8, vu8Hc (.var 7) 9, vu8Hc (.var 7) 10, vu8Hc (.var 7) 11, vu8Hc (.var 7) 12, vu8Hc (.var 7) 13, vu8Hc (.var 7) 14, vu8Hc (.var 7) 15, .sint .i64 (.var 3), .sint .u32 (.var 9), .nilslice, .bool false])
abbrev zHc2 : Nat × RW := (1, .cells 52 0 false false [.ptr 1 0, .bool true, vu8Hc (.fn 9 txHc12) 0, vu8Hc (.fn 9 txHc12) 1, vu8Hc (.fn 9 txHc12) 2, vu8Hc (.fn 9 txHc12) 3, vu8Hc (.fn 9 txHc12) 4, vu8Hc (.fn 9 txHc12) 5, vu8Hc (.fn 9 txHc12) 6, vu8Hc (.fn 9 txHc12) 7, vu8Hc (.fn 9 txHc12) 8, vu8Hc (.fn 9 txHc12) 9, vu8Hc (.fn 9 txHc12) 10, vu8Hc (.fn 9 txHc12) 11, vu8Hc (.fn 9 txHc12) 12, vu8Hc (.fn 9 txHc12) 13, vu8Hc (.fn 9 txHc12) 14, vu8Hc (.fn 9 txHc12) 15, .sint .i64 (.var 6), .sint .u32 (.fn 11 txHc12), .nilslice, .bool false])
abbrev zHc5 : E := (.fn 21 zHc27)
abbrev zHc3 : Nat × RW := (1, .cells 52 0 false false [.ptr 1 0, .bool true, vu8Hc (.var 7) 0, vu8Hc (.var 7) 1, vu8Hc (.var 7) 2, vu8Hc (.var 7) 3, vu8Hc (.var 7) 4, vu8Hc (.var 7) 5, vu8Hc (.var 7) 6, vu8Hc (.var 7) 7, vu8Hc (.var 7) 8, vu8Hc (.var 7) 9, vu8Hc (.var 7) 10, vu8Hc (.var 7) 11, vu8Hc (.var 7) 12, vu8Hc (.var 7) 13, vu8Hc (.var 7) 14, vu8Hc (.var 7) 15, .sint .i64 (.var 3), .sint .u32 (.var 9), .sslice 3 (.int 0) zHc5 zHc5 true, .bool false])
abbrev zHc7 : Nat × RW := (1, .cells 52 0 false false [.ptr 1 0, .bool true, .int .u8 0, .int .u8 0, .int .u8 0, .int .u8 0, .int .u8 0, .int .u8 0, .int .u8 0, .int .u8 0, .int .u8 0, .int .u8 0, .int .u8 0, .int .u8 0, .int .u8 0, .int .u8 0, .int .u8 0, .int .u8 0, .int .i64 0, .int .u32 0, .nilslice, .bool false])
abbrev zHc29 : E := (.un .len (.fn 30 txHc29))
abbrev zHc8 : Duty := (true, zHc29, (.un .len (.fn 30 txHc28)))
abbrev zHc20 : E := (.un .len (.fn 30 txHc26))
abbrev zHc15 : E := (.un .len (.fn 30 txHc25))
abbrev zHc9 : Duty := (true, zHc20, zHc15)
abbrev zHc10 : E := (.bi .add (.var 0) (.int 1))
abbrev zHc11 : E := (.bi .pair (.var 2) txHc10)
abbrev zHc12 : Nat × RW := (3, .seq ⟨5, .u8, .fn 21 zHc28, .fn 22 txHc25, true, false⟩)
abbrev zHc13 : Nat × RW := (11, .vseq ⟨22, (.sl (.int .u8)), .un .len (.fn 30 txHc25), .fn 30 txHc25, true⟩)
abbrev zHc14 : Duty := (true, (.fn 21 txHc27), (.fn 21 txHc23))
abbrev zHc16 : E := (.fn 40 (.bi .pair (.var 0) txHc3))
abbrev zHc17 : Nat × RW := (17, .eseq ⟨.u8, .var 6, .var 2⟩)
abbrev zHc18 : E := (.bi .sub (.var 14) (.var 4))
abbrev zHc19 : E := (.bi .add (.int 0) (.int 1))
abbrev zHc21 : Nat × RW := (3, .seq ⟨5, .u8, .fn 21 zHc27, .fn 22 txHc26, true, false⟩)
abbrev zHc22 : Nat × RW := (11, .vseq ⟨22, (.sl (.int .u8)), .un .len (.fn 30 txHc26), .fn 30 txHc26, true⟩)
abbrev zHc24 : Duty := (false, (.un .code (.fn 30 txHc29)), (.un .code (.fn 30 txHc28)))
abbrev zHc25 : Duty := (false, (.un .code (.fn 30 txHc26)), (.un .code (.fn 30 txHc25)))
abbrev zHc26 : Duty := (true, (.var 9), (.fn 11 txHc12))
abbrev zHc31 : Duty := (true, (.var 3), (.var 6))
def sameOO : LSpec := { n := 27, next := 2, pat := [(0, .vslice 1 1 (.int 0) (.var 7) (.var 7) true), (1, .vslice 3 1 (.int 0) (.var 7) (.var 7) true), (5, .sint .i64 (.var 0))], rows := [(1, .vseq ⟨22, (.sl (.int .u8)), .var 7, .var 6, true⟩), (3, .vseq ⟨22, (.sl (.int .u8)), .var 7, .var 8, true⟩)], pre := [(.le (.int 0) (.var 0), true), (.le (.var 0) (.var 7), true), (.le (.var 7) (.int 20001), true), (.same (.un .code (.var 6)) (.un .code (.var 8)), true)], x := 0, fin := [], frows := [], same := [], chg := [0, 1, 5, 11, 12, 13, 14, 15, 16, 17, 18, 19, 20, 21, 22, 23, 24, 25, 26] }
abbrev asHc0 : Q × Bool := ((.fit .i64 (.var 7)), true)
abbrev asHc1 : Q × Bool := ((.le (.var 7) (.var 0)), false)
abbrev asHc2 : Q × Bool := ((.le (.int 0) (.var 0)), true)
abbrev asHc3 : Q × Bool := ((.same (.bi .sel (.var 6) (.var 0)) (.bi .sel (.var 8) (.var 0))), true)
abbrev asHc4 : Q × Bool := ((.fit .i64 zHc10), true)
def sameOO_t0 : List (Q × Bool) := [asHc0, asHc1, asHc2, asHc3, asHc4]
def sameOO_d0 : List Duty := []
def sameOO_h0 : List (Nat × E) := [(8, (.var 8)), (6, (.var 6)), (0, zHc10), (7, (.var 7))]
theorem sameOO_h0_a : lookE sameOO_h0 0 = zHc10 ∧ lookE sameOO_h0 6 = (.var 6) ∧ lookE sameOO_h0 7 = (.var 7) ∧ lookE sameOO_h0 8 = (.var 8) := ⟨rfl, rfl, rfl, rfl⟩
theorem sameOO_y0 : nextD sameOO sameOO_h0 [(3, 3), (1, 1)] (roundC Try.prog [] [] [] 3000 40 11 [4, 1, 0, 1, 1] (tellA sameOO_t0) sameOO) = some sameOO_d0 := by kernel_rfl
abbrev asHc5 : Q × Bool := ((.le (.var 7) (.var 0)), true)
def sameOO_t1 : List (Q × Bool) := [asHc0, asHc5]
def sameOO_d1 : List Duty := []
theorem sameOO_y1 : endD sameOO [(3, 3), (1, 1)] 1000 (roundC Try.prog [] [] [] 3000 40 11 [4, 1, 0, 1, 1] (tellA sameOO_t1) sameOO) = some sameOO_d1 := by kernel_rfl
theorem sameOO_holds : LHolds Try.prog (loopAt Try.prog 11 [4, 1, 0, 1, 1]) sameOO F := by
 refine loop_roundsC sound (tableNil _ _) (specsNil _ _) (oversNil _ _) (fuel := 3000) (depth := 40) (by kernel_rfl) (by kernel_rfl) (by kernel_rfl) (fun d => ((d 7).toInt - (d 0).toInt).toNat) fun d hp hR hA => ?_
 have hp := allTold'_iff.2 hp
 simp only [sameOO, tl] at hp hR hA
 obtain ⟨p0, p1, p2, p3⟩ := hp
 have e := (D.code_inj (d 6) (d 8) [] [] (by rw [p3])).1
 have h8 : (d 8).ints.length = (d 8).toList.length := List.length_map ..
 rw [e] at hR
 by_cases h : (d 7).toInt ≤ (d 0).toInt
 ·refine ⟨tellA sameOO_t1, tellA_ok (allTold'_iff.1 ?_), .inl ⟨_, _, _, sameOO_y1, dutiesTold_ok ?_⟩⟩
  ·simp only [sameOO_t1, tl]
   omega
  ·simp only [sameOO_d1, tl]
 ·refine ⟨tellA sameOO_t0, tellA_ok (allTold'_iff.1 ?_), .inr ⟨sameOO_h0, _, _, sameOO_y0, dutiesTold_ok ?_, allTold'_iff.1 ?_, ?_⟩⟩
  ·simp only [sameOO_t0, e, tl]
   first | done | (and_intros <;> first | omega | rfl | trivial)
  ·simp only [sameOO_d0, tl]
  ·simp only [sameOO, sameOO_h0_a, e, tl]
   first | done | (and_intros <;> first | omega | rfl | trivial)
  ·simp only [sameOO_h0_a, tl]
   omega

def qE : LSpec := { n := 93, next := 10, pat := [(0, .empty), (1, .sslice 19 (.int 0) (.var 15) (.var 16) false), (6, .ptr 1 0), (7, .nilslice), (8, .empty), (9, .sint .i64 (.var 0))], rows := [zHc7, (19, .eseq ⟨.i64, .var 15, .var 17⟩)], pre := [(.le (.int 0) (.var 0), true), (.le (.var 0) (.bi .add (.var 15) (.int 1)), true), (.le (.var 15) (.int 100), true)], x := 0, fin := [(0, .empty), (6, .ptr 1 0), (7, .nilslice)], frows := [zHc7], same := [1], chg := [0, 1, 6, 7, 8, 9, 10, 11, 12, 29, 30, 31, 32, 33, 34, 35, 36, 37, 38, 39, 40, 41, 42, 43, 44, 45, 46, 47, 48, 49, 50, 51, 52, 53, 54, 55, 56, 57, 58, 59, 60, 61, 62, 63, 64, 65, 66, 67, 68, 69] }
abbrev asHc6 : Q × Bool := ((.fit .i64 (.var 15)), true)
abbrev asHc7 : Q × Bool := ((.le (.var 0) (.var 15)), true)
abbrev asHc8 : Q × Bool := ((.le (.var 15) (.var 0)), false)
abbrev asHc9 : Q × Bool := ((.le (.int 0) (.fn 7 txHc8)), true)
abbrev asHc10 : Q × Bool := ((.le (.fn 7 txHc8) (.int 0)), true)
def qE_t0 : List (Q × Bool) := [asHc6, asHc7, asHc8, asHc2, asHc9, asHc10, asHc4]
def qE_d0 : List Duty := []
def qE_h0 : List (Nat × E) := [(17, (.var 17)), (0, zHc10), (15, (.var 15)), (16, (.var 16))]
theorem qE_h0_a : lookE qE_h0 0 = zHc10 ∧ lookE qE_h0 15 = (.var 15) ∧ lookE qE_h0 16 = (.var 16) ∧ lookE qE_h0 17 = (.var 17) := ⟨rfl, rfl, rfl, rfl⟩
theorem qE_y0 : nextD qE qE_h0 [(1, 1), (19, 19)] (roundC Try.prog [] [(7, pickC)] [] 3000 40 3 [4, 1, 0, 1, 1, 1, 1, 1, 1, 1] (tellA qE_t0) qE) = some qE_d0 := by kernel_rfl
abbrev asHc11 : Q × Bool := ((.le (.var 15) (.var 0)), true)
def qE_t1 : List (Q × Bool) := [asHc6, asHc7, asHc11, asHc4]
def qE_d1 : List Duty := []
def qE_h1 : List (Nat × E) := [(17, (.var 17)), (0, zHc10), (15, (.var 15)), (16, (.var 16))]
theorem qE_h1_a : lookE qE_h1 0 = zHc10 ∧ lookE qE_h1 15 = (.var 15) ∧ lookE qE_h1 16 = (.var 16) ∧ lookE qE_h1 17 = (.var 17) := ⟨rfl, rfl, rfl, rfl⟩
theorem qE_y1 : nextD qE qE_h1 [(1, 1), (19, 19)] (roundC Try.prog [] [(7, pickC)] [] 3000 40 3 [4, 1, 0, 1, 1, 1, 1, 1, 1, 1] (tellA qE_t1) qE) = some qE_d1 := by kernel_rfl
abbrev asHc12 : Q × Bool := ((.le (.var 0) (.var 15)), false)
def qE_t2 : List (Q × Bool) := [asHc6, asHc12]
def qE_d2 : List Duty := []
theorem qE_y2 : endD qE [(1, 1), (19, 19)] 1000 (roundC Try.prog [] [(7, pickC)] [] 3000 40 3 [4, 1, 0, 1, 1, 1, 1, 1, 1, 1] (tellA qE_t2) qE) = some qE_d2 := by kernel_rfl
theorem qE_holds : LHolds Try.prog (loopAt Try.prog 3 [4, 1, 0, 1, 1, 1, 1, 1, 1, 1]) qE F := by
 refine loop_roundsC sound (tableNil _ _) (specsCons pickC_holds (specsNil _ _)) (oversNil _ _) (fuel := 3000) (depth := 40) (by kernel_rfl) (by kernel_rfl) (by kernel_rfl) (fun d => ((d 15).toInt + 1 - (d 0).toInt).toNat) fun d hp hR hA => ?_
 have hp := allTold'_iff.2 hp
 simp only [qE, tl] at hp hR hA
 obtain ⟨p0, p1, p2⟩ := hp
 by_cases h : (d 15).toInt < (d 0).toInt
 ·refine ⟨tellA qE_t2, tellA_ok (allTold'_iff.1 ?_), .inl ⟨_, _, _, qE_y2, dutiesTold_ok ?_⟩⟩
  ·simp only [qE_t2, F7, Int.emod_one, tl]
   first | done | (and_intros <;> first | omega | rfl | trivial)
  ·simp only [qE_d2, tl]
 by_cases g : (d 15).toInt ≤ (d 0).toInt
 ·refine ⟨tellA qE_t1, tellA_ok (allTold'_iff.1 ?_), .inr ⟨qE_h1, _, _, qE_y1, dutiesTold_ok ?_, allTold'_iff.1 ?_, ?_⟩⟩
  ·simp only [qE_t1, F7, Int.emod_one, tl]
   first | done | (and_intros <;> first | omega | rfl | trivial)
  ·simp only [qE_d1, tl]
  ·simp only [qE, qE_h1_a, tl]
   first | done | (and_intros <;> first | omega | rfl | trivial)
  ·simp only [qE_h1_a, tl]
   omega
 refine ⟨tellA qE_t0, tellA_ok (allTold'_iff.1 ?_), .inr ⟨qE_h0, _, _, qE_y0, dutiesTold_ok ?_, allTold'_iff.1 ?_, ?_⟩⟩
 ·simp only [qE_t0, F7, Int.emod_one, tl]
  first | done | (and_intros <;> first | omega | rfl | trivial)
 ·simp only [qE_d0, tl]
 ·simp only [qE, qE_h0_a, tl]
  first | done | (and_intros <;> first | omega | rfl | trivial)
 ·simp only [qE_h0_a, tl]
  omega

def rA00 : LSpec := { n := 93, next := 10, pat := [(0, .sslice 17 (.int 0) (.var 6) (.var 13) false), (1, .empty), (6, .ptr 1 0), (7, .nilslice), (8, .sslice 17 (.var 3) (.var 4) (.var 14) false), (9, .sint .i64 (.var 0))], rows := [zHc1, zHc17], pre := [(.le (.int 0) (.var 0), true), (.le (.var 0) zHc19, true), (.eq zHc16 (.int 1), true), (.le (.int 0) (.int 100), true), (.le (.var 6) (.int 8000), true), (.le (.int 1) (.var 6), true), (.le (.int 0) (.var 3), true), (.le (.int 0) (.var 4), true), (.eq zHc4 (.var 6), true), (.le (.var 4) (.var 14), true), (.same (.un .code (.var 2)) txHc4, true), (.same (.var 7) (.fn 9 txHc11), true), (.eq (.var 9) (.fn 11 txHc11), true), (.le (.int 1) zHc5, false), (.le (.int 1) txHc21, false), (.le (.int 1) zHc6, true), (.le (.int 1) txHc22, false), (.le (.var 0) (.int 0), true)], x := 0, fin := [(0, .sslice 17 (.int 0) (.var 6) (.var 13) false), (6, .ptr 1 0), (7, .nilslice)], frows := [zHc0, zHc12], same := [1, 17], chg := [0, 1, 6, 7, 8, 9, 10, 11, 12, 29, 30, 31, 32, 33, 34, 35, 36, 37, 38, 39, 40, 49, 50, 51, 52, 53, 54, 55, 56, 57, 58, 59, 60, 61, 62, 63, 64, 65, 66, 67, 68, 69] }
def rA10 : LSpec := { n := 93, next := 10, pat := [(0, .sslice 17 (.int 0) (.var 6) (.var 13) false), (1, .empty), (6, .ptr 1 0), (7, .nilslice), (8, .sslice 17 (.var 3) (.var 4) (.var 14) false), (9, .sint .i64 (.var 0))], rows := [zHc3, zHc17, zHc21], pre := [(.le (.int 0) (.var 0), true), (.le (.var 0) zHc19, true), (.eq zHc16 (.int 1), true), (.le (.int 0) (.int 100), true), (.le (.var 6) (.int 8000), true), (.le (.int 1) (.var 6), true), (.le (.int 0) (.var 3), true), (.le (.int 0) (.var 4), true), (.eq zHc4 (.var 6), true), (.le (.var 4) (.var 14), true), (.same (.un .code (.var 2)) txHc4, true), (.same (.var 7) (.fn 9 txHc11), true), (.eq (.var 9) (.fn 11 txHc11), true), (.le (.int 1) zHc5, true), (.le (.int 1) txHc21, false), (.le (.int 1) zHc6, true), (.le (.int 1) txHc22, false), (.le (.int 1) (.var 0), true)], x := 0, fin := [(0, .sslice 17 (.int 0) (.var 6) (.var 13) false), (6, .ptr 1 0), (7, .nilslice)], frows := [zHc0, zHc12], same := [1, 17], chg := [0, 1, 6, 7, 8, 9, 10, 11, 12, 29, 30, 31, 32, 33, 34, 35, 36, 37, 38, 39, 40, 49, 50, 51, 52, 53, 54, 55, 56, 57, 58, 59, 60, 61, 62, 63, 64, 65, 66, 67, 68, 69] }
def rA : Nat → LSpec
 | 0 => rA00
 | _ => rA10
abbrev asHc13 : Q × Bool := ((.le (.var 0) (.int 0)), true)
abbrev asHc14 : Q × Bool := ((.fit .i64 (.var 4)), true)
abbrev asHc15 : Q × Bool := ((.le (.int 0) (.var 4)), true)
abbrev asHc16 : Q × Bool := ((.le (.var 4) (.var 14)), true)
abbrev asHc17 : Q × Bool := ((.le (.int 0) (.var 3)), true)
abbrev asHc18 : Q × Bool := ((.le zHc4 (.var 6)), true)
abbrev asHc19 : Q × Bool := ((.le zHc4 (.int 20000)), true)
abbrev asHc20 : Q × Bool := ((.same (.var 7) (.fn 9 (.bi .pair (.var 2) txHc9))), true)
abbrev asHc21 : Q × Bool := ((.eq (.var 3) zHc23), true)
abbrev asHc22 : Q × Bool := ((.eq (.var 9) (.fn 11 (.bi .pair (.var 2) txHc9))), true)
abbrev asHc23 : Q × Bool := ((.le (.int 1) (.fn 21 txHc27)), true)
abbrev asHc24 : Q × Bool := ((.le (.int 1) (.un .len (.fn 20 txHc27))), false)
abbrev asHc25 : Q × Bool := ((.fit .i64 (.fn 21 txHc27)), true)
abbrev asHc26 : Q × Bool := ((.le (.fn 21 txHc27) (.int 1024)), true)
def rA00_t0 : List (Q × Bool) := [asHc13, asHc14, asHc2, asHc15, asHc16, asHc17, asHc18, asHc19, asHc20, asHc21, asHc22, asHc23, asHc24, asHc25, asHc26, asHc4]
def rA00_d0 : List Duty := [zHc14, zHc14, zHc14, (false, (.fn 22 txHc29), (.fn 22 txHc28))]
def rA00_h0 : List (Nat × E) := [(2, (.var 2)), (9, (.fn 11 zHc11)), (7, (.fn 9 zHc11)), (0, zHc10), (3, zHc4), (4, (.int 0)), (14, zHc18), (6, (.var 6)), (13, (.var 13))]
theorem rA00_h0_a : lookE rA00_h0 0 = zHc10 ∧ lookE rA00_h0 2 = (.var 2) ∧ lookE rA00_h0 3 = zHc4 ∧ lookE rA00_h0 4 = (.int 0) ∧ lookE rA00_h0 6 = (.var 6) ∧ lookE rA00_h0 7 = (.fn 9 zHc11) ∧ lookE rA00_h0 9 = (.fn 11 zHc11) ∧ lookE rA00_h0 13 = (.var 13) ∧ lookE rA00_h0 14 = zHc18 := ⟨rfl, rfl, rfl, rfl, rfl, rfl, rfl, rfl, rfl⟩
noncomputable abbrev ltHc0 : List LEntry := [⟨26, [4, 1], jA00⟩, ⟨26, [4, 1], jA10⟩, ⟨26, [4, 1], jB00⟩, ⟨26, [4, 1], jB10⟩, ⟨26, [4, 1], jC00⟩, ⟨26, [4, 1], jC10⟩, ⟨26, [4, 1], jD00⟩]
theorem rA00_y0 : nextJ (rA 0) (rA 1) rA00_h0 [(3, 31), (1, 1), (17, 17)] (roundC Try.prog ltHc0 [(7, pickC)] [] 3000 40 3 [4, 1, 0, 1, 1, 1, 1, 1, 1, 1] (tellA rA00_t0) (rA 0)) = some rA00_d0 := by kernel_rfl
abbrev asHc27 : Q × Bool := ((.le (.var 0) (.int 0)), false)
def rA10_t0 : List (Q × Bool) := [asHc27]
def rA10_d0 : List Duty := [dqHc (.var 7) (.fn 9 txHc12) 0, dqHc (.var 7) (.fn 9 txHc12) 1, dqHc (.var 7) (.fn 9 txHc12) 2, dqHc (.var 7) (.fn 9 txHc12) 3, dqHc (.var 7) (.fn 9 txHc12) 4, dqHc (.var 7) (.fn 9 txHc12) 5, dqHc (.var 7) (.fn 9 txHc12) 6, dqHc (.var 7) (.fn 9 txHc12) 7, dqHc (.var 7) (.fn 9 txHc12) 8, dqHc (.var 7) (.fn 9 txHc12) 9, dqHc (.var 7) (.fn 9 txHc12) 10, dqHc (.var 7) (.fn 9 txHc12) 11, dqHc (.var 7) (.fn 9 txHc12) 12, dqHc (.var 7) (.fn 9 txHc12) 13, dqHc (.var 7) (.fn 9 txHc12) 14, dqHc (.var 7) (.fn 9 txHc12) 15, zHc31, zHc26, (true, zHc5, zHc6), (true, zHc5, zHc6), (true, zHc5, zHc6), (false, (.fn 22 txHc26), (.fn 22 txHc25))]
theorem rA10_y0 : endD (rA 1) [(3, 3), (1, 1), (17, 17)] 1000 (roundC Try.prog ltHc0 [(7, pickC)] [] 3000 40 3 [4, 1, 0, 1, 1, 1, 1, 1, 1, 1] (tellA rA10_t0) (rA 1)) = some rA10_d0 := by kernel_rfl
set_option maxHeartbeats 16000000 in
theorem rA_holds : ∀ i, i < 2 → LHolds Try.prog (loopAt Try.prog 3 [4, 1, 0, 1, 1, 1, 1, 1, 1, 1]) (rA i) F := by
 refine loop_famC sound (tableCons jA00_holds (tableCons jA10_holds (tableCons jB00_holds (tableCons jB10_holds (tableCons jC00_holds (tableCons jC10_holds (tableCons jD00_holds (tableNil _ _)))))))) (specsCons pickC_holds (specsNil _ _)) (oversNil _ _) (fuel := 3000) (depth := 40) (by kernel_rfl) (fun i d => match i with | 0 => (0 + 1 - (d 0).toInt).toNat | _ => (0 + 1 - (d 0).toInt).toNat) ?_
 intro i hi d hp hR hA
 match i, hi with
 | 0, _ =>
   have hp := allTold'_iff.2 hp
   simp only [rA, rA00, tl] at hp hR hA
   simp only [F9, F11, F20, F21, F40, F41, D.toInt_int, D.ints_ofInts, UO.den] at hp
   obtain ⟨p0, p1, p2, p3, p4, p5, p6, p7, p8, p9, p10, p11, p12, p13, p14, p15, p16, p17⟩ := hp
   have p2 := one_of p2
   have hX := canon p10
   have hxl : (d 2).ints.length = (d 6).toInt := by omega
   have hm := cuts_in (x := (d 2).ints) (o := 0) (t := (d 3).toInt) (i := 0) (n := 0) (Int.le_refl 0) p6
   have hm9 := cuts_small (x := (d 2).ints) (o := 0) (t := (d 3).toInt) (i := 0) (n := 0) (by omega)
   have m0 : (cutsT (d 2).ints 0 (d 3).toInt 0 0).2 = 0 := by omega
   by_cases hx : (d 0).toInt ≤ 0
   ·by_cases hi : 0 ≤ (d 0).toInt
    ·have ht0 : 0 ≤ (d 4).toInt := by omega
     have ht1 : (d 3).toInt + (d 4).toInt ≤ (d 6).toInt := by omega
     obtain ⟨hs, hc, hl, hk, he, hm8, hn1, hn2, h1, h2, h3, h4⟩ := leafs (t := (d 3).toInt + (d 4).toInt) hX p6 (by omega) ht1 hxl m0 (left_nil p6 (by omega) m0)
     rw [List.nil_append] at hl
     have q15 := p15
     have q16 := p16
     rw [← p8] at q15 q16
     have hg0 : chT (d 2) 0 (d 3).toInt 0 0 (D.ofInts []) = [] := List.eq_nil_of_length_eq_zero (by rw [ch_len]; omega)
     by_cases ha : 1 ≤ (cutsT (d 2).ints 0 ((d 3).toInt + (d 4).toInt) (d 3).toInt 0).2
     ·by_cases hb : 0 < (cutsT (d 2).ints 0 ((d 3).toInt + (d 4).toInt) (d 3).toInt 0).1.length
      ·exfalso
       omega
      have hC0 : chT (d 2) 0 ((d 3).toInt + (d 4).toInt) (d 3).toInt 0 (D.ofInts []) = [] := List.eq_nil_of_length_eq_zero (by rw [ch_len]; omega)
      refine ⟨tellA rA00_t0, tellA_ok (allTold'_iff.1 ?_), .inr ⟨1, rA00_h0, _, _, by decide, rA00_y0, dutiesTold_ok ?_, allTold'_iff.1 ?_, ?_⟩⟩
      all_goals try simp only [rA00_t0, rA00_d0, rA, rA00, rA10, rA00_h0_a, fq, hc, hg0, hC0, ch_len, tl]
      all_goals first | done | omega | (and_intros <;> first | omega | assumption | rfl | exact one_to (.inl (by omega)) | exact one_to (.inr (by omega)) | exact one_to (.inr trivial) | exact trivial)
     by_cases hb : 0 < (cutsT (d 2).ints 0 ((d 3).toInt + (d 4).toInt) (d 3).toInt 0).1.length
     ·exfalso
      omega
     exfalso
     have hz := cuts_none (x := (d 2).ints) (o := 0) (t := (d 3).toInt + (d 4).toInt) (i := (d 3).toInt) (n := 0) (by omega) (by omega) (by omega) (by omega)
     omega
    exfalso
    omega
   exfalso
   omega
 | 1, _ =>
   have hp := allTold'_iff.2 hp
   simp only [rA, rA10, tl] at hp hR hA
   simp only [F9, F11, F20, F21, F40, F41, D.toInt_int, D.ints_ofInts, UO.den] at hp
   obtain ⟨p0, p1, p2, p3, p4, p5, p6, p7, p8, p9, p10, p11, p12, p13, p14, p15, p16, p17⟩ := hp
   have p2 := one_of p2
   have hX := canon p10
   have hxl : (d 2).ints.length = (d 6).toInt := by omega
   have hm := cuts_in (x := (d 2).ints) (o := 0) (t := (d 3).toInt) (i := 0) (n := 0) (Int.le_refl 0) p6
   have hm9 := cuts_small (x := (d 2).ints) (o := 0) (t := (d 3).toInt) (i := 0) (n := 0) (by omega)
   have ex : (d 3).toInt = (d 6).toInt := by omega
   rw [ex] at p11 p12
   refine ⟨tellA rA10_t0, tellA_ok (allTold'_iff.1 ?_), .inl ⟨_, _, _, rA10_y0, dutiesTold_ok ?_⟩⟩
   ·simp only [rA10_t0, fq, tl]
    first | done | (and_intros <;> first | omega | assumption | rfl | exact one_to (.inl (by omega)) | exact one_to (.inr (by omega)) | exact one_to (.inr trivial) | exact trivial)
   ·simp only [rA10_d0, fq, ex, p11, tl]
    first | done | (and_intros <;> first | omega | assumption | rfl | exact one_to (.inl (by omega)) | exact one_to (.inr (by omega)) | exact one_to (.inr trivial) | exact trivial)
theorem rA00_holds : LHolds Try.prog (loopAt Try.prog 3 [4, 1, 0, 1, 1, 1, 1, 1, 1, 1]) rA00 F := rA_holds 0 (by decide)
theorem rA10_holds : LHolds Try.prog (loopAt Try.prog 3 [4, 1, 0, 1, 1, 1, 1, 1, 1, 1]) rA10 F := rA_holds 1 (by decide)

def rB00 : LSpec := { n := 93, next := 10, pat := [(0, .sslice 17 (.int 0) (.var 6) (.var 13) false), (1, .empty), (6, .ptr 1 0), (7, .nilslice), (8, .sslice 17 (.var 3) (.var 4) (.var 14) false), (9, .sint .i64 (.var 0))], rows := [zHc1, zHc17], pre := [(.le (.int 0) (.var 0), true), (.le (.var 0) zHc19, true), (.eq zHc16 (.int 1), true), (.le (.int 0) (.int 100), true), (.le (.var 6) (.int 8000), true), (.le (.int 1) (.var 6), true), (.le (.int 0) (.var 3), true), (.le (.int 0) (.var 4), true), (.eq zHc4 (.var 6), true), (.le (.var 4) (.var 14), true), (.same (.un .code (.var 2)) txHc4, true), (.same (.var 7) (.fn 9 txHc11), true), (.eq (.var 9) (.fn 11 txHc11), true), (.le (.int 1) zHc5, false), (.le (.int 1) txHc21, false), (.le (.int 1) zHc6, false), (.le (.int 1) txHc22, true), (.le (.var 0) (.int 0), true)], x := 0, fin := [(0, .sslice 17 (.int 0) (.var 6) (.var 13) false), (6, .ptr 1 0), (7, .vslice 11 1 (.int 0) zHc15 zHc15 true)], frows := [zHc2, zHc13], same := [1, 17], chg := [0, 1, 6, 7, 8, 9, 10, 11, 12, 29, 30, 31, 32, 33, 34, 35, 36, 37, 38, 39, 40, 49, 50, 51, 52, 53, 54, 55, 56, 57, 58, 59, 60, 61, 62, 63, 64, 65, 66, 67, 68, 69] }
def rB01 : LSpec := { n := 93, next := 10, pat := [(0, .sslice 17 (.int 0) (.var 6) (.var 13) false), (1, .empty), (6, .ptr 1 0), (7, .vslice 11 1 (.int 0) zHc20 zHc20 true), (8, .sslice 17 (.var 3) (.var 4) (.var 14) false), (9, .sint .i64 (.var 0))], rows := [zHc1, zHc17, zHc22], pre := [(.le (.int 0) (.var 0), true), (.le (.var 0) zHc19, true), (.eq zHc16 (.int 1), true), (.le (.int 0) (.int 100), true), (.le (.var 6) (.int 8000), true), (.le (.int 1) (.var 6), true), (.le (.int 0) (.var 3), true), (.le (.int 0) (.var 4), true), (.eq zHc4 (.var 6), true), (.le (.var 4) (.var 14), true), (.same (.un .code (.var 2)) txHc4, true), (.same (.var 7) (.fn 9 txHc11), true), (.eq (.var 9) (.fn 11 txHc11), true), (.le (.int 1) zHc5, false), (.le (.int 1) txHc21, true), (.le (.int 1) zHc6, false), (.le (.int 1) txHc22, true), (.le (.int 1) (.var 0), true)], x := 0, fin := [(0, .sslice 17 (.int 0) (.var 6) (.var 13) false), (6, .ptr 1 0), (7, .vslice 11 1 (.int 0) zHc15 zHc15 true)], frows := [zHc2, zHc13], same := [1, 17], chg := [0, 1, 6, 7, 8, 9, 10, 11, 12, 29, 30, 31, 32, 33, 34, 35, 36, 37, 38, 39, 40, 49, 50, 51, 52, 53, 54, 55, 56, 57, 58, 59, 60, 61, 62, 63, 64, 65, 66, 67, 68, 69] }
def rB : Nat → LSpec
 | 0 => rB00
 | _ => rB01
abbrev asHc28 : Q × Bool := ((.le (.int 1) (.fn 21 txHc27)), false)
abbrev asHc29 : Q × Bool := ((.le (.int 1) (.un .len (.fn 20 txHc27))), true)
abbrev asHc30 : Q × Bool := ((.eq zHc29 (.int 0)), false)
abbrev asHc31 : Q × Bool := ((.le (.bi .mul zHc29 (.int 48)) (.int 281474976710656)), true)
def rB00_t0 : List (Q × Bool) := [asHc13, asHc14, asHc2, asHc15, asHc16, asHc17, asHc18, asHc19, asHc20, asHc21, asHc22, asHc28, asHc29, asHc30, asHc31, asHc4]
def rB00_d0 : List Duty := [zHc8, zHc8, zHc8, zHc24]
def rB00_h0 : List (Nat × E) := [(2, (.var 2)), (9, (.fn 11 zHc11)), (7, (.fn 9 zHc11)), (0, zHc10), (3, zHc4), (4, (.int 0)), (14, zHc18), (6, (.var 6)), (13, (.var 13))]
theorem rB00_h0_a : lookE rB00_h0 0 = zHc10 ∧ lookE rB00_h0 2 = (.var 2) ∧ lookE rB00_h0 3 = zHc4 ∧ lookE rB00_h0 4 = (.int 0) ∧ lookE rB00_h0 6 = (.var 6) ∧ lookE rB00_h0 7 = (.fn 9 zHc11) ∧ lookE rB00_h0 9 = (.fn 11 zHc11) ∧ lookE rB00_h0 13 = (.var 13) ∧ lookE rB00_h0 14 = zHc18 := ⟨rfl, rfl, rfl, rfl, rfl, rfl, rfl, rfl, rfl⟩
theorem rB00_y0 : nextJ (rB 0) (rB 1) rB00_h0 [(11, 41), (1, 1), (17, 17)] (roundC Try.prog ltHc0 [(7, pickC)] [] 3000 40 3 [4, 1, 0, 1, 1, 1, 1, 1, 1, 1] (tellA rB00_t0) (rB 0)) = some rB00_d0 := by kernel_rfl
def rB01_t0 : List (Q × Bool) := [asHc27]
def rB01_d0 : List Duty := [zHc9, zHc9, dqHc (.var 7) (.fn 9 txHc12) 0, dqHc (.var 7) (.fn 9 txHc12) 1, dqHc (.var 7) (.fn 9 txHc12) 2, dqHc (.var 7) (.fn 9 txHc12) 3, dqHc (.var 7) (.fn 9 txHc12) 4, dqHc (.var 7) (.fn 9 txHc12) 5, dqHc (.var 7) (.fn 9 txHc12) 6, dqHc (.var 7) (.fn 9 txHc12) 7, dqHc (.var 7) (.fn 9 txHc12) 8, dqHc (.var 7) (.fn 9 txHc12) 9, dqHc (.var 7) (.fn 9 txHc12) 10, dqHc (.var 7) (.fn 9 txHc12) 11, dqHc (.var 7) (.fn 9 txHc12) 12, dqHc (.var 7) (.fn 9 txHc12) 13, dqHc (.var 7) (.fn 9 txHc12) 14, dqHc (.var 7) (.fn 9 txHc12) 15, zHc31, zHc26, zHc9, zHc25]
theorem rB01_y0 : endD (rB 1) [(11, 11), (1, 1), (17, 17)] 1000 (roundC Try.prog ltHc0 [(7, pickC)] [] 3000 40 3 [4, 1, 0, 1, 1, 1, 1, 1, 1, 1] (tellA rB01_t0) (rB 1)) = some rB01_d0 := by kernel_rfl
set_option maxHeartbeats 16000000 in
theorem rB_holds : ∀ i, i < 2 → LHolds Try.prog (loopAt Try.prog 3 [4, 1, 0, 1, 1, 1, 1, 1, 1, 1]) (rB i) F := by
 refine loop_famC sound (tableCons jA00_holds (tableCons jA10_holds (tableCons jB00_holds (tableCons jB10_holds (tableCons jC00_holds (tableCons jC10_holds (tableCons jD00_holds (tableNil _ _)))))))) (specsCons pickC_holds (specsNil _ _)) (oversNil _ _) (fuel := 3000) (depth := 40) (by kernel_rfl) (fun i d => match i with | 0 => (0 + 1 - (d 0).toInt).toNat | _ => (0 + 1 - (d 0).toInt).toNat) ?_
 intro i hi d hp hR hA
 match i, hi with
 | 0, _ =>
   have hp := allTold'_iff.2 hp
   simp only [rB, rB00, tl] at hp hR hA
   simp only [F9, F11, F20, F21, F40, F41, D.toInt_int, D.ints_ofInts, UO.den] at hp
   obtain ⟨p0, p1, p2, p3, p4, p5, p6, p7, p8, p9, p10, p11, p12, p13, p14, p15, p16, p17⟩ := hp
   have p2 := one_of p2
   have hX := canon p10
   have hxl : (d 2).ints.length = (d 6).toInt := by omega
   have hm := cuts_in (x := (d 2).ints) (o := 0) (t := (d 3).toInt) (i := 0) (n := 0) (Int.le_refl 0) p6
   have hm9 := cuts_small (x := (d 2).ints) (o := 0) (t := (d 3).toInt) (i := 0) (n := 0) (by omega)
   have m0 : (cutsT (d 2).ints 0 (d 3).toInt 0 0).2 = 0 := by omega
   by_cases hx : (d 0).toInt ≤ 0
   ·by_cases hi : 0 ≤ (d 0).toInt
    ·have ht0 : 0 ≤ (d 4).toInt := by omega
     have ht1 : (d 3).toInt + (d 4).toInt ≤ (d 6).toInt := by omega
     obtain ⟨hs, hc, hl, hk, he, hm8, hn1, hn2, h1, h2, h3, h4⟩ := leafs (t := (d 3).toInt + (d 4).toInt) hX p6 (by omega) ht1 hxl m0 (left_nil p6 (by omega) m0)
     rw [List.nil_append] at hl
     have q15 := p15
     have q16 := p16
     rw [← p8] at q15 q16
     have hg0 : chT (d 2) 0 (d 3).toInt 0 0 (D.ofInts []) = [] := List.eq_nil_of_length_eq_zero (by rw [ch_len]; omega)
     by_cases ha : 1 ≤ (cutsT (d 2).ints 0 ((d 3).toInt + (d 4).toInt) (d 3).toInt 0).2
     ·by_cases hb : 0 < (cutsT (d 2).ints 0 ((d 3).toInt + (d 4).toInt) (d 3).toInt 0).1.length
      ·exfalso
       omega
      exfalso
      omega
     by_cases hb : 0 < (cutsT (d 2).ints 0 ((d 3).toInt + (d 4).toInt) (d 3).toInt 0).1.length
     ·refine ⟨tellA rB00_t0, tellA_ok (allTold'_iff.1 ?_), .inr ⟨1, rB00_h0, _, _, by decide, rB00_y0, dutiesTold_ok ?_, allTold'_iff.1 ?_, ?_⟩⟩
      all_goals try simp only [rB00_t0, rB00_d0, rB, rB00, rB01, rB00_h0_a, fq, hc, hg0, ch_len, tl]
      all_goals first | done | omega | (and_intros <;> first | omega | assumption | rfl | exact one_to (.inl (by omega)) | exact one_to (.inr (by omega)) | exact one_to (.inr trivial) | exact trivial)
     exfalso
     have hz := cuts_none (x := (d 2).ints) (o := 0) (t := (d 3).toInt + (d 4).toInt) (i := (d 3).toInt) (n := 0) (by omega) (by omega) (by omega) (by omega)
     omega
    exfalso
    omega
   exfalso
   omega
 | 1, _ =>
   have hp := allTold'_iff.2 hp
   simp only [rB, rB01, tl] at hp hR hA
   simp only [F9, F11, F20, F21, F40, F41, D.toInt_int, D.ints_ofInts, UO.den] at hp
   obtain ⟨p0, p1, p2, p3, p4, p5, p6, p7, p8, p9, p10, p11, p12, p13, p14, p15, p16, p17⟩ := hp
   have p2 := one_of p2
   have hX := canon p10
   have hxl : (d 2).ints.length = (d 6).toInt := by omega
   have hm := cuts_in (x := (d 2).ints) (o := 0) (t := (d 3).toInt) (i := 0) (n := 0) (Int.le_refl 0) p6
   have hm9 := cuts_small (x := (d 2).ints) (o := 0) (t := (d 3).toInt) (i := 0) (n := 0) (by omega)
   have m0 : (cutsT (d 2).ints 0 (d 3).toInt 0 0).2 = 0 := by omega
   have ex : (d 3).toInt = (d 6).toInt := by omega
   rw [ex] at p11 p12
   refine ⟨tellA rB01_t0, tellA_ok (allTold'_iff.1 ?_), .inl ⟨_, _, _, rB01_y0, dutiesTold_ok ?_⟩⟩
   ·simp only [rB01_t0, fq, tl]
    first | done | (and_intros <;> first | omega | assumption | rfl | exact one_to (.inl (by omega)) | exact one_to (.inr (by omega)) | exact one_to (.inr trivial) | exact trivial)
   ·simp only [rB01_d0, fq, ex, p11, tl]
    first | done | (and_intros <;> first | omega | assumption | rfl | exact one_to (.inl (by omega)) | exact one_to (.inr (by omega)) | exact one_to (.inr trivial) | exact trivial)
theorem rB00_holds : LHolds Try.prog (loopAt Try.prog 3 [4, 1, 0, 1, 1, 1, 1, 1, 1, 1]) rB00 F := rB_holds 0 (by decide)
theorem rB01_holds : LHolds Try.prog (loopAt Try.prog 3 [4, 1, 0, 1, 1, 1, 1, 1, 1, 1]) rB01 F := rB_holds 1 (by decide)

def rC00 : LSpec := { n := 93, next := 10, pat := [(0, .sslice 17 (.int 0) (.var 6) (.var 13) false), (1, .empty), (6, .ptr 1 0), (7, .nilslice), (8, .sslice 17 (.var 3) (.var 4) (.var 14) false), (9, .sint .i64 (.var 0))], rows := [zHc1, zHc17], pre := [(.le (.int 0) (.var 0), true), (.le (.var 0) zHc19, true), (.eq zHc16 (.int 1), true), (.le (.int 0) (.int 100), true), (.le (.var 6) (.int 8000), true), (.le (.int 1) (.var 6), true), (.le (.int 0) (.var 3), true), (.le (.int 0) (.var 4), true), (.eq zHc4 (.var 6), true), (.le (.var 4) (.var 14), true), (.same (.un .code (.var 2)) txHc4, true), (.same (.var 7) (.fn 9 txHc11), true), (.eq (.var 9) (.fn 11 txHc11), true), (.le (.int 1) zHc5, false), (.le (.int 1) txHc21, false), (.le (.int 1) zHc6, true), (.le (.int 1) txHc22, true), (.le (.var 0) (.int 0), true)], x := 0, fin := [(0, .sslice 17 (.int 0) (.var 6) (.var 13) false), (6, .ptr 1 0), (7, .vslice 11 1 (.int 0) zHc15 zHc15 true)], frows := [zHc0, zHc12, zHc13], same := [1, 17], chg := [0, 1, 6, 7, 8, 9, 10, 11, 12, 29, 30, 31, 32, 33, 34, 35, 36, 37, 38, 39, 40, 49, 50, 51, 52, 53, 54, 55, 56, 57, 58, 59, 60, 61, 62, 63, 64, 65, 66, 67, 68, 69] }
def rC11 : LSpec := { n := 93, next := 10, pat := [(0, .sslice 17 (.int 0) (.var 6) (.var 13) false), (1, .empty), (6, .ptr 1 0), (7, .vslice 11 1 (.int 0) zHc20 zHc20 true), (8, .sslice 17 (.var 3) (.var 4) (.var 14) false), (9, .sint .i64 (.var 0))], rows := [zHc3, zHc17, zHc21, zHc22], pre := [(.le (.int 0) (.var 0), true), (.le (.var 0) zHc19, true), (.eq zHc16 (.int 1), true), (.le (.int 0) (.int 100), true), (.le (.var 6) (.int 8000), true), (.le (.int 1) (.var 6), true), (.le (.int 0) (.var 3), true), (.le (.int 0) (.var 4), true), (.eq zHc4 (.var 6), true), (.le (.var 4) (.var 14), true), (.same (.un .code (.var 2)) txHc4, true), (.same (.var 7) (.fn 9 txHc11), true), (.eq (.var 9) (.fn 11 txHc11), true), (.le (.int 1) zHc5, true), (.le (.int 1) txHc21, true), (.le (.int 1) zHc6, true), (.le (.int 1) txHc22, true), (.le (.int 1) (.var 0), true)], x := 0, fin := [(0, .sslice 17 (.int 0) (.var 6) (.var 13) false), (6, .ptr 1 0), (7, .vslice 11 1 (.int 0) zHc15 zHc15 true)], frows := [zHc0, zHc12, zHc13], same := [1, 17], chg := [0, 1, 6, 7, 8, 9, 10, 11, 12, 29, 30, 31, 32, 33, 34, 35, 36, 37, 38, 39, 40, 49, 50, 51, 52, 53, 54, 55, 56, 57, 58, 59, 60, 61, 62, 63, 64, 65, 66, 67, 68, 69] }
def rC : Nat → LSpec
 | 0 => rC00
 | _ => rC11
def rC00_t0 : List (Q × Bool) := [asHc13, asHc14, asHc2, asHc15, asHc16, asHc17, asHc18, asHc19, asHc20, asHc21, asHc22, asHc23, asHc29, asHc25, asHc26, asHc30, asHc31, asHc4]
def rC00_d0 : List Duty := [zHc8, zHc8, zHc14, zHc14, zHc14, (false, (.fn 22 txHc29), (.fn 22 txHc28)), zHc8, zHc24]
def rC00_h0 : List (Nat × E) := [(2, (.var 2)), (9, (.fn 11 zHc11)), (7, (.fn 9 zHc11)), (0, zHc10), (3, zHc4), (4, (.int 0)), (14, zHc18), (6, (.var 6)), (13, (.var 13))]
theorem rC00_h0_a : lookE rC00_h0 0 = zHc10 ∧ lookE rC00_h0 2 = (.var 2) ∧ lookE rC00_h0 3 = zHc4 ∧ lookE rC00_h0 4 = (.int 0) ∧ lookE rC00_h0 6 = (.var 6) ∧ lookE rC00_h0 7 = (.fn 9 zHc11) ∧ lookE rC00_h0 9 = (.fn 11 zHc11) ∧ lookE rC00_h0 13 = (.var 13) ∧ lookE rC00_h0 14 = zHc18 := ⟨rfl, rfl, rfl, rfl, rfl, rfl, rfl, rfl, rfl⟩
theorem rC00_y0 : nextJ (rC 0) (rC 1) rC00_h0 [(3, 31), (11, 43), (1, 1), (17, 17)] (roundC Try.prog ltHc0 [(7, pickC)] [] 3000 40 3 [4, 1, 0, 1, 1, 1, 1, 1, 1, 1] (tellA rC00_t0) (rC 0)) = some rC00_d0 := by kernel_rfl
def rC11_t0 : List (Q × Bool) := [asHc27]
def rC11_d0 : List Duty := [zHc9, zHc9, dqHc (.var 7) (.fn 9 txHc12) 0, dqHc (.var 7) (.fn 9 txHc12) 1, dqHc (.var 7) (.fn 9 txHc12) 2, dqHc (.var 7) (.fn 9 txHc12) 3, dqHc (.var 7) (.fn 9 txHc12) 4, dqHc (.var 7) (.fn 9 txHc12) 5, dqHc (.var 7) (.fn 9 txHc12) 6, dqHc (.var 7) (.fn 9 txHc12) 7, dqHc (.var 7) (.fn 9 txHc12) 8, dqHc (.var 7) (.fn 9 txHc12) 9, dqHc (.var 7) (.fn 9 txHc12) 10, dqHc (.var 7) (.fn 9 txHc12) 11, dqHc (.var 7) (.fn 9 txHc12) 12, dqHc (.var 7) (.fn 9 txHc12) 13, dqHc (.var 7) (.fn 9 txHc12) 14, dqHc (.var 7) (.fn 9 txHc12) 15, zHc31, zHc26, (true, zHc5, zHc6), (true, zHc5, zHc6), (true, zHc5, zHc6), (false, (.fn 22 txHc26), (.fn 22 txHc25)), zHc9, zHc25]
theorem rC11_y0 : endD (rC 1) [(3, 3), (11, 11), (1, 1), (17, 17)] 1000 (roundC Try.prog ltHc0 [(7, pickC)] [] 3000 40 3 [4, 1, 0, 1, 1, 1, 1, 1, 1, 1] (tellA rC11_t0) (rC 1)) = some rC11_d0 := by kernel_rfl
set_option maxHeartbeats 16000000 in
theorem rC_holds : ∀ i, i < 2 → LHolds Try.prog (loopAt Try.prog 3 [4, 1, 0, 1, 1, 1, 1, 1, 1, 1]) (rC i) F := by
 refine loop_famC sound (tableCons jA00_holds (tableCons jA10_holds (tableCons jB00_holds (tableCons jB10_holds (tableCons jC00_holds (tableCons jC10_holds (tableCons jD00_holds (tableNil _ _)))))))) (specsCons pickC_holds (specsNil _ _)) (oversNil _ _) (fuel := 3000) (depth := 40) (by kernel_rfl) (fun i d => match i with | 0 => (0 + 1 - (d 0).toInt).toNat | _ => (0 + 1 - (d 0).toInt).toNat) ?_
 intro i hi d hp hR hA
 match i, hi with
 | 0, _ =>
   have hp := allTold'_iff.2 hp
   simp only [rC, rC00, tl] at hp hR hA
   simp only [F9, F11, F20, F21, F40, F41, D.toInt_int, D.ints_ofInts, UO.den] at hp
   obtain ⟨p0, p1, p2, p3, p4, p5, p6, p7, p8, p9, p10, p11, p12, p13, p14, p15, p16, p17⟩ := hp
   have p2 := one_of p2
   have hX := canon p10
   have hxl : (d 2).ints.length = (d 6).toInt := by omega
   have hm := cuts_in (x := (d 2).ints) (o := 0) (t := (d 3).toInt) (i := 0) (n := 0) (Int.le_refl 0) p6
   have hm9 := cuts_small (x := (d 2).ints) (o := 0) (t := (d 3).toInt) (i := 0) (n := 0) (by omega)
   have m0 : (cutsT (d 2).ints 0 (d 3).toInt 0 0).2 = 0 := by omega
   by_cases hx : (d 0).toInt ≤ 0
   ·by_cases hi : 0 ≤ (d 0).toInt
    ·have ht0 : 0 ≤ (d 4).toInt := by omega
     have ht1 : (d 3).toInt + (d 4).toInt ≤ (d 6).toInt := by omega
     obtain ⟨hs, hc, hl, hk, he, hm8, hn1, hn2, h1, h2, h3, h4⟩ := leafs (t := (d 3).toInt + (d 4).toInt) hX p6 (by omega) ht1 hxl m0 (left_nil p6 (by omega) m0)
     rw [List.nil_append] at hl
     have q15 := p15
     have q16 := p16
     rw [← p8] at q15 q16
     have hg0 : chT (d 2) 0 (d 3).toInt 0 0 (D.ofInts []) = [] := List.eq_nil_of_length_eq_zero (by rw [ch_len]; omega)
     by_cases ha : 1 ≤ (cutsT (d 2).ints 0 ((d 3).toInt + (d 4).toInt) (d 3).toInt 0).2
     ·by_cases hb : 0 < (cutsT (d 2).ints 0 ((d 3).toInt + (d 4).toInt) (d 3).toInt 0).1.length
      ·refine ⟨tellA rC00_t0, tellA_ok (allTold'_iff.1 ?_), .inr ⟨1, rC00_h0, _, _, by decide, rC00_y0, dutiesTold_ok ?_, allTold'_iff.1 ?_, ?_⟩⟩
       all_goals try simp only [rC00_t0, rC00_d0, rC, rC00, rC11, rC00_h0_a, fq, hc, hg0, ch_len, tl]
       all_goals first | done | omega | (and_intros <;> first | omega | assumption | rfl | exact one_to (.inl (by omega)) | exact one_to (.inr (by omega)) | exact one_to (.inr trivial) | exact trivial)
      exfalso
      omega
     by_cases hb : 0 < (cutsT (d 2).ints 0 ((d 3).toInt + (d 4).toInt) (d 3).toInt 0).1.length
     ·exfalso
      omega
     exfalso
     have hz := cuts_none (x := (d 2).ints) (o := 0) (t := (d 3).toInt + (d 4).toInt) (i := (d 3).toInt) (n := 0) (by omega) (by omega) (by omega) (by omega)
     omega
    exfalso
    omega
   exfalso
   omega
 | 1, _ =>
   have hp := allTold'_iff.2 hp
   simp only [rC, rC11, tl] at hp hR hA
   simp only [F9, F11, F20, F21, F40, F41, D.toInt_int, D.ints_ofInts, UO.den] at hp
   obtain ⟨p0, p1, p2, p3, p4, p5, p6, p7, p8, p9, p10, p11, p12, p13, p14, p15, p16, p17⟩ := hp
   have p2 := one_of p2
   have hX := canon p10
   have hxl : (d 2).ints.length = (d 6).toInt := by omega
   have hm := cuts_in (x := (d 2).ints) (o := 0) (t := (d 3).toInt) (i := 0) (n := 0) (Int.le_refl 0) p6
   have hm9 := cuts_small (x := (d 2).ints) (o := 0) (t := (d 3).toInt) (i := 0) (n := 0) (by omega)
   have ex : (d 3).toInt = (d 6).toInt := by omega
   rw [ex] at p11 p12
   refine ⟨tellA rC11_t0, tellA_ok (allTold'_iff.1 ?_), .inl ⟨_, _, _, rC11_y0, dutiesTold_ok ?_⟩⟩
   ·simp only [rC11_t0, fq, tl]
    first | done | (and_intros <;> first | omega | assumption | rfl | exact one_to (.inl (by omega)) | exact one_to (.inr (by omega)) | exact one_to (.inr trivial) | exact trivial)
   ·simp only [rC11_d0, fq, ex, p11, tl]
    first | done | (and_intros <;> first | omega | assumption | rfl | exact one_to (.inl (by omega)) | exact one_to (.inr (by omega)) | exact one_to (.inr trivial) | exact trivial)
theorem rC00_holds : LHolds Try.prog (loopAt Try.prog 3 [4, 1, 0, 1, 1, 1, 1, 1, 1, 1]) rC00 F := rC_holds 0 (by decide)
theorem rC11_holds : LHolds Try.prog (loopAt Try.prog 3 [4, 1, 0, 1, 1, 1, 1, 1, 1, 1]) rC11 F := rC_holds 1 (by decide)

def awakeC : CSpec := ⟨[], 0, [], [], .bool true, [], []⟩
set_option maxRecDepth 100000 in
theorem awakeC_y : endC awakeC [] 1000 (callW Try.prog F noAsk [] [] [] 8000 80 5 awakeC) = some [] := by kernel_rfl
theorem awakeC_holds : CHolds Try.prog 5 awakeC F := choldsW_of sound (tableNil _ _) (specsNil _ _) (oversNil _ _) (by kernel_rfl) fun d _ _ _ => ⟨noAsk, [], 1000, [], noAsk_ok _, awakeC_y, fun p hp => by cases hp⟩

def tabQ : List LEntry := [⟨3, [4, 1, 0, 1, 1, 1, 1, 1, 1, 1], qA00⟩, ⟨3, [4, 1, 0, 1, 1, 1, 1, 1, 1, 1], qA10⟩, ⟨3, [4, 1, 0, 1, 1, 1, 1, 1, 1, 1], qB00⟩, ⟨3, [4, 1, 0, 1, 1, 1, 1, 1, 1, 1], qB10⟩, ⟨3, [4, 1, 0, 1, 1, 1, 1, 1, 1, 1], qB01⟩, ⟨3, [4, 1, 0, 1, 1, 1, 1, 1, 1, 1], qB11⟩, ⟨3, [4, 1, 0, 1, 1, 1, 1, 1, 1, 1], qC00⟩, ⟨3, [4, 1, 0, 1, 1, 1, 1, 1, 1, 1], qC10⟩, ⟨3, [4, 1, 0, 1, 1, 1, 1, 1, 1, 1], qC01⟩, ⟨3, [4, 1, 0, 1, 1, 1, 1, 1, 1, 1], qC11⟩, ⟨11, [4, 1, 0, 1, 1], sameOO⟩, ⟨3, [4, 1, 0, 1, 1, 1, 1, 1, 1, 1], qE⟩, ⟨3, [4, 1, 0, 1, 1, 1, 1, 1, 1, 1], rA00⟩, ⟨3, [4, 1, 0, 1, 1, 1, 1, 1, 1, 1], rB00⟩, ⟨3, [4, 1, 0, 1, 1, 1, 1, 1, 1, 1], rC00⟩]
def specsQ : List (FuncId × CSpec) := [(12, splitY), (5, awakeC)]
def oversQ : Overs := []
theorem tabQ_ok : TableOK Try.prog tabQ F := tableCons qA00_holds (tableCons qA10_holds (tableCons qB00_holds (tableCons qB10_holds (tableCons qB01_holds (tableCons qB11_holds (tableCons qC00_holds (tableCons qC10_holds (tableCons qC01_holds (tableCons qC11_holds (tableCons sameOO_holds (tableCons qE_holds (tableCons rA00_holds (tableCons rB00_holds (tableCons rC00_holds (tableNil _ _)))))))))))))))
theorem specsQ_ok : SpecsOK Try.prog specsQ F := specsCons splitY_holds (specsCons awakeC_holds (specsNil _ _))
theorem oversQ_ok : OversOK Try.prog oversQ F := oversNil _ _
end Go.Proofs.Ytceealenelhaiaa.Hc
