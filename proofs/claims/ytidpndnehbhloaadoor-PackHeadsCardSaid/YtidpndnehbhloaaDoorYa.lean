/-
 Contracts of this seat: what loops and calls leave, for all inputs. No condition.
-/
import Derived.Test.YtidpndnehbhloaaDoorSycp
import Derived.Test.YtidpndnehbhloaaDoorCo
import Derived.Test.YtidpndnehbhloaaDoorP0
import Derived.Test.YtidpndnehbhloaaDoorPa
import Derived.Test.YtidpndnehbhloaaDoorPm
import Derived.Test.YtidpndnehbhloaaDoorPl
import Derived.Test.YtidpndnehbhloaaDoorPu
import Derived.Test.YtidpndnehbhloaaDoorPq
import Derived.Test.YtidpndnehbhloaaDoorPb
set_option linter.unusedSimpArgs false
set_option linter.unusedVariables false
namespace Go.Proofs.YtidpndnehbhloaaDoor.Ya
open Go.RowKit Go.Ev Go.Proofs.YtidpndnehbhloaaDoor.Co

open Go.Proofs.YtidpndnehbhloaaDoor.P0
open Go.Proofs.YtidpndnehbhloaaDoor.Pa
open Go.Proofs.YtidpndnehbhloaaDoor.Pm
open Go.Proofs.YtidpndnehbhloaaDoor.Pl
open Go.Proofs.YtidpndnehbhloaaDoor.Pn
open Go.Proofs.YtidpndnehbhloaaDoor.Pu
open Go.Proofs.YtidpndnehbhloaaDoor.Puo
open Go.Proofs.YtidpndnehbhloaaDoor.Pq
open Go.Proofs.YtidpndnehbhloaaDoor.Pqo
open Go.Proofs.YtidpndnehbhloaaDoor.Pb
open Go.Proofs.YtidpndnehbhloaaDoor.Pdo
open Go.Proofs.YtidpndnehbhloaaDoor.Ps4
open Go.Proofs.YtidpndnehbhloaaDoor.Yl

abbrev zYa2 : E := (.bi .add (.var 1) (.int 1))
abbrev txYa0 : E := (.bi .pair zYa2 (.int 0))
abbrev txYa1 : E := (.bi .pair (.var 0) (.bi .pair (.var 2) (.int 0)))
abbrev txYa2 : E := (.bi .pair (.var 0) (.bi .pair (.var 1) (.int 0)))
abbrev txYa3 : E := (.bi .pair (.var 1) (.bi .pair (.var 2) (.int 0)))
abbrev zYa8 : E := (.fn 78 (argsE [.var 0, .var 1]))
abbrev txYa4 : E := (.bi .add (.var 2) zYa8)
abbrev txYa5 : E := (.bi .add (.var 1) (.un .len (.bi .sel (.var 0) (.var 2))))
abbrev zYa11 : E := (.bi .sub (.un .len (.var 0)) (.var 1))
abbrev txYa6 : E := (.bi .add (.var 4) zYa11)
abbrev txYa7 : E := (.bi .sub (.un .len (.var 0)) zYa2)
abbrev zYa0 : E := (.un .len (.bi .sel (.var 0) (.var 1)))
abbrev txYa8 : E := (.bi .add zYa0 (.int 26))
abbrev txYa9 : E := (.bi .pair zYa0 (.int 0))
abbrev zYa4 : E := (.bi .add (.var 4) (.int 1))
abbrev txYa10 : E := (.bi .add zYa4 txYa7)
abbrev txYa11 : E := (.bi .app (.var 5) (.fn 72 (.bi .pair (.var 0) txYa3)))
abbrev txYa12 : E := (.bi .app (.var 7) (.fn 73 (.bi .pair (.var 0) txYa3)))
abbrev txYa13 : E := (.bi .pair (.bi .add (.var 2) txYa8) (.int 0))
abbrev txYa14 : E := (.bi .app (.un .one (.bi .add (.var 2) txYa8)) (.lits []))
abbrev txYa15 : E := (.bi .pair (.bi .sel (.var 0) (.var 1)) (.bi .pair (.int 0) txYa9))
abbrev txYa16 : E := (.bi .pair zYa2 txYa13)
abbrev txYa17 : E := (.bi .add (.bi .add (.var 2) txYa8) (.fn 78 (.bi .pair (.var 0) txYa0)))
abbrev txYa18 : E := (.bi .snoc (.lits []) (.bi .sel (.fn 61 txYa15) (.int 0)))
abbrev txYa19 : E := (.bi .snoc txYa18 (.bi .sel (.fn 61 txYa15) (.int 1)))
abbrev txYa20 : E := (.bi .snoc txYa19 (.bi .sel (.fn 61 txYa15) (.int 2)))
abbrev txYa21 : E := (.bi .snoc txYa20 (.bi .sel (.fn 61 txYa15) (.int 3)))
abbrev txYa22 : E := (.bi .snoc txYa21 (.bi .sel (.fn 61 txYa15) (.int 4)))
abbrev txYa23 : E := (.bi .snoc txYa22 (.bi .sel (.fn 61 txYa15) (.int 5)))
abbrev txYa24 : E := (.bi .snoc txYa23 (.bi .sel (.fn 61 txYa15) (.int 6)))
abbrev txYa25 : E := (.bi .snoc txYa24 (.bi .sel (.fn 61 txYa15) (.int 7)))
abbrev txYa26 : E := (.bi .snoc txYa25 (.bi .sel (.fn 61 txYa15) (.int 8)))
abbrev txYa27 : E := (.bi .snoc txYa26 (.bi .sel (.fn 61 txYa15) (.int 9)))
abbrev txYa28 : E := (.bi .snoc txYa27 (.bi .sel (.fn 61 txYa15) (.int 10)))
abbrev txYa29 : E := (.bi .snoc txYa28 (.bi .sel (.fn 61 txYa15) (.int 11)))
abbrev txYa30 : E := (.bi .snoc txYa29 (.bi .sel (.fn 61 txYa15) (.int 12)))
abbrev txYa31 : E := (.bi .snoc txYa30 (.bi .sel (.fn 61 txYa15) (.int 13)))
abbrev txYa32 : E := (.bi .snoc txYa31 (.bi .sel (.fn 61 txYa15) (.int 14)))
abbrev txYa33 : E := (.bi .snoc txYa32 (.bi .sel (.fn 61 txYa15) (.int 15)))
abbrev txYa34 : E := (.bi .snoc (.bi .snoc (.lits []) txYa33) (.var 2))
abbrev txYa35 : E := (.bi .snoc txYa34 zYa0)
abbrev zYa1 : Nat × RW := (5, .vseq ⟨36, .agg [.agg [.int .u8, .int .u8, .int .u8, .int .u8, .int .u8, .int .u8, .int .u8, .int .u8, .int .u8, .int .u8, .int .u8, .int .u8, .int .u8, .int .u8, .int .u8, .int .u8], .int .i64, .int .i64], .var 4, .var 7, true⟩)
abbrev zYa3 : E := (.bi .add (.var 2) (.fn 78 txYa2))
abbrev zYa5 : E := (.bi .app (.var 3) (.fn 62 txYa15))
abbrev zYa6 : E := (.bi .add (.var 1) (.fn 30 txYa1))
abbrev zYa7 : E := (.bi .snoc (.var 7) txYa35)
abbrev zYa9 : E := (.bi .app (.var 5) txYa14)
abbrev zYa10 : E := (.bi .add (.var 2) (.int 1))
def lensL : LSpec := { n := 95, next := 0, pat := [(0, .pv (.sl (.int .u8)) (.var 0)), (9, .sint .i64 (.var 1)), (10, .sint .i64 (.var 2))], rows := [], pre := [(.le (.int 0) (.var 2), true), (.le (.var 2) (.int 21), true), (.le (.int 0) (.var 1), true), (.le (.int 0) (.fn 30 txYa1), true), (.le zYa6 (.int 4611686018427387904), true), (.le (.un .len (.var 0)) (.int 9223372036854775807), true)], x := 0, fin := [(9, .sint .i64 zYa6), (0, .pv (.sl (.int .u8)) (.var 0))], frows := [], same := [], chg := [0, 9, 10, 15, 16, 17, 18, 19, 20, 21, 22, 23, 24, 25, 26, 27, 28, 29, 30, 31] }
abbrev asYa0 : Q × Bool := ((.fit .i64 (.un .len (.var 0))), true)
abbrev asYa1 : Q × Bool := ((.le (.un .len (.var 0)) (.var 2)), false)
abbrev asYa2 : Q × Bool := ((.le (.int 21) (.var 2)), false)
abbrev asYa3 : Q × Bool := ((.le (.int 0) (.var 2)), true)
abbrev asYa4 : Q × Bool := ((.fit .i64 (.un .len (.bi .sel (.var 0) (.var 2)))), true)
abbrev asYa5 : Q × Bool := ((.fit .i64 txYa5), true)
abbrev asYa6 : Q × Bool := ((.fit .i64 zYa10), true)
def lensL_t0 : List (Q × Bool) := [asYa0, asYa1, asYa2, asYa3, asYa4, asYa5, asYa6]
def lensL_d0 : List Duty := [(true, (.bi .add txYa5 (.fn 30 (.bi .pair (.var 0) (.bi .pair zYa10 (.int 0))))), zYa6)]
def lensL_h0 : List (Nat × E) := [(2, zYa10), (1, txYa5), (0, (.var 0))]
theorem lensL_h0_a : lookE lensL_h0 0 = (.var 0) ∧ lookE lensL_h0 1 = txYa5 ∧ lookE lensL_h0 2 = zYa10 := ⟨rfl, rfl, rfl⟩
theorem lensL_y0 : nextD lensL lensL_h0 [] (roundC Tryd.prog [] [] [] 3000 40 7 [4, 1, 0, 1, 1, 1, 1, 1] (tellA lensL_t0) lensL) = some lensL_d0 := by kernel_rfl
abbrev asYa7 : Q × Bool := ((.le (.un .len (.var 0)) (.var 2)), true)
def lensL_t1 : List (Q × Bool) := [asYa0, asYa7]
def lensL_d1 : List Duty := [(true, (.var 1), zYa6)]
theorem lensL_y1 : endD lensL [] 1000 (roundC Tryd.prog [] [] [] 3000 40 7 [4, 1, 0, 1, 1, 1, 1, 1] (tellA lensL_t1) lensL) = some lensL_d1 := by kernel_rfl
abbrev asYa8 : Q × Bool := ((.le (.int 21) (.var 2)), true)
def lensL_t2 : List (Q × Bool) := [asYa0, asYa1, asYa8]
def lensL_d2 : List Duty := [(true, (.var 1), zYa6)]
theorem lensL_y2 : endD lensL [] 1000 (roundC Tryd.prog [] [] [] 3000 40 7 [4, 1, 0, 1, 1, 1, 1, 1] (tellA lensL_t2) lensL) = some lensL_d2 := by kernel_rfl
theorem lensL_holds : LHolds Tryd.prog (loopAt Tryd.prog 7 [4, 1, 0, 1, 1, 1, 1, 1]) lensL F := by
 refine loop_roundsC sound (tableNil _ _) (specsNil _ _) (oversNil _ _) (fuel := 3000) (depth := 40) (by kernel_rfl) (by kernel_rfl) (by kernel_rfl) (fun d => (21 - (d 2).toInt).toNat) fun d hp hR hA => ?_
 have hp := allTold'_iff.2 hp
 simp only [lensL, tl] at hp hR hA
 simp only [F30, tl] at hp
 have g0 : (d 0).ints.length = (d 0).toList.length := (len_ints _).symm
 have g1 : ((d 0).toList[(d 2).toInt.toNat]?.getD (.int 0)).ints.length = ((d 0).toList[(d 2).toInt.toNat]?.getD (.int 0)).toList.length := (len_ints _).symm
 have hnn := lens_nn (((d 0).toList.take 21).drop (d 2).toInt.toNat)
 by_cases h : ((d 0).toList.length : Int) ≤ (d 2).toInt
 ·refine ⟨tellA lensL_t1, tellA_ok (allTold'_iff.1 ?_), .inl ⟨_, _, _, lensL_y1, dutiesTold_ok ?_⟩⟩
  ·simp only [lensL_t1, tl]
   omega
  ·simp only [lensL_d1, F30, tl]
   rw [lens_end (.inl (by omega))]
   omega
 ·by_cases h2 : 21 ≤ (d 2).toInt
  ·refine ⟨tellA lensL_t2, tellA_ok (allTold'_iff.1 ?_), .inl ⟨_, _, _, lensL_y2, dutiesTold_ok ?_⟩⟩
   ·simp only [lensL_t2, tl]
    omega
   ·simp only [lensL_d2, F30, tl]
    rw [lens_end (.inr (by omega))]
    omega
  ·have e := lens_step (l := (d 0).toList) (i := (d 2).toInt.toNat) (by omega) (by omega)
   have hnn2 := lens_nn (((d 0).toList.take 21).drop ((d 2).toInt.toNat + 1))
   refine ⟨tellA lensL_t0, tellA_ok (allTold'_iff.1 ?_), .inr ⟨lensL_h0, _, _, lensL_y0, dutiesTold_ok ?_, allTold'_iff.1 ?_, ?_⟩⟩
   ·simp only [lensL_t0, tl]
    omega
   ·simp only [lensL_d0, F30, tl]
    rw [show ((d 2).toInt + 1).toNat = (d 2).toInt.toNat + 1 by omega]
    omega
   ·simp only [lensL, lensL_h0_a, F30, tl]
    rw [show ((d 2).toInt + 1).toNat = (d 2).toInt.toNat + 1 by omega]
    omega
   ·simp only [lensL_h0_a, tl]
    omega

def aY : LSpec := { n := 95, next := 8, pat := [(0, .pv (.sl (.int .u8)) (.var 0)), (6, .sslice 1 (.int 0) (.var 2) (.var 2) true), (7, .sslice 3 (.int 0) (.var 4) (.var 4) true), (8, .vslice 5 18 (.int 0) (.var 4) (.var 4) true), (11, .sint .i64 (.var 1))], rows := [(1, .seq ⟨5, .u8, .var 2, .var 3, true, false⟩), (3, .seq ⟨3, .i64, .var 4, .var 5, true, false⟩), zYa1, (0, .ext cellsG)], pre := [(.le (.int 0) (.var 1), true), (.le (.var 1) (.un .len (.var 0)), true), (.le (.un .len (.var 0)) (.int 20), true), (.le (zYa8) (.int 10000), true), (.le (.int 0) (.var 2), true), (.le txYa4 (.int 10000), true), (.le (.int 1) (.var 4), true), (.le (.var 4) (.var 1), true), (.same (.un .code (.var 2)) (.un .code (.bi .add (.var 2) (.int 0))), true), (.eq (.fn 74 (argsE [.var 0, .var 1])) (.int 1), true)], x := 2, fin := [(6, .sslice 1 (.int 0) txYa4 txYa4 true), (7, .sslice 3 (.int 0) txYa6 txYa6 true), (8, .vslice 5 18 (.int 0) txYa6 txYa6 true)], frows := [(1, .seq ⟨5, .u8, .bi .add (.var 2) zYa8, .bi .app (.var 3) (.fn 71 (argsE [.var 0, .var 1])), true, false⟩), (3, .seq ⟨3, .i64, .bi .add (.var 4) zYa11, .bi .app (.var 5) (.fn 72 (argsE [.var 0, .var 1, .var 2])), true, false⟩), (5, .vseq ⟨36, .agg [.agg [.int .u8, .int .u8, .int .u8, .int .u8, .int .u8, .int .u8, .int .u8, .int .u8, .int .u8, .int .u8, .int .u8, .int .u8, .int .u8, .int .u8, .int .u8, .int .u8], .int .i64, .int .i64], .bi .add (.var 4) zYa11, .bi .app (.var 7) (.fn 73 (argsE [.var 0, .var 1, .var 2])), true⟩)], same := [], chg := [0, 6, 7, 8, 11, 12, 13, 14, 39, 40, 41, 42, 43, 44, 45, 46, 47, 48, 49, 50, 51, 52, 53, 54, 55, 56, 57, 58, 59, 60, 61, 62, 63, 64, 65, 66, 67, 68, 69, 70, 71, 72, 73, 74, 75, 76, 77, 78, 79, 80, 81, 82, 83, 84, 85, 86, 87, 88, 89, 90, 91] }
abbrev asYa9 : Q × Bool := ((.le (.un .len (.var 0)) (.var 1)), false)
abbrev asYa10 : Q × Bool := ((.le (.int 0) (.var 1)), true)
abbrev asYa11 : Q × Bool := ((.le (.int 1) zYa0), true)
abbrev asYa12 : Q × Bool := ((.le (.bi .add (.int 0) zYa0) zYa0), true)
abbrev asYa13 : Q × Bool := ((.le zYa0 (.int 1024)), true)
abbrev asYa14 : Q × Bool := ((.fit .i64 txYa8), true)
abbrev asYa15 : Q × Bool := ((.fit .i64 zYa0), true)
abbrev asYa16 : Q × Bool := ((.fit .i64 (.bi .add zYa0 (.int 22))), true)
abbrev asYa17 : Q × Bool := ((.le (.int 26) txYa8), true)
abbrev asYa18 : Q × Bool := ((.fit .i64 (.var 2)), true)
abbrev asYa19 : Q × Bool := ((.le (.bi .mul zYa4 (.int 64)) (.int 281474976710656)), true)
abbrev asYa20 : Q × Bool := ((.le (.bi .mul (.bi .add (.var 2) txYa8) (.int 2)) (.int 281474976710656)), true)
abbrev asYa21 : Q × Bool := ((.fit .i64 (.bi .add (.var 2) txYa8)), true)
abbrev asYa22 : Q × Bool := ((.le (.bi .mul zYa4 (.int 16)) (.int 281474976710656)), true)
abbrev asYa23 : Q × Bool := ((.fit .i64 zYa2), true)
def aY_t0 : List (Q × Bool) := [asYa0, asYa9, asYa10, asYa11, asYa12, asYa13, asYa14, asYa15, asYa16, asYa17, asYa18, asYa19, asYa20, asYa21, asYa22, asYa23]
def aY_d0 : List Duty := [(true, txYa17, zYa3), (true, txYa17, zYa3), (true, txYa10, txYa6), (true, txYa10, txYa6), (true, txYa10, txYa6), (true, txYa10, txYa6), (true, txYa17, zYa3), (false, (.bi .app zYa5 (.fn 71 (.bi .pair (.var 0) txYa0))), (.bi .app (.var 3) (.fn 71 txYa2))), (true, txYa10, txYa6), (false, (.bi .app zYa9 (.fn 72 (.bi .pair (.var 0) txYa16))), txYa11), (true, txYa10, txYa6), (false, (.un .code (.bi .app zYa7 (.fn 73 (.bi .pair (.var 0) txYa16)))), (.un .code txYa12))]
def aY_h0 : List (Nat × E) := [(7, zYa7), (5, zYa9), (3, zYa5), (1, zYa2), (4, zYa4), (2, (.bi .add (.var 2) txYa8)), (0, (.var 0))]
theorem aY_h0_a : lookE aY_h0 0 = (.var 0) ∧ lookE aY_h0 1 = zYa2 ∧ lookE aY_h0 2 = (.bi .add (.var 2) txYa8) ∧ lookE aY_h0 3 = zYa5 ∧ lookE aY_h0 4 = zYa4 ∧ lookE aY_h0 5 = zYa9 ∧ lookE aY_h0 7 = zYa7 := ⟨rfl, rfl, rfl, rfl, rfl, rfl, rfl⟩
theorem aY_y0 : nextD aY aY_h0 [(5, 25), (3, 31), (1, 27)] (roundC Tryd.prog [] [(16, putPO)] [] 3000 40 7 [4, 1, 0, 1, 1, 1, 1, 1, 1, 1] (tellA aY_t0) aY) = some aY_d0 := by kernel_rfl
abbrev asYa24 : Q × Bool := ((.le (.un .len (.var 0)) (.var 1)), true)
def aY_t1 : List (Q × Bool) := [asYa0, asYa24]
def aY_d1 : List Duty := [(true, (.var 2), zYa3), (true, (.var 2), zYa3), (true, (.var 4), txYa6), (true, (.var 4), txYa6), (true, (.var 4), txYa6), (true, (.var 4), txYa6), (true, (.var 2), zYa3), (false, (.var 3), (.bi .app (.var 3) (.fn 71 txYa2))), (true, (.var 4), txYa6), (false, (.var 5), txYa11), (true, (.var 4), txYa6), (false, (.un .code (.var 7)), (.un .code txYa12))]
theorem aY_y1 : endD aY [(5, 5), (3, 3), (1, 1)] 1000 (roundC Tryd.prog [] [(16, putPO)] [] 3000 40 7 [4, 1, 0, 1, 1, 1, 1, 1, 1, 1] (tellA aY_t1) aY) = some aY_d1 := by kernel_rfl
set_option maxHeartbeats 16000000 in
theorem aY_holds : LHolds Tryd.prog (loopAt Tryd.prog 7 [4, 1, 0, 1, 1, 1, 1, 1, 1, 1]) aY F := by
 refine loop_roundsC sound (tableNil _ _) (specsCons putPO_holds (specsNil _ _)) (oversNil _ _) (fuel := 3000) (depth := 40) (by kernel_rfl) (by kernel_rfl) (by kernel_rfl) (fun d => ((d 0).toList.length - (d 1).toInt).toNat) fun d hp hR hA => ?_
 have hp := allTold'_iff.2 hp
 simp only [aY, tl] at hp hR hA
 simp only [argsE, F74, F78, tl] at hp
 obtain ⟨p1, p2, p3, p4, p5, p6, p7, p8, q2, pf⟩ := hp
 obtain ⟨⟨h3, h3b⟩, ⟨h5, h5b⟩, h7, h7b⟩ := hR
 have g0 := len_ints (d 0)
 have h2 : d 2 = D.int (d 2).toInt := by
  have := canon0 q2
  rwa [Int.add_zero] at this
 have hn := lens_nn ((d 0).toList.drop (d 1).toInt.toNat)
 have hdl : (((d 0).toList.drop (d 1).toInt.toNat).length : Int) = (d 0).toList.length - (d 1).toInt := by rw [List.length_drop]; omega
 by_cases h : ((d 0).toList.length : Int) ≤ (d 1).toInt
 ·have e0 : (d 0).toList.drop (d 1).toInt.toNat = [] := List.drop_of_length_le (by omega)
  refine ⟨tellA aY_t1, tellA_ok (allTold'_iff.1 ?_), .inl ⟨_, _, _, aY_y1, dutiesTold_ok ?_⟩⟩
  ·simp only [aY_t1, tl]
   omega
  ·simp only [aY_d1, F71, F72, F73, F78, e0, recsI, endsI, heldsI, lensI, List.length_nil, D.ints_ofInts, List.append_nil, D.toList_list, tl]
   and_intros <;> first | exact True.intro | omega | (rw [list_toList (by rw [len_toL]; omega)])
 ·have e := drop_step (l := (d 0).toList) (i := (d 1).toInt.toNat) (by omega)
  have hi : ((d 1).toInt + 1).toNat = (d 1).toInt.toNat + 1 := by omega
  have hn2 := lens_nn ((d 0).toList.drop ((d 1).toInt.toNat + 1))
  have hdl2 : (((d 0).toList.drop ((d 1).toInt.toNat + 1)).length : Int) = (d 0).toList.length - (d 1).toInt - 1 := by rw [List.length_drop]; omega
  rw [e] at pf
  rw [e] at p4 p6 hn
  simp only [lensI, List.length_cons] at p4 p6 hn
  generalize hX : (d 0).toList[(d 1).toInt.toNat]?.getD (.int 0) = X at *
  have g1 := len_ints X
  have hr := rec_len (X := X.ints)
  have hpX : prt X.ints 0 (0 + (X.ints.length : Int)) = X.ints := by rw [Int.zero_add]; exact prt_all rfl
  obtain ⟨⟨x1, x2⟩, pf2⟩ := fit_cons.1 (fit_iff.1 pf)
  refine ⟨tellA aY_t0, tellA_ok (allTold'_iff.1 ?_), .inr ⟨aY_h0, _, _, aY_y0, dutiesTold_ok ?_, allTold'_iff.1 ?_, ?_⟩⟩
  ·simp only [aY_t0, hX, F61, F62, F78, e, hi, tl]
   first | omega | (simp only [and_true, true_and]; omega)
  ·simp only [aY_d0, hX, F61, F62, F71, F72, F73, F78, e, hi, recsI, endsI, heldsI, lensI, List.length_cons, D.ints_ofInts, D.toList_list, tl]
   all_goals (and_intros <;> first | exact True.intro | omega | (simp only [ints_list, List.map_append, map_ints, D.ints_ofInts, hpX, List.append_assoc, List.map_cons, List.map_nil, D.toInt_int, List.cons_append, List.nil_append, show (D.ofInts []).toList = [] from rfl]; done) | (refine congrArg D.code ?_; simp only [ofInts_getD, Int.reduceToNat, hpX, ofInts16 (l := idI X.ints) idI_len, show (D.ofInts []).toList = [] from rfl, List.nil_append, List.cons_append, List.append_assoc, D.toList_list, ← h2]; first | done | rfl))
  ·simp only [aY, aY_h0_a, argsE, hX, F61, F62, F74, F78, hi, tl]
   refine ⟨by omega, by omega, by omega, by omega, by omega, by omega, by omega, by omega, by rw [Int.add_zero], fit_iff.2 pf2⟩
  ·simp only [aY_h0_a, tl]
   omega

def aM : LSpec := { n := 95, next := 8, pat := [(0, .pv (.sl (.int .u8)) (.var 0)), (6, .sslice 1 (.int 0) (.var 2) (.var 2) true), (7, .sslice 3 (.int 0) (.var 4) (.var 4) true), (8, .vslice 5 18 (.int 0) (.var 4) (.var 4) true), (11, .sint .i64 (.var 1))], rows := [(1, .seq ⟨5, .u8, .var 2, .var 3, true, false⟩), (3, .seq ⟨3, .i64, .var 4, .var 5, true, false⟩), zYa1, (0, .ext cellsG)], pre := [(.le (.int 0) (.var 1), true), (.le (.var 1) (.un .len (.var 0)), true), (.le (.un .len (.var 0)) (.int 20), true), (.le (zYa8) (.int 10000), true), (.le (.int 0) (.var 2), true), (.le txYa4 (.int 10000), true), (.le (.int 1) (.var 4), true), (.le (.var 4) (.var 1), true), (.same (.un .code (.var 2)) (.un .code (.bi .add (.var 2) (.int 0))), true), (.eq (.fn 74 (argsE [.var 0, .var 1])) (.int 1), false)], x := 999999, fin := [(2, .nilslice), (3, .nilslice), (4, .nilslice), (5, .bool false)], frows := [], same := [], chg := [0, 2, 3, 4, 5, 6, 7, 8, 11, 12, 13, 14, 39, 40, 41, 42, 43, 44, 45, 46, 47, 48, 49, 50, 51, 52, 53, 54, 55, 56, 57, 58, 59, 60, 61, 62, 63, 64, 65, 66, 67, 68, 69, 70, 71, 72, 73, 74, 75, 76, 77, 78, 79, 80, 81, 82, 83, 84, 85, 86, 87, 88, 89, 90, 91] }
def aM_t0 : List (Q × Bool) := [asYa0, asYa9, asYa10, asYa11, asYa12, asYa13, asYa14, asYa15, asYa16, asYa17, asYa18, asYa19, asYa20, asYa21, asYa22, asYa23]
def aM_d0 : List Duty := []
def aM_h0 : List (Nat × E) := [(7, zYa7), (5, zYa9), (3, zYa5), (1, zYa2), (4, zYa4), (2, (.bi .add (.var 2) txYa8)), (0, (.var 0))]
theorem aM_h0_a : lookE aM_h0 0 = (.var 0) ∧ lookE aM_h0 1 = zYa2 ∧ lookE aM_h0 2 = (.bi .add (.var 2) txYa8) ∧ lookE aM_h0 3 = zYa5 ∧ lookE aM_h0 4 = zYa4 ∧ lookE aM_h0 5 = zYa9 ∧ lookE aM_h0 7 = zYa7 := ⟨rfl, rfl, rfl, rfl, rfl, rfl, rfl⟩
theorem aM_y0 : nextD aM aM_h0 [(5, 25), (3, 31), (1, 27)] (roundC Tryd.prog [] [(16, putPO)] [] 3000 40 7 [4, 1, 0, 1, 1, 1, 1, 1, 1, 1] (tellA aM_t0) aM) = some aM_d0 := by kernel_rfl
abbrev asYa25 : Q × Bool := ((.le (.int 1) zYa0), false)
abbrev asYa26 : Q × Bool := ((.eq zYa0 (.int 0)), true)
def aM_t1 : List (Q × Bool) := [asYa0, asYa9, asYa10, asYa25, asYa15, asYa26]
def aM_d1 : List Duty := []
theorem aM_y1 : endD aM [(5, 5), (3, 3), (1, 1)] 1000 (roundC Tryd.prog [] [(16, putPO)] [] 3000 40 7 [4, 1, 0, 1, 1, 1, 1, 1, 1, 1] (tellA aM_t1) aM) = some aM_d1 := by kernel_rfl
abbrev asYa27 : Q × Bool := ((.le zYa0 (.int 1024)), false)
abbrev asYa28 : Q × Bool := ((.eq zYa0 (.int 0)), false)
def aM_t2 : List (Q × Bool) := [asYa0, asYa9, asYa10, asYa11, asYa12, asYa27, asYa15, asYa28]
def aM_d2 : List Duty := []
theorem aM_y2 : endD aM [(5, 5), (3, 3), (1, 1)] 1000 (roundC Tryd.prog [] [(16, putPO)] [] 3000 40 7 [4, 1, 0, 1, 1, 1, 1, 1, 1, 1] (tellA aM_t2) aM) = some aM_d2 := by kernel_rfl
set_option maxHeartbeats 16000000 in
theorem aM_holds : LHolds Tryd.prog (loopAt Tryd.prog 7 [4, 1, 0, 1, 1, 1, 1, 1, 1, 1]) aM F := by
 refine loop_roundsC sound (tableNil _ _) (specsCons putPO_holds (specsNil _ _)) (oversNil _ _) (fuel := 3000) (depth := 40) (by kernel_rfl) (by kernel_rfl) (by kernel_rfl) (fun d => ((d 0).toList.length - (d 1).toInt).toNat) fun d hp hR hA => ?_
 have hp := allTold'_iff.2 hp
 simp only [aM, tl] at hp hR hA
 simp only [argsE, F74, F78, tl] at hp
 obtain ⟨p1, p2, p3, p4, p5, p6, p7, p8, q2, pf⟩ := hp
 obtain ⟨⟨h3, h3b⟩, ⟨h5, h5b⟩, h7, h7b⟩ := hR
 have g0 := len_ints (d 0)
 have h2 : d 2 = D.int (d 2).toInt := by
  have := canon0 q2
  rwa [Int.add_zero] at this
 have hn := lens_nn ((d 0).toList.drop (d 1).toInt.toNat)
 have hdl : (((d 0).toList.drop (d 1).toInt.toNat).length : Int) = (d 0).toList.length - (d 1).toInt := by rw [List.length_drop]; omega
 by_cases h : ((d 0).toList.length : Int) ≤ (d 1).toInt
 ·exfalso
  have e0 : (d 0).toList.drop (d 1).toInt.toNat = [] := List.drop_of_length_le (by omega)
  rw [e0] at pf
  exact pf (fit_iff.2 fit_nil)
 ·have e := drop_step (l := (d 0).toList) (i := (d 1).toInt.toNat) (by omega)
  have hi : ((d 1).toInt + 1).toNat = (d 1).toInt.toNat + 1 := by omega
  have hn2 := lens_nn ((d 0).toList.drop ((d 1).toInt.toNat + 1))
  have hdl2 : (((d 0).toList.drop ((d 1).toInt.toNat + 1)).length : Int) = (d 0).toList.length - (d 1).toInt - 1 := by rw [List.length_drop]; omega
  rw [e] at pf
  rw [e] at p4 p6 hn
  simp only [lensI, List.length_cons] at p4 p6 hn
  generalize hX : (d 0).toList[(d 1).toInt.toNat]?.getD (.int 0) = X at *
  have g1 := len_ints X
  have hr := rec_len (X := X.ints)
  have hpX : prt X.ints 0 (0 + (X.ints.length : Int)) = X.ints := by rw [Int.zero_add]; exact prt_all rfl
  by_cases x1 : X.toList.length = 0
  ·refine ⟨tellA aM_t1, tellA_ok (allTold'_iff.1 ?_), .inl ⟨_, _, _, aM_y1, dutiesTold_ok ?_⟩⟩
   ·simp only [aM_t1, hX, tl]
    omega
   ·simp only [aM_d1, tl]
  ·by_cases x2 : 1024 < X.toList.length
   ·refine ⟨tellA aM_t2, tellA_ok (allTold'_iff.1 ?_), .inl ⟨_, _, _, aM_y2, dutiesTold_ok ?_⟩⟩
    ·simp only [aM_t2, hX, tl]
     omega
    ·simp only [aM_d2, tl]
   ·have pf2 : ¬ fitI ((d 0).toList.drop ((d 1).toInt.toNat + 1)) = 1 := fun q => pf (fit_iff.2 (fit_cons.2 ⟨⟨by omega, by omega⟩, fit_iff.1 q⟩))
    refine ⟨tellA aM_t0, tellA_ok (allTold'_iff.1 ?_), .inr ⟨aM_h0, _, _, aM_y0, dutiesTold_ok ?_, allTold'_iff.1 ?_, ?_⟩⟩
    ·simp only [aM_t0, hX, F61, F62, F78, e, hi, tl]
     first | omega | (simp only [and_true, true_and]; omega)
    ·simp only [aM_d0, hX, F61, F62, F71, F72, F73, F78, e, hi, recsI, endsI, heldsI, lensI, List.length_cons, D.ints_ofInts, D.toList_list, tl]
     all_goals (and_intros <;> first | exact True.intro | omega | (simp only [ints_list, List.map_append, map_ints, D.ints_ofInts, hpX, List.append_assoc, List.map_cons, List.map_nil, D.toInt_int, List.cons_append, List.nil_append, show (D.ofInts []).toList = [] from rfl]; done) | (refine congrArg D.code ?_; simp only [ofInts_getD, Int.reduceToNat, hpX, ofInts16 (l := idI X.ints) idI_len, show (D.ofInts []).toList = [] from rfl, List.nil_append, List.cons_append, List.append_assoc, D.toList_list, ← h2]; first | done | rfl))
    ·simp only [aM, aM_h0_a, argsE, hX, F61, F62, F74, F78, hi, tl]
     refine ⟨by omega, by omega, by omega, by omega, by omega, by omega, by omega, by omega, by rw [Int.add_zero], pf2⟩
    ·simp only [aM_h0_a, tl]
     omega

end Go.Proofs.YtidpndnehbhloaaDoor.Ya

set_option linter.unusedSimpArgs false
set_option linter.unusedVariables false
namespace Go.Proofs.YtidpndnehbhloaaDoor.Yc
open Go.RowKit Go.Ev Go.Proofs.YtidpndnehbhloaaDoor.Co

open Go.Proofs.YtidpndnehbhloaaDoor.P0
open Go.Proofs.YtidpndnehbhloaaDoor.Pa
open Go.Proofs.YtidpndnehbhloaaDoor.Pm
open Go.Proofs.YtidpndnehbhloaaDoor.Pl
open Go.Proofs.YtidpndnehbhloaaDoor.Pn
open Go.Proofs.YtidpndnehbhloaaDoor.Pu
open Go.Proofs.YtidpndnehbhloaaDoor.Puo
open Go.Proofs.YtidpndnehbhloaaDoor.Pq
open Go.Proofs.YtidpndnehbhloaaDoor.Pqo
open Go.Proofs.YtidpndnehbhloaaDoor.Pb
open Go.Proofs.YtidpndnehbhloaaDoor.Pdo
open Go.Proofs.YtidpndnehbhloaaDoor.Ps4
open Go.Proofs.YtidpndnehbhloaaDoor.Yl
open Go.Proofs.YtidpndnehbhloaaDoor.Ya

abbrev txYc0 : E := (.bi .pair (.var 0) (.bi .pair (.int 0) (.int 0)))
abbrev txYc1 : E := (.bi .pair (.var 0) (.bi .pair (.int 1) (.int 0)))
abbrev txYc2 : E := (.bi .add (.int 1) (.bi .sub (.un .len (.var 0)) (.int 1)))
abbrev zYc0 : E := (.un .len (.bi .sel (.var 0) (.int 0)))
abbrev txYc3 : E := (.bi .add zYc0 (.int 26))
abbrev txYc4 : E := (.bi .pair zYc0 (.int 0))
abbrev txYc5 : E := (.bi .pair (.var 0) (.bi .pair (.int 0) (.bi .pair (.int 0) (.int 0))))
abbrev txYc6 : E := (.bi .pair (.int 1) (.bi .pair txYc3 (.int 0)))
abbrev txYc7 : E := (.bi .pair (.bi .sel (.var 0) (.int 0)) (.bi .pair (.int 0) txYc4))
abbrev zYc1 : E := (.fn 30 (argsE [.var 0, .int 0]))
abbrev zYc2 : Duty := (true, txYc2, (.un .len (.var 0)))
abbrev zYc3 : Duty := (true, (.bi .add txYc3 (.fn 78 txYc1)), (.fn 78 txYc0))
abbrev zYc4 : E := (.bi .add (.int 0) (.fn 30 txYc0))
abbrev zYc5 : E := (.fn 78 (argsE [.var 0, .int 0]))
def allA : CSpec := { args := [.pv (.sl (.int .u8)) (.var 0)], next := 0, rows := [(0, .ext cellsG)], pre := [(.le (.un .len (.var 0)) (.int 1000000000000000), true), (.le zYc1 (.int 1000000000000000000), true), (.le (.un .len (.var 0)) (.int 20), false)], res := .tuple [.nilslice, .nilslice, .nilslice, .bool false], frows := [], same := [] }
abbrev asYc0 : Q × Bool := ((.le (.int 0) (.fn 30 txYc0)), true)
abbrev asYc1 : Q × Bool := ((.le zYc4 (.int 4611686018427387904)), true)
abbrev asYc2 : Q × Bool := ((.le (.un .len (.var 0)) (.int 9223372036854775807)), true)
abbrev asYc3 : Q × Bool := ((.fit .i64 (.un .len (.var 0))), true)
abbrev asYc4 : Q × Bool := ((.le (.un .len (.var 0)) (.int 20)), false)
def allA_t0 : List (Q × Bool) := [asYc0, asYc1, asYc2, asYc3, asYc4]
def allA_d0 : List Duty := []
noncomputable abbrev ltYc0 : List LEntry := [⟨7, [4, 1, 0, 1, 1, 1, 1, 1], lensL⟩, ⟨7, [4, 1, 0, 1, 1, 1, 1, 1, 1, 1], aY⟩, ⟨7, [4, 1, 0, 1, 1, 1, 1, 1, 1, 1], aM⟩]
theorem allA_y0 : endC allA [] 1000 (callC Tryd.prog (tellA allA_t0) ltYc0 [(16, putPO)] [] 3000 40 7 allA) = some allA_d0 := by kernel_rfl
theorem allA_holds : CHolds Tryd.prog 7 allA F := by
 refine cholds_of sound (tableCons lensL_holds (tableCons aY_holds (tableCons aM_holds (tableNil _ _)))) (specsCons putPO_holds (specsNil _ _)) (oversNil _ _) (fuel := 3000) (depth := 40) (by kernel_rfl) fun d hp hR hA => ?_
 have hp := allTold'_iff.2 hp
 simp only [allA, tl] at hp hR hA
 simp only [argsE, F30, F74, Int.toNat_zero, tl] at hp
 have g0 := len_ints (d 0)
 have hn := lens_nn (((d 0).toList.take 21).drop 0)
 refine ⟨tellA allA_t0, _, _, _, tellA_ok (allTold'_iff.1 ?_), allA_y0, dutiesTold_ok ?_⟩
 ·simp only [allA_t0, F30, F74, F78, Int.toNat_zero, tl]
  first | omega | (simp only [and_true, true_and]; omega)
 ·simp only [allA_d0, F30, F71, F72, F73, F78, Int.toNat_zero, tl]

def allB : CSpec := { args := [.pv (.sl (.int .u8)) (.var 0)], next := 0, rows := [(0, .ext cellsG)], pre := [(.le (.un .len (.var 0)) (.int 1000000000000000), true), (.le zYc1 (.int 1000000000000000000), true), (.le (.un .len (.var 0)) (.int 20), true), (.le zYc1 (.int 4000), false)], res := .tuple [.nilslice, .nilslice, .nilslice, .bool false], frows := [], same := [] }
abbrev asYc5 : Q × Bool := ((.le (.un .len (.var 0)) (.int 20)), true)
abbrev asYc6 : Q × Bool := ((.le zYc4 (.int 4000)), false)
def allB_t0 : List (Q × Bool) := [asYc0, asYc1, asYc2, asYc3, asYc5, asYc6]
def allB_d0 : List Duty := []
theorem allB_y0 : endC allB [] 1000 (callC Tryd.prog (tellA allB_t0) ltYc0 [(16, putPO)] [] 3000 40 7 allB) = some allB_d0 := by kernel_rfl
theorem allB_holds : CHolds Tryd.prog 7 allB F := by
 refine cholds_of sound (tableCons lensL_holds (tableCons aY_holds (tableCons aM_holds (tableNil _ _)))) (specsCons putPO_holds (specsNil _ _)) (oversNil _ _) (fuel := 3000) (depth := 40) (by kernel_rfl) fun d hp hR hA => ?_
 have hp := allTold'_iff.2 hp
 simp only [allB, tl] at hp hR hA
 simp only [argsE, F30, F74, Int.toNat_zero, tl] at hp
 have g0 := len_ints (d 0)
 have hn := lens_nn (((d 0).toList.take 21).drop 0)
 refine ⟨tellA allB_t0, _, _, _, tellA_ok (allTold'_iff.1 ?_), allB_y0, dutiesTold_ok ?_⟩
 ·simp only [allB_t0, F30, F74, F78, Int.toNat_zero, tl]
  first | omega | (simp only [and_true, true_and]; omega)
 ·simp only [allB_d0, F30, F71, F72, F73, F78, Int.toNat_zero, tl]

def allC : CSpec := { args := [.pv (.sl (.int .u8)) (.var 0)], next := 0, rows := [(0, .ext cellsG)], pre := [(.le (.un .len (.var 0)) (.int 1000000000000000), true), (.le zYc1 (.int 1000000000000000000), true), (.le (.un .len (.var 0)) (.int 20), true), (.le zYc1 (.int 4000), true), (.eq (.fn 74 (argsE [.var 0, .int 0])) (.int 1), false)], res := .tuple [.nilslice, .nilslice, .nilslice, .bool false], frows := [], same := [] }
abbrev asYc7 : Q × Bool := ((.le zYc4 (.int 4000)), true)
abbrev asYc8 : Q × Bool := ((.le (.un .len (.var 0)) (.int 0)), false)
abbrev asYc9 : Q × Bool := ((.le (.int 1) zYc0), false)
abbrev asYc10 : Q × Bool := ((.fit .i64 zYc0), true)
abbrev asYc11 : Q × Bool := ((.eq zYc0 (.int 0)), true)
def allC_t0 : List (Q × Bool) := [asYc0, asYc1, asYc2, asYc3, asYc5, asYc7, asYc8, asYc9, asYc10, asYc11]
def allC_d0 : List Duty := []
theorem allC_y0 : endC allC [] 1000 (callC Tryd.prog (tellA allC_t0) ltYc0 [(16, putPO)] [] 3000 40 7 allC) = some allC_d0 := by kernel_rfl
abbrev asYc12 : Q × Bool := ((.le (.int 1) zYc0), true)
abbrev asYc13 : Q × Bool := ((.le (.bi .add (.int 0) zYc0) zYc0), true)
abbrev asYc14 : Q × Bool := ((.le zYc0 (.int 1024)), false)
abbrev asYc15 : Q × Bool := ((.eq zYc0 (.int 0)), false)
def allC_t1 : List (Q × Bool) := [asYc0, asYc1, asYc2, asYc3, asYc5, asYc7, asYc8, asYc12, asYc13, asYc14, asYc10, asYc15]
def allC_d1 : List Duty := []
theorem allC_y1 : endC allC [] 1000 (callC Tryd.prog (tellA allC_t1) ltYc0 [(16, putPO)] [] 3000 40 7 allC) = some allC_d1 := by kernel_rfl
abbrev asYc16 : Q × Bool := ((.le zYc0 (.int 1024)), true)
abbrev asYc17 : Q × Bool := ((.fit .i64 txYc3), true)
abbrev asYc18 : Q × Bool := ((.fit .i64 (.bi .add zYc0 (.int 22))), true)
abbrev asYc19 : Q × Bool := ((.le (.int 26) txYc3), true)
abbrev asYc20 : Q × Bool := ((.eq txYc3 (.int 0)), false)
abbrev asYc21 : Q × Bool := ((.le (.bi .mul txYc3 (.int 2)) (.int 281474976710656)), true)
abbrev asYc22 : Q × Bool := ((.le (.int 1) (.un .len (.var 0))), true)
abbrev asYc23 : Q × Bool := ((.le (.fn 78 txYc1) (.int 10000)), true)
abbrev asYc24 : Q × Bool := ((.le (.int 0) txYc3), true)
abbrev asYc25 : Q × Bool := ((.le (.bi .add txYc3 (.fn 78 txYc1)) (.int 10000)), true)
abbrev asYc26 : Q × Bool := ((.same (.un .code txYc3) (.un .code (.bi .add txYc3 (.int 0)))), true)
abbrev asYc27 : Q × Bool := ((.eq (.fn 74 txYc1) (.int 1)), false)
def allC_t2 : List (Q × Bool) := [asYc0, asYc1, asYc2, asYc3, asYc5, asYc7, asYc8, asYc12, asYc13, asYc16, asYc17, asYc10, asYc18, asYc19, asYc20, asYc21, asYc22, asYc23, asYc24, asYc25, asYc26, asYc27]
def allC_d2 : List Duty := []
theorem allC_y2 : endC allC [] 1000 (callC Tryd.prog (tellA allC_t2) ltYc0 [(16, putPO)] [] 3000 40 7 allC) = some allC_d2 := by kernel_rfl
theorem allC_holds : CHolds Tryd.prog 7 allC F := by
 refine cholds_of sound (tableCons lensL_holds (tableCons aY_holds (tableCons aM_holds (tableNil _ _)))) (specsCons putPO_holds (specsNil _ _)) (oversNil _ _) (fuel := 3000) (depth := 40) (by kernel_rfl) fun d hp hR hA => ?_
 have hp := allTold'_iff.2 hp
 simp only [allC, tl] at hp hR hA
 simp only [argsE, F30, F74, Int.toNat_zero, tl] at hp
 have g0 := len_ints (d 0)
 have hn := lens_nn (((d 0).toList.take 21).drop 0)
 by_cases h0 : (d 0).ints.length = 0
 ·exfalso
  have e0 : (d 0).toList = [] := List.eq_nil_of_length_eq_zero (by omega)
  rw [e0] at hp
  exact hp.2.2.2.2 (fit_iff.2 fit_nil)
 ·have hn0 := hn
  have eD : (d 0).toList.drop 0 = ((d 0).toList[0]?.getD (.int 0)) :: (d 0).toList.drop 1 := drop_step (by omega)
  have e := eD
  rw [e] at hp
  rw [List.drop_zero] at e
  have ht : (d 0).toList.take 21 = (d 0).toList := List.take_of_length_le (by omega)
  rw [ht, List.drop_zero, e] at hn
  have h4 := hp.2.2.2.1
  rw [ht, List.drop_zero, e] at h4
  simp only [lensI] at hn h4
  have hn2 := lens_nn ((d 0).toList.drop 1)
  have hdl : ((d 0).toList.drop 1).length = (d 0).toList.length - 1 := List.length_drop
  generalize hX : (d 0).toList[0]?.getD (.int 0) = X at *
  have g1 := len_ints X
  have hr := rec_len (X := X.ints)
  have hpX : prt X.ints 0 (0 + (X.ints.length : Int)) = X.ints := by rw [Int.zero_add]; exact prt_all rfl
  by_cases x1 : X.toList.length = 0
  ·refine ⟨tellA allC_t0, _, _, _, tellA_ok (allTold'_iff.1 ?_), allC_y0, dutiesTold_ok ?_⟩
   ·simp only [allC_t0, F30, F74, F78, Int.toNat_zero, Int.reduceToNat, hX, tl]
    first | omega
   ·simp only [allC_d0, tl]
  ·by_cases x2 : 1024 < X.toList.length
   ·refine ⟨tellA allC_t1, _, _, _, tellA_ok (allTold'_iff.1 ?_), allC_y1, dutiesTold_ok ?_⟩
    ·simp only [allC_t1, F30, F74, F78, Int.toNat_zero, Int.reduceToNat, hX, tl]
     first | omega
    ·simp only [allC_d1, tl]
   ·have pf2 : ¬ fitI ((d 0).toList.drop 1) = 1 := fun q => hp.2.2.2.2 (fit_iff.2 (fit_cons.2 ⟨⟨by omega, by omega⟩, fit_iff.1 q⟩))
    refine ⟨tellA allC_t2, _, _, _, tellA_ok (allTold'_iff.1 ?_), allC_y2, dutiesTold_ok ?_⟩
    ·simp only [allC_t2, F30, F74, F78, F61, F62, Int.toNat_zero, Int.reduceToNat, hX, tl]
     and_intros <;> first | omega | (rw [Int.add_zero]) | exact pf2
    ·simp only [allC_d2, tl]

def allE : CSpec := { args := [.pv (.sl (.int .u8)) (.var 0)], next := 0, rows := [(0, .ext cellsG)], pre := [(.le (.un .len (.var 0)) (.int 1000000000000000), true), (.le zYc1 (.int 1000000000000000000), true), (.eq (.un .len (.var 0)) (.int 0), true)], res := .tuple [.nilslice, .nilslice, .nilslice, .bool true], frows := [], same := [] }
abbrev asYc28 : Q × Bool := ((.le (.un .len (.var 0)) (.int 0)), true)
def allE_t0 : List (Q × Bool) := [asYc0, asYc1, asYc2, asYc3, asYc5, asYc7, asYc28]
def allE_d0 : List Duty := []
theorem allE_y0 : endC allE [] 1000 (callC Tryd.prog (tellA allE_t0) ltYc0 [(16, putPO)] [] 3000 40 7 allE) = some allE_d0 := by kernel_rfl
theorem allE_holds : CHolds Tryd.prog 7 allE F := by
 refine cholds_of sound (tableCons lensL_holds (tableCons aY_holds (tableCons aM_holds (tableNil _ _)))) (specsCons putPO_holds (specsNil _ _)) (oversNil _ _) (fuel := 3000) (depth := 40) (by kernel_rfl) fun d hp hR hA => ?_
 have hp := allTold'_iff.2 hp
 simp only [allE, tl] at hp hR hA
 simp only [argsE, F30, F74, Int.toNat_zero, tl] at hp
 have g0 := len_ints (d 0)
 have hn := lens_nn (((d 0).toList.take 21).drop 0)
 have e0 : (d 0).toList = [] := List.eq_nil_of_length_eq_zero (by omega)
 have hz : lensI (((d 0).toList.take 21).drop 0) = 0 := by rw [e0]; rfl
 refine ⟨tellA allE_t0, _, _, _, tellA_ok (allTold'_iff.1 ?_), allE_y0, dutiesTold_ok ?_⟩
 ·simp only [allE_t0, F30, F74, F78, Int.toNat_zero, tl]
  first | omega | (simp only [and_true, true_and]; omega)
 ·simp only [allE_d0, F30, F71, F72, F73, F78, Int.toNat_zero, tl]

def allY : CSpec := { args := [.pv (.sl (.int .u8)) (.var 0)], next := 0, rows := [(0, .ext cellsG)], pre := [(.le (.un .len (.var 0)) (.int 1000000000000000), true), (.le zYc1 (.int 1000000000000000000), true), (.le (.int 1) (.un .len (.var 0)), true), (.le (.un .len (.var 0)) (.int 20), true), (.le zYc1 (.int 4000), true), (.eq (.fn 74 (argsE [.var 0, .int 0])) (.int 1), true)], res := .tuple [.sslice 1 (.int 0) zYc5 zYc5 true, .sslice 3 (.int 0) (.un .len (.var 0)) (.un .len (.var 0)) true, .vslice 5 18 (.int 0) (.un .len (.var 0)) (.un .len (.var 0)) true, .bool true], frows := [(1, .seq ⟨5, .u8, zYc5, .fn 71 (argsE [.var 0, .int 0]), true, false⟩), (3, .seq ⟨3, .i64, .un .len (.var 0), .fn 72 (argsE [.var 0, .int 0, .int 0]), true, false⟩), (5, .vseq ⟨36, .agg [.agg [.int .u8, .int .u8, .int .u8, .int .u8, .int .u8, .int .u8, .int .u8, .int .u8, .int .u8, .int .u8, .int .u8, .int .u8, .int .u8, .int .u8, .int .u8, .int .u8], .int .i64, .int .i64], .un .len (.var 0), .fn 73 (argsE [.var 0, .int 0, .int 0]), true⟩)], same := [] }
abbrev asYc29 : Q × Bool := ((.eq (.fn 74 txYc1) (.int 1)), true)
def allY_t0 : List (Q × Bool) := [asYc0, asYc1, asYc2, asYc3, asYc5, asYc7, asYc8, asYc12, asYc13, asYc16, asYc17, asYc10, asYc18, asYc19, asYc20, asYc21, asYc22, asYc23, asYc24, asYc25, asYc26, asYc29]
def allY_d0 : List Duty := [zYc3, zYc3, zYc2, zYc2, zYc2, zYc2, zYc3, (false, (.bi .app (.fn 62 txYc7) (.fn 71 txYc1)), (.fn 71 txYc0)), zYc2, (false, (.bi .app (.bi .app (.un .one txYc3) (.lits [])) (.fn 72 (.bi .pair (.var 0) txYc6))), (.fn 72 txYc5)), zYc2, (false, (.un .code (.bi .app (.bi .snoc (.lits []) (.bi .snoc (.bi .snoc (.bi .snoc (.lits []) (.bi .snoc (.bi .snoc (.bi .snoc (.bi .snoc (.bi .snoc (.bi .snoc (.bi .snoc (.bi .snoc (.bi .snoc (.bi .snoc (.bi .snoc (.bi .snoc (.bi .snoc (.bi .snoc (.bi .snoc (.bi .snoc (.lits []) (.bi .sel (.fn 61 txYc7) (.int 0))) (.bi .sel (.fn 61 txYc7) (.int 1))) (.bi .sel (.fn 61 txYc7) (.int 2))) (.bi .sel (.fn 61 txYc7) (.int 3))) (.bi .sel (.fn 61 txYc7) (.int 4))) (.bi .sel (.fn 61 txYc7) (.int 5))) (.bi .sel (.fn 61 txYc7) (.int 6))) (.bi .sel (.fn 61 txYc7) (.int 7))) (.bi .sel (.fn 61 txYc7) (.int 8))) (.bi .sel (.fn 61 txYc7) (.int 9))) (.bi .sel (.fn 61 txYc7) (.int 10))) (.bi .sel (.fn 61 txYc7) (.int 11))) (.bi .sel (.fn 61 txYc7) (.int 12))) (.bi .sel (.fn 61 txYc7) (.int 13))) (.bi .sel (.fn 61 txYc7) (.int 14))) (.bi .sel (.fn 61 txYc7) (.int 15)))) (.int 0)) zYc0)) (.fn 73 (.bi .pair (.var 0) txYc6)))), (.un .code (.fn 73 txYc5)))]
theorem allY_y0 : endC allY [(5, 21), (3, 19), (1, 17)] 1000 (callC Tryd.prog (tellA allY_t0) ltYc0 [(16, putPO)] [] 3000 40 7 allY) = some allY_d0 := by kernel_rfl
theorem allY_holds : CHolds Tryd.prog 7 allY F := by
 refine cholds_of sound (tableCons lensL_holds (tableCons aY_holds (tableCons aM_holds (tableNil _ _)))) (specsCons putPO_holds (specsNil _ _)) (oversNil _ _) (fuel := 3000) (depth := 40) (by kernel_rfl) fun d hp hR hA => ?_
 have hp := allTold'_iff.2 hp
 simp only [allY, tl] at hp hR hA
 simp only [argsE, F30, F74, Int.toNat_zero, tl] at hp
 have g0 := len_ints (d 0)
 have hn := lens_nn (((d 0).toList.take 21).drop 0)
 have hn0 := hn
 have eD : (d 0).toList.drop 0 = ((d 0).toList[0]?.getD (.int 0)) :: (d 0).toList.drop 1 := drop_step (by omega)
 have e := eD
 rw [e] at hp
 rw [List.drop_zero] at e
 have ht : (d 0).toList.take 21 = (d 0).toList := List.take_of_length_le (by omega)
 rw [ht, List.drop_zero, e] at hn
 have h4 := hp.2.2.2.2.1
 rw [ht, List.drop_zero, e] at h4
 simp only [lensI] at hn h4
 have hn2 := lens_nn ((d 0).toList.drop 1)
 have hdl : ((d 0).toList.drop 1).length = (d 0).toList.length - 1 := List.length_drop
 generalize hX : (d 0).toList[0]?.getD (.int 0) = X at *
 have g1 := len_ints X
 have hr := rec_len (X := X.ints)
 have hpX : prt X.ints 0 (0 + (X.ints.length : Int)) = X.ints := by rw [Int.zero_add]; exact prt_all rfl
 have hpX2 : prt X.ints 0 (X.ints.length : Int) = X.ints := prt_all rfl
 obtain ⟨⟨x1, x2⟩, pf2⟩ := fit_cons.1 (fit_iff.1 hp.2.2.2.2.2)
 have pf3 := fit_iff.2 pf2
 refine ⟨tellA allY_t0, _, _, _, tellA_ok (allTold'_iff.1 ?_), allY_y0, dutiesTold_ok ?_⟩
 ·simp only [allY_t0, F30, F74, F78, F61, F62, Int.toNat_zero, Int.reduceToNat, hX, tl]
  refine ⟨by omega, by omega, by omega, by omega, by omega, by omega, by omega, by omega, by omega, by omega, by omega, by omega, by omega, by omega, by omega, by omega, by omega, by omega, by omega, by omega, by rw [Int.add_zero], pf3⟩
 ·simp only [allY_d0, F61, F62, F71, F72, F73, F78, Int.toNat_zero, Int.reduceToNat, hX, eD, recsI, endsI, heldsI, lensI, List.length_cons, D.ints_ofInts, D.toList_list, tl]
  all_goals (and_intros <;> first | exact True.intro | omega | (rw [hpX]; done) | (simp only [hpX, ints_list, List.map_append, map_ints, D.ints_ofInts, List.append_assoc, List.map_cons, List.map_nil, D.toInt_int, List.cons_append, List.nil_append, show (D.ofInts []).toList = [] from rfl, Int.zero_add]; done) | (refine congrArg D.code ?_; simp only [ofInts_getD, Int.reduceToNat, hpX, hpX2, ofInts16 (l := idI X.ints) idI_len, show (D.ofInts []).toList = [] from rfl, List.nil_append, List.cons_append, List.append_assoc, D.toList_list, Int.zero_add]; first | done | rfl))

end Go.Proofs.YtidpndnehbhloaaDoor.Yc
