/-
 Contracts of this seat: what loops and calls leave, for all inputs. No condition.
-/
import Derived.Test.YtidjfojcifjdjaaDoorSycp
import Derived.Test.YtidjfojcifjdjaaDoorCo
import Derived.Test.YtidjfojcifjdjaaDoorP0
import Derived.Test.YtidjfojcifjdjaaDoorPa
set_option linter.unusedSimpArgs false
set_option linter.unusedVariables false
namespace Go.Proofs.YtidjfojcifjdjaaDoor.Ph
open Go.RowKit Go.Ev Go.Proofs.YtidjfojcifjdjaaDoor.Co

open Go.Proofs.YtidjfojcifjdjaaDoor.P0
open Go.Proofs.YtidjfojcifjdjaaDoor.Pa

abbrev zPh11 : E := (.bi .add (.var 5) (.var 4))
abbrev txPh0 : E := (.bi .sel (.var 2) zPh11)
abbrev txPh1 : E := (.bi .sel (.var 2) (.bi .add (.var 5) (.var 0)))
abbrev zPh7 : E := (.bi .add (.var 5) (.var 6))
abbrev txPh2 : E := (.bi .pair zPh7 (.int 0))
abbrev zPh2 : E := (.bi .add (.var 1) (.var 2))
abbrev txPh3 : E := (.bi .pair zPh2 (.int 0))
abbrev txPh4 : E := (.fn 43 (argsE [.var 0, .var 1, .bi .sel (.var 2) zPh11]))
abbrev zPh3 : E := (.bi (.iop .shr .u32) (.var 1) (.int 1))
abbrev txPh5 : E := (.bi (.iop .xor .u32) zPh3 (.int 3988292384))
abbrev zPh5 : E := (.bi .add (.var 2) (.int 1))
abbrev txPh6 : E := (.bi .add (.bi (.iop .rem .i64) zPh5 (.int 90)) (.int 160))
abbrev zPh9 : E := (.bi .add (.var 2) (.int 2))
abbrev txPh7 : E := (.bi .add (.bi (.iop .rem .i64) zPh9 (.int 90)) (.int 160))
abbrev txPh8 : E := (.fn 44 (argsE [.var 1, .var 2, .bi .add (.var 5) (.var 0), .bi .add (.var 5) (.var 6)]))
abbrev txPh9 : E := (.tr .upd (.var 1) (.var 2) (.bi (.iop .xor .u8) (.bi .sel (.var 1) (.var 2)) (.int 90)))
abbrev zPh15 : E := (.bi .pair txPh0 (.int 0))
abbrev txPh10 : E := (.bi .pair (.var 1) zPh15)
abbrev txPh11 : E := (.bi .pair (.var 1) (.bi .pair txPh1 (.int 0)))
abbrev txPh12 : E := (.bi .pair (.bi .add (.var 5) (.var 0)) txPh2)
abbrev txPh13 : E := (.bi .pair (.bi .add (.var 1) (.int 0)) txPh3)
abbrev txPh14 : E := (.bi .pair (.var 5) (.bi .pair (.var 1) txPh3))
abbrev zPh0 : E := (.bi .add (.var 0) (.int 1))
abbrev txPh15 : E := (.bi .pair (.bi .add (.var 5) zPh0) txPh2)
abbrev txPh16 : E := (.bi (.iop .rem .u32) (.bi (.iop .shr .u8) txPh0 (.var 0)) (.int 2))
abbrev txPh17 : E := (.bi .pair zPh3 zPh15)
abbrev txPh18 : E := (.bi .pair (.var 1) (.bi .pair (.var 2) txPh12))
abbrev txPh19 : E := (.bi .pair (.int 4294967295) (.bi .pair (.var 5) txPh13))
abbrev txPh20 : E := (.bi .pair txPh5 zPh15)
abbrev txPh21 : E := (.bi .pair zPh0 txPh17)
abbrev txPh22 : E := (.bi (.iop .xor .u32) (.int 4294967295) (.fn 44 txPh19))
abbrev txPh23 : E := (.bi .pair zPh0 txPh20)
abbrev zPh6 : E := (.fn 43 (.bi .pair (.int 0) txPh11))
abbrev txPh24 : E := (.bi .pair zPh6 (.bi .pair (.var 2) txPh15))
abbrev zPh1 : E := (.bi .add (.var 2) (.int 3))
abbrev zPh4 : E := (.fn 43 (.bi .pair (.var 0) txPh10))
abbrev zPh8 : Nat × RW := (3, .eseq ⟨.u8, .var 4, .var 5⟩)
abbrev zPh10 : Nat × RW := (3, .eseq ⟨.u8, .var 3, .var 2⟩)
abbrev zPh12 : E := (.bi .add (.bi (.iop .rem .i64) (.var 2) (.int 90)) (.int 160))
abbrev zPh13 : E := (.fn 45 (argsE [.var 5, .var 1, .bi .add (.var 1) (.var 2)]))
abbrev zPh14 : E := (.bi .add (.var 2) (.int 4))
def bitL : LSpec := { n := 35, next := 2, pat := [(5, .sint .i64 (.var 0)), (3, .sint .u32 (.var 1)), (4, .sint .i64 (.var 4)), (0, .sslice 3 (.var 5) (.var 6) (.var 7) false)], rows := [zPh10], pre := [(.le (.int 0) (.var 0), true), (.le (.var 0) (.int 8), true), (.le (.int 0) (.var 4), true), (.le (.var 6) (.var 4), false), (.le zPh7 (.var 3), true)], x := 2, fin := [(3, .sint .u32 txPh4), (4, .sint .i64 (.var 4)), (0, .sslice 3 (.var 5) (.var 6) (.var 7) false)], frows := [], same := [3], chg := [0, 3, 4, 5, 6, 13, 14, 15, 16, 17, 18, 19, 20, 21, 22, 23, 24, 25, 26, 27, 28, 29, 30, 31, 32] }
abbrev asPh0 : Q × Bool := ((.le (.int 8) (.var 0)), false)
abbrev asPh1 : Q × Bool := ((.le (.int 0) (.var 4)), true)
abbrev asPh2 : Q × Bool := ((.le (.var 6) (.var 4)), false)
abbrev asPh3 : Q × Bool := ((.le (.int 0) zPh11), true)
abbrev asPh4 : Q × Bool := ((.le (.var 3) zPh11), false)
abbrev asPh5 : Q × Bool := ((.le (.int 0) (.var 0)), true)
abbrev asPh6 : Q × Bool := ((.eq (.bi (.iop .rem .u32) (.var 1) (.int 2)) txPh16), false)
abbrev asPh7 : Q × Bool := ((.fit .i64 zPh0), true)
def bitL_t0 : List (Q × Bool) := [asPh0, asPh1, asPh2, asPh3, asPh4, asPh5, asPh6, asPh7]
def bitL_d0 : List Duty := [(true, (.fn 43 txPh23), zPh4)]
def bitL_h0 : List (Nat × E) := [(3, (.var 3)), (2, (.var 2)), (5, (.var 5)), (6, (.var 6)), (7, (.var 7)), (4, (.var 4)), (1, txPh5), (0, zPh0)]
theorem bitL_h0_a : lookE bitL_h0 0 = zPh0 ∧ lookE bitL_h0 1 = txPh5 ∧ lookE bitL_h0 2 = (.var 2) ∧ lookE bitL_h0 3 = (.var 3) ∧ lookE bitL_h0 4 = (.var 4) ∧ lookE bitL_h0 5 = (.var 5) ∧ lookE bitL_h0 6 = (.var 6) ∧ lookE bitL_h0 7 = (.var 7) := ⟨rfl, rfl, rfl, rfl, rfl, rfl, rfl, rfl⟩
noncomputable abbrev ltPh1 : List LEntry := [⟨70, [4, 1, 0, 1, 1, 1], sprL⟩, ⟨66, [4, 1, 0, 1, 1, 1], mixL⟩, ⟨54, [4, 1, 0, 1, 1, 1], moreL⟩, ⟨54, [4, 1, 0, 1, 1, 1], moreLO⟩]
theorem bitL_y0 : nextD bitL bitL_h0 [(3, 3)] (roundC Tryd.prog ltPh1 [(66, mixedC), (67, fillC), (68, bytesC), (62, tableC), (54, moreC), (54, moreCO), (32, putC), (32, putCO)] [] 3000 40 47 [4, 1, 4, 0, 1, 5, 4, 1, 0, 1, 1] (tellA bitL_t0) bitL) = some bitL_d0 := by kernel_rfl
abbrev asPh8 : Q × Bool := ((.eq (.bi (.iop .rem .u32) (.var 1) (.int 2)) txPh16), true)
def bitL_t1 : List (Q × Bool) := [asPh0, asPh1, asPh2, asPh3, asPh4, asPh5, asPh8, asPh7]
def bitL_d1 : List Duty := [(true, (.fn 43 txPh21), zPh4)]
def bitL_h1 : List (Nat × E) := [(3, (.var 3)), (2, (.var 2)), (5, (.var 5)), (6, (.var 6)), (7, (.var 7)), (4, (.var 4)), (1, zPh3), (0, zPh0)]
theorem bitL_h1_a : lookE bitL_h1 0 = zPh0 ∧ lookE bitL_h1 1 = zPh3 ∧ lookE bitL_h1 2 = (.var 2) ∧ lookE bitL_h1 3 = (.var 3) ∧ lookE bitL_h1 4 = (.var 4) ∧ lookE bitL_h1 5 = (.var 5) ∧ lookE bitL_h1 6 = (.var 6) ∧ lookE bitL_h1 7 = (.var 7) := ⟨rfl, rfl, rfl, rfl, rfl, rfl, rfl, rfl⟩
noncomputable abbrev ltPh2 : List (FuncId × CSpec) := [(66, mixedC), (67, fillC), (68, bytesC), (62, tableC), (54, moreC), (54, moreCO), (32, putC), (32, putCO)]
theorem bitL_y1 : nextD bitL bitL_h1 [(3, 3)] (roundC Tryd.prog ltPh1 ltPh2 [] 3000 40 47 [4, 1, 4, 0, 1, 5, 4, 1, 0, 1, 1] (tellA bitL_t1) bitL) = some bitL_d1 := by kernel_rfl
abbrev asPh9 : Q × Bool := ((.le (.int 8) (.var 0)), true)
def bitL_t2 : List (Q × Bool) := [asPh9]
def bitL_d2 : List Duty := [(true, (.var 1), zPh4)]
theorem bitL_y2 : endD bitL [(3, 3)] 1000 (roundC Tryd.prog ltPh1 ltPh2 [] 3000 40 47 [4, 1, 4, 0, 1, 5, 4, 1, 0, 1, 1] (tellA bitL_t2) bitL) = some bitL_d2 := by kernel_rfl
theorem bitL_holds : LHolds Tryd.prog (loopAt Tryd.prog 47 [4, 1, 4, 0, 1, 5, 4, 1, 0, 1, 1]) bitL F := by
 refine loop_roundsC sound (tableCons sprL_holds (tableCons mixL_holds (tableCons moreL_holds (tableCons moreLO_holds (tableNil _ _))))) (specsCons mixedC_holds (specsCons fillC_holds (specsCons bytesC_holds (specsCons tableC_holds (specsCons moreC_holds (specsCons moreCO_holds (specsCons putC_holds (specsCons putCO_holds (specsNil _ _))))))))) (oversNil _ _) (fuel := 3000) (depth := 40) (by kernel_rfl) (by kernel_rfl) (by kernel_rfl) (fun d => (8 - (d 0).toInt).toNat) fun d hp hR hA => ?_
 have hp := allTold'_iff.2 hp
 simp only [bitL, tl] at hp hR hA
 by_cases h : 8 ≤ (d 0).toInt
 ·refine ⟨tellA bitL_t2, tellA_ok (allTold'_iff.1 ?_), .inl ⟨_, _, _, bitL_y2, dutiesTold_ok ?_⟩⟩
  ·simp only [bitL_t2, tl]
   omega
  ·simp only [bitL_d2, F43, tl]
   rw [show (8 - (d 0).toInt).toNat = 0 by omega]
   rfl
 ·by_cases g : iopI .rem .u32 (d 1).toInt 2 = iopI .rem .u32 (iopI .shr .u8 (((d 2).ints[((d 5).toInt + (d 4).toInt).toNat]?).getD 0) (d 0).toInt) 2
  ·refine ⟨tellA bitL_t1, tellA_ok (allTold'_iff.1 ?_), .inr ⟨bitL_h1, _, _, bitL_y1, dutiesTold_ok ?_, allTold'_iff.1 ?_, ?_⟩⟩
   ·simp only [bitL_t1, tl]
    omega
   ·simp only [bitL_d1, F43, tl]
    rw [bits_step _ (d 1).toInt _ (by omega)]
    unfold bitI
    rw [if_pos g]
   ·simp only [bitL, bitL_h1_a, tl]
    omega
   ·simp only [bitL_h1_a, tl]
    omega
  ·refine ⟨tellA bitL_t0, tellA_ok (allTold'_iff.1 ?_), .inr ⟨bitL_h0, _, _, bitL_y0, dutiesTold_ok ?_, allTold'_iff.1 ?_, ?_⟩⟩
   ·simp only [bitL_t0, tl]
    omega
   ·simp only [bitL_d0, F43, tl]
    rw [bits_step _ (d 1).toInt _ (by omega)]
    unfold bitI
    rw [if_neg g]
   ·simp only [bitL, bitL_h0_a, tl]
    omega
   ·simp only [bitL_h0_a, tl]
    omega

def bitLO : LSpec := { n := 35, next := 2, pat := [(5, .sint .i64 (.var 0)), (3, .sint .u32 (.var 1)), (4, .sint .i64 (.var 4)), (0, .sslice 3 (.var 5) (.var 6) (.var 7) true)], rows := [zPh10], pre := [(.le (.int 0) (.var 0), true), (.le (.var 0) (.int 8), true), (.le (.int 0) (.var 4), true), (.le (.var 6) (.var 4), false), (.le zPh7 (.var 3), true)], x := 2, fin := [(3, .sint .u32 txPh4), (4, .sint .i64 (.var 4)), (0, .sslice 3 (.var 5) (.var 6) (.var 7) true)], frows := [], same := [3], chg := [0, 3, 4, 5, 6, 13, 14, 15, 16, 17, 18, 19, 20, 21, 22, 23, 24, 25, 26, 27, 28, 29, 30, 31, 32] }
def bitLO_t0 : List (Q × Bool) := [asPh0, asPh1, asPh2, asPh3, asPh4, asPh5, asPh6, asPh7]
def bitLO_d0 : List Duty := [(true, (.fn 43 txPh23), zPh4)]
def bitLO_h0 : List (Nat × E) := [(3, (.var 3)), (2, (.var 2)), (5, (.var 5)), (6, (.var 6)), (7, (.var 7)), (4, (.var 4)), (1, txPh5), (0, zPh0)]
theorem bitLO_h0_a : lookE bitLO_h0 0 = zPh0 ∧ lookE bitLO_h0 1 = txPh5 ∧ lookE bitLO_h0 2 = (.var 2) ∧ lookE bitLO_h0 3 = (.var 3) ∧ lookE bitLO_h0 4 = (.var 4) ∧ lookE bitLO_h0 5 = (.var 5) ∧ lookE bitLO_h0 6 = (.var 6) ∧ lookE bitLO_h0 7 = (.var 7) := ⟨rfl, rfl, rfl, rfl, rfl, rfl, rfl, rfl⟩
noncomputable abbrev ltPh0 : List LEntry := [⟨70, [4, 1, 0, 1, 1, 1], sprL⟩, ⟨66, [4, 1, 0, 1, 1, 1], mixL⟩, ⟨54, [4, 1, 0, 1, 1, 1], moreL⟩, ⟨54, [4, 1, 0, 1, 1, 1], moreLO⟩, ⟨47, [4, 1, 4, 0, 1, 5, 4, 1, 0, 1, 1], bitL⟩]
theorem bitLO_y0 : nextD bitLO bitLO_h0 [(3, 3)] (roundC Tryd.prog ltPh0 [(66, mixedC), (67, fillC), (68, bytesC), (62, tableC), (54, moreC), (54, moreCO), (32, putC), (32, putCO)] [] 3000 40 47 [4, 1, 4, 0, 1, 5, 4, 1, 0, 1, 1] (tellA bitLO_t0) bitLO) = some bitLO_d0 := by kernel_rfl
def bitLO_t1 : List (Q × Bool) := [asPh0, asPh1, asPh2, asPh3, asPh4, asPh5, asPh8, asPh7]
def bitLO_d1 : List Duty := [(true, (.fn 43 txPh21), zPh4)]
def bitLO_h1 : List (Nat × E) := [(3, (.var 3)), (2, (.var 2)), (5, (.var 5)), (6, (.var 6)), (7, (.var 7)), (4, (.var 4)), (1, zPh3), (0, zPh0)]
theorem bitLO_h1_a : lookE bitLO_h1 0 = zPh0 ∧ lookE bitLO_h1 1 = zPh3 ∧ lookE bitLO_h1 2 = (.var 2) ∧ lookE bitLO_h1 3 = (.var 3) ∧ lookE bitLO_h1 4 = (.var 4) ∧ lookE bitLO_h1 5 = (.var 5) ∧ lookE bitLO_h1 6 = (.var 6) ∧ lookE bitLO_h1 7 = (.var 7) := ⟨rfl, rfl, rfl, rfl, rfl, rfl, rfl, rfl⟩
theorem bitLO_y1 : nextD bitLO bitLO_h1 [(3, 3)] (roundC Tryd.prog ltPh0 ltPh2 [] 3000 40 47 [4, 1, 4, 0, 1, 5, 4, 1, 0, 1, 1] (tellA bitLO_t1) bitLO) = some bitLO_d1 := by kernel_rfl
def bitLO_t2 : List (Q × Bool) := [asPh9]
def bitLO_d2 : List Duty := [(true, (.var 1), zPh4)]
theorem bitLO_y2 : endD bitLO [(3, 3)] 1000 (roundC Tryd.prog ltPh0 ltPh2 [] 3000 40 47 [4, 1, 4, 0, 1, 5, 4, 1, 0, 1, 1] (tellA bitLO_t2) bitLO) = some bitLO_d2 := by kernel_rfl
theorem bitLO_holds : LHolds Tryd.prog (loopAt Tryd.prog 47 [4, 1, 4, 0, 1, 5, 4, 1, 0, 1, 1]) bitLO F := by
 refine loop_roundsC sound (tableCons sprL_holds (tableCons mixL_holds (tableCons moreL_holds (tableCons moreLO_holds (tableCons bitL_holds (tableNil _ _)))))) (specsCons mixedC_holds (specsCons fillC_holds (specsCons bytesC_holds (specsCons tableC_holds (specsCons moreC_holds (specsCons moreCO_holds (specsCons putC_holds (specsCons putCO_holds (specsNil _ _))))))))) (oversNil _ _) (fuel := 3000) (depth := 40) (by kernel_rfl) (by kernel_rfl) (by kernel_rfl) (fun d => (8 - (d 0).toInt).toNat) fun d hp hR hA => ?_
 have hp := allTold'_iff.2 hp
 simp only [bitLO, tl] at hp hR hA
 by_cases h : 8 ≤ (d 0).toInt
 ·refine ⟨tellA bitLO_t2, tellA_ok (allTold'_iff.1 ?_), .inl ⟨_, _, _, bitLO_y2, dutiesTold_ok ?_⟩⟩
  ·simp only [bitLO_t2, tl]
   omega
  ·simp only [bitLO_d2, F43, tl]
   rw [show (8 - (d 0).toInt).toNat = 0 by omega]
   rfl
 ·by_cases g : iopI .rem .u32 (d 1).toInt 2 = iopI .rem .u32 (iopI .shr .u8 (((d 2).ints[((d 5).toInt + (d 4).toInt).toNat]?).getD 0) (d 0).toInt) 2
  ·refine ⟨tellA bitLO_t1, tellA_ok (allTold'_iff.1 ?_), .inr ⟨bitLO_h1, _, _, bitLO_y1, dutiesTold_ok ?_, allTold'_iff.1 ?_, ?_⟩⟩
   ·simp only [bitLO_t1, tl]
    omega
   ·simp only [bitLO_d1, F43, tl]
    rw [bits_step _ (d 1).toInt _ (by omega)]
    unfold bitI
    rw [if_pos g]
   ·simp only [bitLO, bitLO_h1_a, tl]
    omega
   ·simp only [bitLO_h1_a, tl]
    omega
  ·refine ⟨tellA bitLO_t0, tellA_ok (allTold'_iff.1 ?_), .inr ⟨bitLO_h0, _, _, bitLO_y0, dutiesTold_ok ?_, allTold'_iff.1 ?_, ?_⟩⟩
   ·simp only [bitLO_t0, tl]
    omega
   ·simp only [bitLO_d0, F43, tl]
    rw [bits_step _ (d 1).toInt _ (by omega)]
    unfold bitI
    rw [if_neg g]
   ·simp only [bitLO, bitLO_h0_a, tl]
    omega
   ·simp only [bitLO_h0_a, tl]
    omega

def refL : LSpec := { n := 35, next := 2, pat := [(4, .sint .i64 (.var 0)), (3, .sint .u32 (.var 1)), (0, .sslice 3 (.var 5) (.var 6) (.var 7) false)], rows := [zPh10], pre := [(.le (.int 0) (.var 0), true), (.le (.var 0) (.var 6), true), (.le zPh7 (.var 3), true), (.le (.var 6) (.int 1000000), true)], x := 0, fin := [(3, .sint .u32 txPh8)], frows := [], same := [3], chg := [0, 3, 4, 5, 6, 7, 8, 9, 10, 11, 12, 13, 14, 15, 16, 17, 18, 19, 20, 21, 22, 23, 24, 25, 26, 27, 28, 29, 30, 31, 32] }
abbrev asPh10 : Q × Bool := ((.fit .i64 (.var 6)), true)
abbrev asPh11 : Q × Bool := ((.le (.var 6) (.var 0)), false)
abbrev asPh12 : Q × Bool := ((.le zPh7 (.var 3)), true)
def refL_t0 : List (Q × Bool) := [asPh10, asPh11, asPh5, asPh12, asPh7]
def refL_d0 : List Duty := [(true, (.fn 44 txPh24), (.fn 44 txPh18))]
def refL_h0 : List (Nat × E) := [(3, (.var 3)), (2, (.var 2)), (5, (.var 5)), (6, (.var 6)), (7, (.var 7)), (1, zPh6), (0, zPh0)]
theorem refL_h0_a : lookE refL_h0 0 = zPh0 ∧ lookE refL_h0 1 = zPh6 ∧ lookE refL_h0 2 = (.var 2) ∧ lookE refL_h0 3 = (.var 3) ∧ lookE refL_h0 5 = (.var 5) ∧ lookE refL_h0 6 = (.var 6) ∧ lookE refL_h0 7 = (.var 7) := ⟨rfl, rfl, rfl, rfl, rfl, rfl, rfl⟩
theorem refL_y0 : nextD refL refL_h0 [(3, 3)] (roundC Tryd.prog [⟨47, [4, 1, 4, 0, 1, 5, 4, 1, 0, 1, 1], bitL⟩] [] [] 3000 40 47 [4, 1, 0, 1, 1] (tellA refL_t0) refL) = some refL_d0 := by kernel_rfl
abbrev asPh13 : Q × Bool := ((.le (.var 6) (.var 0)), true)
def refL_t1 : List (Q × Bool) := [asPh10, asPh13]
def refL_d1 : List Duty := [(true, (.var 1), (.fn 44 txPh18))]
theorem refL_y1 : endD refL [(3, 3)] 1000 (roundC Tryd.prog [⟨47, [4, 1, 4, 0, 1, 5, 4, 1, 0, 1, 1], bitL⟩] [] [] 3000 40 47 [4, 1, 0, 1, 1] (tellA refL_t1) refL) = some refL_d1 := by kernel_rfl
theorem refL_holds : LHolds Tryd.prog (loopAt Tryd.prog 47 [4, 1, 0, 1, 1]) refL F := by
 refine loop_roundsC sound (tableCons bitL_holds (tableNil _ _)) (specsNil _ _) (oversNil _ _) (fuel := 3000) (depth := 40) (by kernel_rfl) (by kernel_rfl) (by kernel_rfl) (fun d => ((d 6).toInt - (d 0).toInt).toNat) fun d hp hR hA => ?_
 have hp := allTold'_iff.2 hp
 simp only [refL, tl] at hp hR hA
 by_cases h : (d 6).toInt ≤ (d 0).toInt
 ·refine ⟨tellA refL_t1, tellA_ok (allTold'_iff.1 ?_), .inl ⟨_, _, _, refL_y1, dutiesTold_ok ?_⟩⟩
  ·simp only [refL_t1, tl]
   omega
  ·simp only [refL_d1, F44, tl]
   rw [prt_nil (by omega) (by omega)]
   rfl
 ·refine ⟨tellA refL_t0, tellA_ok (allTold'_iff.1 ?_), .inr ⟨refL_h0, _, _, refL_y0, dutiesTold_ok ?_, allTold'_iff.1 ?_, ?_⟩⟩
  ·simp only [refL_t0, tl]
   omega
  ·simp only [refL_d0, F44, F43, tl]
   rw [prt_step (x := (d 2).ints) (o := (d 5).toInt + (d 0).toInt) (by omega) (by omega) (by omega), Int.add_assoc]
   rfl
  ·simp only [refL, refL_h0_a, tl]
   omega
  ·simp only [refL_h0_a, tl]
   omega

def refLO : LSpec := { n := 35, next := 2, pat := [(4, .sint .i64 (.var 0)), (3, .sint .u32 (.var 1)), (0, .sslice 3 (.var 5) (.var 6) (.var 7) true)], rows := [zPh10], pre := [(.le (.int 0) (.var 0), true), (.le (.var 0) (.var 6), true), (.le zPh7 (.var 3), true), (.le (.var 6) (.int 1000000), true)], x := 0, fin := [(3, .sint .u32 txPh8)], frows := [], same := [3], chg := [0, 3, 4, 5, 6, 7, 8, 9, 10, 11, 12, 13, 14, 15, 16, 17, 18, 19, 20, 21, 22, 23, 24, 25, 26, 27, 28, 29, 30, 31, 32] }
def refLO_t0 : List (Q × Bool) := [asPh10, asPh11, asPh5, asPh12, asPh7]
def refLO_d0 : List Duty := [(true, (.fn 44 txPh24), (.fn 44 txPh18))]
def refLO_h0 : List (Nat × E) := [(3, (.var 3)), (2, (.var 2)), (5, (.var 5)), (6, (.var 6)), (7, (.var 7)), (1, zPh6), (0, zPh0)]
theorem refLO_h0_a : lookE refLO_h0 0 = zPh0 ∧ lookE refLO_h0 1 = zPh6 ∧ lookE refLO_h0 2 = (.var 2) ∧ lookE refLO_h0 3 = (.var 3) ∧ lookE refLO_h0 5 = (.var 5) ∧ lookE refLO_h0 6 = (.var 6) ∧ lookE refLO_h0 7 = (.var 7) := ⟨rfl, rfl, rfl, rfl, rfl, rfl, rfl⟩
theorem refLO_y0 : nextD refLO refLO_h0 [(3, 3)] (roundC Tryd.prog [⟨47, [4, 1, 4, 0, 1, 5, 4, 1, 0, 1, 1], bitLO⟩] [] [] 3000 40 47 [4, 1, 0, 1, 1] (tellA refLO_t0) refLO) = some refLO_d0 := by kernel_rfl
def refLO_t1 : List (Q × Bool) := [asPh10, asPh13]
def refLO_d1 : List Duty := [(true, (.var 1), (.fn 44 txPh18))]
theorem refLO_y1 : endD refLO [(3, 3)] 1000 (roundC Tryd.prog [⟨47, [4, 1, 4, 0, 1, 5, 4, 1, 0, 1, 1], bitLO⟩] [] [] 3000 40 47 [4, 1, 0, 1, 1] (tellA refLO_t1) refLO) = some refLO_d1 := by kernel_rfl
theorem refLO_holds : LHolds Tryd.prog (loopAt Tryd.prog 47 [4, 1, 0, 1, 1]) refLO F := by
 refine loop_roundsC sound (tableCons bitLO_holds (tableNil _ _)) (specsNil _ _) (oversNil _ _) (fuel := 3000) (depth := 40) (by kernel_rfl) (by kernel_rfl) (by kernel_rfl) (fun d => ((d 6).toInt - (d 0).toInt).toNat) fun d hp hR hA => ?_
 have hp := allTold'_iff.2 hp
 simp only [refLO, tl] at hp hR hA
 by_cases h : (d 6).toInt ≤ (d 0).toInt
 ·refine ⟨tellA refLO_t1, tellA_ok (allTold'_iff.1 ?_), .inl ⟨_, _, _, refLO_y1, dutiesTold_ok ?_⟩⟩
  ·simp only [refLO_t1, tl]
   omega
  ·simp only [refLO_d1, F44, tl]
   rw [prt_nil (by omega) (by omega)]
   rfl
 ·refine ⟨tellA refLO_t0, tellA_ok (allTold'_iff.1 ?_), .inr ⟨refLO_h0, _, _, refLO_y0, dutiesTold_ok ?_, allTold'_iff.1 ?_, ?_⟩⟩
  ·simp only [refLO_t0, tl]
   omega
  ·simp only [refLO_d0, F44, F43, tl]
   rw [prt_step (x := (d 2).ints) (o := (d 5).toInt + (d 0).toInt) (by omega) (by omega) (by omega), Int.add_assoc]
   rfl
  ·simp only [refLO, refLO_h0_a, tl]
   omega
  ·simp only [refLO_h0_a, tl]
   omega

def refC : CSpec := { args := [.sslice 3 (.var 1) (.var 2) (.var 3) false], next := 2, rows := [zPh8], pre := [(.le zPh2 (.var 4), true), (.le (.var 2) (.int 1000000), true)], res := .sint .u32 zPh13, frows := [], same := [] }
abbrev asPh14 : Q × Bool := ((.le (.int 0) (.var 2)), true)
abbrev asPh15 : Q × Bool := ((.le zPh2 (.var 4)), true)
abbrev asPh16 : Q × Bool := ((.le (.var 2) (.int 1000000)), true)
def refC_t0 : List (Q × Bool) := [asPh14, asPh15, asPh16]
def refC_d0 : List Duty := [(true, txPh22, (.fn 45 txPh14))]
theorem refC_y0 : endC refC [] 1000 (callC Tryd.prog (tellA refC_t0) [⟨47, [4, 1, 0, 1, 1], refL⟩] [] [] 3000 40 47 refC) = some refC_d0 := by kernel_rfl
theorem refC_holds : CHolds Tryd.prog 47 refC F := by
 refine cholds_of sound (tableCons refL_holds (tableNil _ _)) (specsNil _ _) (oversNil _ _) (fuel := 3000) (depth := 40) (by kernel_rfl) fun d hp hR hA => ?_
 have hp := allTold'_iff.2 hp
 simp only [refC, tl] at hp hR hA
 refine ⟨tellA refC_t0, _, _, _, tellA_ok (allTold'_iff.1 ?_), refC_y0, dutiesTold_ok ?_⟩
 ·simp only [refC_t0, tl]
  omega
 ·simp only [refC_d0, F44, F45, Int.add_zero, tl]
  rfl

def refCO : CSpec := { args := [.sslice 3 (.var 1) (.var 2) (.var 3) true], next := 2, rows := [zPh8], pre := [(.le zPh2 (.var 4), true), (.le (.var 2) (.int 1000000), true)], res := .sint .u32 zPh13, frows := [], same := [] }
def refCO_t0 : List (Q × Bool) := [asPh14, asPh15, asPh16]
def refCO_d0 : List Duty := [(true, txPh22, (.fn 45 txPh14))]
theorem refCO_y0 : endC refCO [] 1000 (callC Tryd.prog (tellA refCO_t0) [⟨47, [4, 1, 0, 1, 1], refLO⟩] [] [] 3000 40 47 refCO) = some refCO_d0 := by kernel_rfl
theorem refCO_holds : CHolds Tryd.prog 47 refCO F := by
 refine cholds_of sound (tableCons refLO_holds (tableNil _ _)) (specsNil _ _) (oversNil _ _) (fuel := 3000) (depth := 40) (by kernel_rfl) fun d hp hR hA => ?_
 have hp := allTold'_iff.2 hp
 simp only [refCO, tl] at hp hR hA
 refine ⟨tellA refCO_t0, _, _, _, tellA_ok (allTold'_iff.1 ?_), refCO_y0, dutiesTold_ok ?_⟩
 ·simp only [refCO_t0, tl]
  omega
 ·simp only [refCO_d0, F44, F45, Int.add_zero, tl]
  rfl

def overL : LSpec := { n := 22, next := 1, pat := [(3, .sint .i64 (.var 2)), (2, .sslice 1 (.int 0) (.var 0) (.var 0) false)], rows := [(1, .seq ⟨5, .u8, .var 0, .var 1, false, false⟩)], pre := [(.le (.int 0) (.var 2), true), (.le (.var 2) (.var 0), true), (.le (.var 0) (.int 9223372036854775807), true)], x := 0, fin := [], frows := [], same := [], chg := [2, 3, 8, 9, 10, 11, 12, 13, 14, 15, 16, 17, 18, 19, 20, 21] }
abbrev asPh17 : Q × Bool := ((.fit .i64 (.var 0)), true)
abbrev asPh18 : Q × Bool := ((.le (.var 0) (.var 2)), false)
abbrev asPh19 : Q × Bool := ((.fit .i64 zPh5), true)
def overL_t0 : List (Q × Bool) := [asPh17, asPh18, asPh14, asPh19]
def overL_d0 : List Duty := []
def overL_h0 : List (Nat × E) := [(1, txPh9), (0, (.var 0)), (2, zPh5)]
theorem overL_h0_a : lookE overL_h0 0 = (.var 0) ∧ lookE overL_h0 1 = txPh9 ∧ lookE overL_h0 2 = zPh5 := ⟨rfl, rfl, rfl⟩
theorem overL_y0 : nextD overL overL_h0 [(1, 1)] (roundC Tryd.prog [] [] [] 3000 40 17 [4, 1, 1] (tellA overL_t0) overL) = some overL_d0 := by kernel_rfl
abbrev asPh20 : Q × Bool := ((.le (.var 0) (.var 2)), true)
def overL_t1 : List (Q × Bool) := [asPh17, asPh20]
def overL_d1 : List Duty := []
theorem overL_y1 : endD overL [(1, 1)] 1000 (roundC Tryd.prog [] [] [] 3000 40 17 [4, 1, 1] (tellA overL_t1) overL) = some overL_d1 := by kernel_rfl
theorem overL_holds : LHolds Tryd.prog (loopAt Tryd.prog 17 [4, 1, 1]) overL F := by
 refine loop_roundsC sound (tableNil _ _) (specsNil _ _) (oversNil _ _) (fuel := 3000) (depth := 40) (by kernel_rfl) (by kernel_rfl) (by kernel_rfl) (fun d => ((d 0).toInt - (d 2).toInt).toNat) fun d hp hR hA => ?_
 have hp := allTold'_iff.2 hp
 simp only [overL, tl] at hp hR hA
 by_cases h : (d 0).toInt ≤ (d 2).toInt
 ·refine ⟨tellA overL_t1, tellA_ok (allTold'_iff.1 ?_), .inl ⟨_, _, _, overL_y1, dutiesTold_ok ?_⟩⟩
  ·simp only [overL_t1, tl]
   omega
  ·simp only [overL_d1, tl]
 ·refine ⟨tellA overL_t0, tellA_ok (allTold'_iff.1 ?_), .inr ⟨overL_h0, _, _, overL_y0, dutiesTold_ok ?_, allTold'_iff.1 ?_, ?_⟩⟩
  ·simp only [overL_t0, tl]
   omega
  ·simp only [overL_d0, tl]
  ·simp only [overL, overL_h0_a, tl]
   omega
  ·simp only [overL_h0_a, tl]
   omega

def overV : CSpec := overC 5 .u8
abbrev asPh21 : Q × Bool := ((.le (.var 0) (.int 9223372036854775807)), true)
def overV_t0 : List (Q × Bool) := [asPh17, asPh5, asPh21]
def overV_d0 : List Duty := []
theorem overV_y0 : endC overV [] 1000 (callC Tryd.prog (tellA overV_t0) [⟨17, [4, 1, 1], overL⟩] [] [] 3000 40 17 overV) = some overV_d0 := by kernel_rfl
theorem overV_holds : CHolds Tryd.prog 17 (overC 5 .u8) F := by
 refine cholds_of sound (tableCons overL_holds (tableNil _ _)) (specsNil _ _) (oversNil _ _) (fuel := 3000) (depth := 40) (by kernel_rfl) fun d hp hR hA => ?_
 have hp := allTold'_iff.2 hp
 simp only [overC, tl] at hp hR hA
 refine ⟨tellA overV_t0, _, _, _, tellA_ok (allTold'_iff.1 ?_), overV_y0, dutiesTold_ok ?_⟩
 ·simp only [overV_t0, tl]
  omega
 ·simp only [overV_d0, tl]

def lentC : CSpec := { args := [.sslice 3 (.var 1) (.var 2) (.var 3) false], next := 2, rows := [zPh8], pre := [(.le zPh2 (.var 4), true), (.le (.var 2) (.int 1000000), true)], res := .sslice 5 (.int 0) (.var 2) zPh1 false, frows := [(5, .seq ⟨5, .u8, .bi .add (.var 2) (.int 3), .fn 46 (argsE [.var 5, .var 1, .bi .add (.var 1) (.var 2)]), false, false⟩)], same := [] }
abbrev asPh22 : Q × Bool := ((.fit .i64 (.var 2)), true)
abbrev asPh23 : Q × Bool := ((.fit .i64 zPh1), true)
abbrev asPh24 : Q × Bool := ((.le (.int 0) zPh1), true)
abbrev asPh25 : Q × Bool := ((.le zPh1 (.int 281474976710656)), true)
abbrev asPh26 : Q × Bool := ((.le zPh1 (.int 9223372036854775807)), true)
abbrev asPh27 : Q × Bool := ((.le (.var 2) zPh1), true)
abbrev asPh28 : Q × Bool := ((.le zPh1 (.var 2)), false)
abbrev asPh29 : Q × Bool := ((.fit .i64 zPh12), true)
abbrev asPh30 : Q × Bool := ((.le zPh1 zPh5), false)
abbrev asPh31 : Q × Bool := ((.fit .i64 txPh6), true)
abbrev asPh32 : Q × Bool := ((.le (.int 0) zPh5), true)
abbrev asPh33 : Q × Bool := ((.fit .i64 zPh9), true)
abbrev asPh34 : Q × Bool := ((.le zPh1 zPh9), false)
abbrev asPh35 : Q × Bool := ((.fit .i64 txPh7), true)
abbrev asPh36 : Q × Bool := ((.le (.int 0) zPh9), true)
def lentC_t0 : List (Q × Bool) := [asPh22, asPh23, asPh24, asPh25, asPh26, asPh15, asPh27, asPh28, asPh29, asPh14, asPh19, asPh30, asPh31, asPh32, asPh33, asPh34, asPh35, asPh36]
def lentC_d0 : List Duty := [(false, (.tr .upd (.tr .upd (.tr .upd (.tr .splice (.bi .rep zPh1 (.int 0)) (.int 0) (.tr .cut (.var 5) (.var 1) zPh2)) (.var 2) (.un (.wrap .u8) zPh12)) zPh5 (.un (.wrap .u8) txPh6)) zPh9 (.un (.wrap .u8) txPh7)), (.fn 46 txPh14))]
theorem lentC_y0 : endC lentC [(5, 5)] 1000 (callC Tryd.prog (tellA lentC_t0) [] [] [] 3000 40 11 lentC) = some lentC_d0 := by kernel_rfl
theorem lentC_holds : CHolds Tryd.prog 11 lentC F := by
 refine cholds_of sound (tableNil _ _) (specsNil _ _) (oversNil _ _) (fuel := 3000) (depth := 40) (by kernel_rfl) fun d hp hR hA => ?_
 have hp := allTold'_iff.2 hp
 simp only [lentC, tl] at hp hR hA
 refine ⟨tellA lentC_t0, _, _, _, tellA_ok (allTold'_iff.1 ?_), lentC_y0, dutiesTold_ok ?_⟩
 ·simp only [lentC_t0, tl]
  rw [rem_emod _ (by omega), rem_emod _ (by omega), rem_emod _ (by omega)]
  omega
 ·simp only [lentC_d0, F46, ints_list, List.map_set, List.map_append, List.map_drop, List.map_take, List.map_replicate, List.length_drop, map_ints, tl]
  rw [rem_emod _ (by omega), rem_emod _ (by omega), rem_emod _ (by omega)]
  obtain ⟨n, hn⟩ := Int.eq_ofNat_of_zero_le hA.1
  rw [hn] at hp hA ⊢
  have hl := prt_length (x := (d 5).ints) (o := (d 1).toInt) (t := (d 1).toInt + n) (by omega) (by omega) (by omega)
  have e1 : (List.drop (d 1).toInt.toNat (List.take ((d 1).toInt + n).toNat (d 5).ints)) = prt (d 5).ints (d 1).toInt ((d 1).toInt + n) := rfl
  have e2 : (List.take ((d 1).toInt + n).toNat (d 5).toList).length - (d 1).toInt.toNat = (prt (d 5).ints (d 1).toInt ((d 1).toInt + n)).length := by
   rw [← e1]; simp [D.ints]
  have h3 := lent_set (List.replicate (n + 3) 0) (prt (d 5).ints (d 1).toInt ((d 1).toInt + n)) n (by omega)
  rw [show ((n : Int) + 3).toNat = n + 3 by omega, show ((n : Int) + 2).toNat = n + 2 by omega, show ((n : Int) + 1).toNat = n + 1 by omega, show ((n : Int)).toNat = n by omega, show Int.toNat 0 = 0 from rfl, e1, e2, h3]
  unfold lentI markI
  rw [wrap_fit (by simp only [u8min, u8max]; omega), wrap_fit (by simp only [u8min, u8max]; omega), wrap_fit (by simp only [u8min, u8max]; omega)]
  rw [show ((prt (d 5).ints (d 1).toInt ((d 1).toInt + n)).length : Int) = n by omega]
  simp only [Int.add_comm]

def rputC : CSpec := { args := [.sslice 3 (.var 1) (.var 2) (.var 3) false], next := 2, rows := [zPh8], pre := [(.le zPh2 (.var 4), true), (.le (.var 2) (.int 1000000), true)], res := .sslice 5 (.int 0) zPh14 zPh14 true, frows := [(5, .seq ⟨5, .u8, .bi .add (.var 2) (.int 4), .fn 49 (argsE [.var 5, .var 1, .bi .add (.var 1) (.var 2)]), true, false⟩)], same := [] }
abbrev asPh37 : Q × Bool := ((.le (.bi .mul (.var 2) (.int 2)) (.int 281474976710656)), true)
abbrev asPh38 : Q × Bool := ((.le (.bi .mul zPh14 (.int 2)) (.int 281474976710656)), true)
def rputC_t0 : List (Q × Bool) := [asPh15, asPh16, asPh37, asPh38]
def rputC_d0 : List Duty := [(false, (.bi .app (.tr .cut (.var 5) (.var 1) zPh2) (.bi .app (.un .one (.un (.wrap .u8) (.fn 45 txPh14))) (.bi .app (.un .one (.un (.wrap .u8) (.bi (.iop .shr .u32) (.fn 45 txPh14) (.int 8)))) (.bi .app (.un .one (.un (.wrap .u8) (.bi (.iop .shr .u32) (.fn 45 txPh14) (.int 16)))) (.bi .app (.un .one (.un (.wrap .u8) (.bi (.iop .shr .u32) (.fn 45 txPh14) (.int 24)))) (.lits [])))))), (.fn 49 txPh14))]
theorem rputC_y0 : endC rputC [(5, 11)] 1000 (callC Tryd.prog (tellA rputC_t0) [] [(47, refC)] [] 3000 40 36 rputC) = some rputC_d0 := by kernel_rfl
theorem rputC_holds : CHolds Tryd.prog 36 rputC F := by
 refine cholds_of sound (tableNil _ _) (specsCons refC_holds (specsNil _ _)) (oversNil _ _) (fuel := 3000) (depth := 40) (by kernel_rfl) fun d hp hR hA => ?_
 have hp := allTold'_iff.2 hp
 simp only [rputC, tl] at hp hR hA
 refine ⟨tellA rputC_t0, _, _, _, tellA_ok (allTold'_iff.1 ?_), rputC_y0, dutiesTold_ok ?_⟩
 ·simp only [rputC_t0, tl]
  omega
 ·simp only [rputC_d0, F49, F45, ints_list, List.map_append, List.map_drop, List.map_take, List.map_replicate, List.map_cons, List.map_nil, map_ints, tl]
  simp [rputI, le4, rsumI, prt]

def keptC : CSpec := { args := [.sslice 5 (.int 0) (.var 2) zPh1 false, .sslice 3 (.var 1) (.var 2) (.var 3) false], next := 3, rows := [zPh8, (5, .eseq ⟨.u8, .bi .add (.var 2) (.int 3), .fn 46 (argsE [.var 5, .var 1, .bi .add (.var 1) (.var 2)])⟩)], pre := [(.le zPh2 (.var 4), true), (.le (.var 2) (.int 1000000), true)], res := .bool true, frows := [], same := [] }
def keptC_t0 : List (Q × Bool) := [asPh22, asPh23, asPh24, asPh15, asPh16]
def keptC_d0 : List Duty := []
theorem keptC_y0 : endC keptC [] 1000 (callC Tryd.prog (tellA keptC_t0) [] [(11, lentC)] [] 3000 40 18 keptC) = some keptC_d0 := by kernel_rfl
theorem keptC_holds : CHolds Tryd.prog 18 keptC F := by
 refine cholds_of sound (tableNil _ _) (specsCons lentC_holds (specsNil _ _)) (oversNil _ _) (fuel := 3000) (depth := 40) (by kernel_rfl) fun d hp hR hA => ?_
 have hp := allTold'_iff.2 hp
 simp only [keptC, tl] at hp hR hA
 refine ⟨tellA keptC_t0, _, _, _, tellA_ok (allTold'_iff.1 ?_), keptC_y0, dutiesTold_ok ?_⟩
 ·simp only [keptC_t0, tl]
  omega
 ·simp only [keptC_d0, tl]

end Go.Proofs.YtidjfojcifjdjaaDoor.Ph
