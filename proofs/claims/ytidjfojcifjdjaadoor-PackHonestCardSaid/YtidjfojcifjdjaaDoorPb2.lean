/-
 Contracts of this seat: what loops and calls leave, for all inputs. No condition.
-/
import Derived.Test.YtidjfojcifjdjaaDoorSycp
import Derived.Test.YtidjfojcifjdjaaDoorCo
import Derived.Test.YtidjfojcifjdjaaDoorP0
import Derived.Test.YtidjfojcifjdjaaDoorPa
import Derived.Test.YtidjfojcifjdjaaDoorPm
import Derived.Test.YtidjfojcifjdjaaDoorPl
import Derived.Test.YtidjfojcifjdjaaDoorPu
import Derived.Test.YtidjfojcifjdjaaDoorPq
import Derived.Test.YtidjfojcifjdjaaDoorPg
import Derived.Test.YtidjfojcifjdjaaDoorPb
set_option linter.unusedSimpArgs false
set_option linter.unusedVariables false
namespace Go.Proofs.YtidjfojcifjdjaaDoor.Pb2
open Go.RowKit Go.Ev Go.Proofs.YtidjfojcifjdjaaDoor.Co

open Go.Proofs.YtidjfojcifjdjaaDoor.P0
open Go.Proofs.YtidjfojcifjdjaaDoor.Pa
open Go.Proofs.YtidjfojcifjdjaaDoor.Pm
open Go.Proofs.YtidjfojcifjdjaaDoor.Pl
open Go.Proofs.YtidjfojcifjdjaaDoor.Pu
open Go.Proofs.YtidjfojcifjdjaaDoor.Puo
open Go.Proofs.YtidjfojcifjdjaaDoor.Pq
open Go.Proofs.YtidjfojcifjdjaaDoor.Pqo
open Go.Proofs.YtidjfojcifjdjaaDoor.Pg
open Go.Proofs.YtidjfojcifjdjaaDoor.Pb

abbrev vu8Pb2 (a : E) (j : Int) : AV := .sint .u8 (.bi .sel a (.int j))
abbrev zPb21 : E := (.bi .add (.var 1) (.var 6))
abbrev txPb20 : E := (.bi .add zPb21 (.int 1))
abbrev txPb21 : E := (.bi .sel (.var 5) zPb21)
abbrev txPb22 : E := (.fn 63 (argsE [.var 5, .var 1, .var 2, .var 6]))
abbrev txPb23 : E := (.bi .pair (.var 2) (.bi .pair (.var 6) (.int 0)))
abbrev zPb29 : E := (.bi .add (.var 2) (.int (-4)))
abbrev txPb24 : E := (.bi .add (.var 1) zPb29)
abbrev zPb26 : E := (.bi .add (.var 2) (.int (-20)))
abbrev txPb25 : E := (.bi .pair zPb26 (.int 0))
abbrev txPb26 : E := (.tr .cut (.var 5) (.var 1) (.bi .add (.var 1) (.int 16)))
abbrev zPb24 : E := (.bi .add (.var 1) (.var 2))
abbrev txPb27 : E := (.bi .pair (.var 5) (.bi .pair (.var 1) (.bi .pair zPb24 (.int 0))))
abbrev txPb28 : E := (.bi .pair (.var 5) (.bi .pair (.var 1) txPb23))
abbrev zPb20 : E := (.tr .cut (.var 5) (.var 1) txPb24)
abbrev txPb29 : E := (.bi .sel zPb20 (.int 0))
abbrev txPb210 : E := (.bi .sel zPb20 (.int 1))
abbrev txPb211 : E := (.bi .sel zPb20 (.int 2))
abbrev txPb212 : E := (.bi .sel zPb20 (.int 3))
abbrev txPb213 : E := (.bi .sel zPb20 (.int 4))
abbrev txPb214 : E := (.bi .sel zPb20 (.int 5))
abbrev txPb215 : E := (.bi .sel zPb20 (.int 6))
abbrev txPb216 : E := (.bi .sel zPb20 (.int 7))
abbrev txPb217 : E := (.bi .sel zPb20 (.int 8))
abbrev txPb218 : E := (.bi .sel zPb20 (.int 9))
abbrev txPb219 : E := (.bi .sel zPb20 (.int 10))
abbrev txPb220 : E := (.bi .sel zPb20 (.int 11))
abbrev txPb221 : E := (.bi .sel zPb20 (.int 12))
abbrev txPb222 : E := (.bi .sel zPb20 (.int 13))
abbrev txPb223 : E := (.bi .sel zPb20 (.int 14))
abbrev txPb224 : E := (.bi .sel zPb20 (.int 15))
abbrev txPb225 : E := (.bi .pair zPb20 (.bi .pair (.int 16) txPb25))
abbrev txPb226 : E := (.bi (.iop .or .i64) (.bi (.iop .shl .i64) txPb21 (.int 8)) (.bi .sel (.var 5) txPb20))
abbrev zPb25 : E := (.bi .add txPb226 (.int 26))
abbrev txPb227 : E := (.bi .add (.var 6) zPb25)
abbrev zPb23 : E := (.fn 60 (.bi .pair txPb226 (.int 0)))
abbrev txPb228 : E := (.bi .sel zPb23 (.int 2))
abbrev txPb229 : E := (.bi .sel zPb23 (.int 3))
abbrev txPb230 : E := (.bi .sel zPb23 (.int 4))
abbrev txPb231 : E := (.bi .sel zPb23 (.int 5))
abbrev zPb22 : E := (.bi .sub (.var 2) (.var 6))
abbrev zPb27 : Nat × RW := (3, .eseq ⟨.u8, .var 4, .var 5⟩)
abbrev zPb28 : E := (.bi .add (.var 6) (.int 6))
abbrev zPb210 : E := (.bi .add txPb22 (.int 26))
abbrev zPb211 : E := (.bi .sel (.var 5) (.bi .add zPb21 (.int 2)))
abbrev zPb212 : E := (.bi .sel (.var 5) (.bi .add zPb21 (.int 3)))
abbrev zPb213 : E := (.bi .sel (.var 5) (.bi .add zPb21 (.int 4)))
abbrev zPb214 : E := (.bi .sel (.var 5) (.bi .add zPb21 (.int 5)))
def recT : CSpec := { args := [.sslice 3 (.var 1) (.var 2) (.var 3) false, .sint .i64 (.var 6)], next := 2, rows := [zPb27], pre := [(.le zPb24 (.var 4), true), (.le (.int 0) (.var 6), true), (.le (.var 6) (.var 2), true), (.le (.var 2) (.int 1000000), true), (.le (.int 6) zPb22, false)], res := .agg [.sint .i64 (.var 6), .sint .i64 (.var 2), .int .i64 1, .int .i64 0, .nilslice], frows := [], same := [3] }
abbrev asPb20 : Q × Bool := ((.fit .i64 (.var 2)), true)
abbrev asPb21 : Q × Bool := ((.le (.int 0) (.var 6)), true)
abbrev asPb22 : Q × Bool := ((.le (.var 6) (.var 2)), true)
abbrev asPb23 : Q × Bool := ((.le (.var 2) (.var 3)), true)
abbrev asPb24 : Q × Bool := ((.fit .i64 zPb22), true)
abbrev asPb25 : Q × Bool := ((.le (.int 6) zPb22), false)
def recT_t0 : List (Q × Bool) := [asPb20, asPb21, asPb22, asPb23, asPb24, asPb25]
def recT_d0 : List Duty := []
theorem recT_y0 : endC recT [(3, 3)] 1000 (callC Tryd.prog (tellA recT_t0) [] [(31, headC)] [] 3000 40 41 recT) = some recT_d0 := by kernel_rfl
theorem recT_holds : CHolds Tryd.prog 41 recT F := by
 refine cholds_of sound (tableNil _ _) (specsCons headC_holds (specsNil _ _)) (oversNil _ _) (fuel := 3000) (depth := 40) (by kernel_rfl) fun d hp hR hA => ?_
 have hp := allTold'_iff.2 hp
 simp only [recT, tl] at hp hR hA
 refine ⟨tellA recT_t0, _, _, _, tellA_ok (allTold'_iff.1 ?_), recT_y0, dutiesTold_ok ?_⟩
 ·simp only [recT_t0, tl]
  omega
 ·simp only [recT_d0, tl]

def recB : CSpec := { args := [.sslice 3 (.var 1) (.var 2) (.var 3) false, .sint .i64 (.var 6)], next := 2, rows := [zPb27], pre := [(.le zPb24 (.var 4), true), (.le (.int 0) (.var 6), true), (.le (.var 6) (.var 2), true), (.le (.var 2) (.int 1000000), true), (.le (.int 6) zPb22, true), (.eq txPb22 (.int 0), true)], res := .agg [.sint .i64 (.var 6), .sint .i64 (.var 2), .int .i64 2, .int .i64 0, .nilslice], frows := [], same := [3] }
abbrev asPb26 : Q × Bool := ((.le (.int 6) zPb22), true)
abbrev asPb27 : Q × Bool := ((.le zPb22 (.int 0)), false)
abbrev asPb28 : Q × Bool := ((.le (.int 0) zPb21), true)
abbrev asPb29 : Q × Bool := ((.le (.var 4) zPb21), false)
abbrev asPb210 : Q × Bool := ((.le zPb22 (.int 1)), false)
abbrev asPb211 : Q × Bool := ((.le (.int 0) txPb20), true)
abbrev asPb212 : Q × Bool := ((.le (.var 4) txPb20), false)
abbrev asPb213 : Q × Bool := ((.le (.int 1) txPb226), false)
def recB_t0 : List (Q × Bool) := [asPb20, asPb21, asPb22, asPb23, asPb24, asPb26, asPb27, asPb28, asPb29, asPb210, asPb211, asPb212, asPb213]
def recB_d0 : List Duty := []
theorem recB_y0 : endC recB [(3, 3)] 1000 (callC Tryd.prog (tellA recB_t0) [] [(31, headC)] [] 3000 40 41 recB) = some recB_d0 := by kernel_rfl
abbrev asPb214 : Q × Bool := ((.le (.int 1) txPb226), true)
abbrev asPb215 : Q × Bool := ((.le txPb226 (.int 1024)), false)
def recB_t1 : List (Q × Bool) := [asPb20, asPb21, asPb22, asPb23, asPb24, asPb26, asPb27, asPb28, asPb29, asPb210, asPb211, asPb212, asPb214, asPb215]
def recB_d1 : List Duty := []
theorem recB_y1 : endC recB [(3, 3)] 1000 (callC Tryd.prog (tellA recB_t1) [] [(31, headC)] [] 3000 40 41 recB) = some recB_d1 := by kernel_rfl
abbrev asPb216 : Q × Bool := ((.le txPb226 (.int 1024)), true)
abbrev asPb217 : Q × Bool := ((.fit .i64 (.bi .add txPb226 (.int 22))), true)
abbrev asPb218 : Q × Bool := ((.fit .i64 zPb25), true)
abbrev asPb219 : Q × Bool := ((.eq zPb25 (.int 0)), false)
abbrev asPb220 : Q × Bool := ((.le (.bi .add zPb21 (.int 6)) (.var 4)), true)
abbrev asPb221 : Q × Bool := ((.le (.int 0) txPb226), true)
abbrev asPb222 : Q × Bool := ((.le txPb226 (.int 65535)), true)
abbrev asPb223 : Q × Bool := ((.eq (.bi .sel zPb23 (.int 0)) txPb21), true)
abbrev asPb224 : Q × Bool := ((.eq (.bi .sel zPb23 (.int 1)) (.bi .sel (.var 5) txPb20)), true)
abbrev asPb225 : Q × Bool := ((.eq txPb228 zPb211), false)
def recB_t2 : List (Q × Bool) := [asPb20, asPb21, asPb22, asPb23, asPb24, asPb26, asPb27, asPb28, asPb29, asPb210, asPb211, asPb212, asPb214, asPb216, asPb217, asPb218, asPb219, asPb220, asPb221, asPb222, asPb223, asPb224, asPb225]
def recB_d2 : List Duty := []
theorem recB_y2 : endC recB [(3, 3)] 1000 (callC Tryd.prog (tellA recB_t2) [] [(31, headC)] [] 3000 40 41 recB) = some recB_d2 := by kernel_rfl
abbrev asPb226 : Q × Bool := ((.eq txPb228 zPb211), true)
abbrev asPb227 : Q × Bool := ((.eq txPb229 zPb212), false)
def recB_t3 : List (Q × Bool) := [asPb20, asPb21, asPb22, asPb23, asPb24, asPb26, asPb27, asPb28, asPb29, asPb210, asPb211, asPb212, asPb214, asPb216, asPb217, asPb218, asPb219, asPb220, asPb221, asPb222, asPb223, asPb224, asPb226, asPb227]
def recB_d3 : List Duty := []
theorem recB_y3 : endC recB [(3, 3)] 1000 (callC Tryd.prog (tellA recB_t3) [] [(31, headC)] [] 3000 40 41 recB) = some recB_d3 := by kernel_rfl
abbrev asPb228 : Q × Bool := ((.eq txPb229 zPb212), true)
abbrev asPb229 : Q × Bool := ((.eq txPb230 zPb213), false)
def recB_t4 : List (Q × Bool) := [asPb20, asPb21, asPb22, asPb23, asPb24, asPb26, asPb27, asPb28, asPb29, asPb210, asPb211, asPb212, asPb214, asPb216, asPb217, asPb218, asPb219, asPb220, asPb221, asPb222, asPb223, asPb224, asPb226, asPb228, asPb229]
def recB_d4 : List Duty := []
theorem recB_y4 : endC recB [(3, 3)] 1000 (callC Tryd.prog (tellA recB_t4) [] [(31, headC)] [] 3000 40 41 recB) = some recB_d4 := by kernel_rfl
abbrev asPb230 : Q × Bool := ((.eq txPb230 zPb213), true)
abbrev asPb231 : Q × Bool := ((.eq txPb231 zPb214), false)
def recB_t5 : List (Q × Bool) := [asPb20, asPb21, asPb22, asPb23, asPb24, asPb26, asPb27, asPb28, asPb29, asPb210, asPb211, asPb212, asPb214, asPb216, asPb217, asPb218, asPb219, asPb220, asPb221, asPb222, asPb223, asPb224, asPb226, asPb228, asPb230, asPb231]
def recB_d5 : List Duty := []
theorem recB_y5 : endC recB [(3, 3)] 1000 (callC Tryd.prog (tellA recB_t5) [] [(31, headC)] [] 3000 40 41 recB) = some recB_d5 := by kernel_rfl
theorem recB_holds : CHolds Tryd.prog 41 recB F := by
 refine cholds_of sound (tableNil _ _) (specsCons headC_holds (specsNil _ _)) (oversNil _ _) (fuel := 3000) (depth := 40) (by kernel_rfl) fun d hp hR hA => ?_
 have hp := allTold'_iff.2 hp
 simp only [recB, tl] at hp hR hA
 simp only [F63, argsE, tl] at hp
 obtain ⟨hl, hx⟩ := hR
 have b0 := sel_in hx ((d 1).toInt + (d 6).toInt).toNat
 have b1 := sel_in hx ((d 1).toInt + (d 6).toInt + 1).toNat
 have hn := or8 (n := ((d 5).ints[((d 1).toInt + (d 6).toInt).toNat]?).getD 0) (c := ((d 5).ints[((d 1).toInt + (d 6).toInt + 1).toNat]?).getD 0) (by omega) (by omega) b1.1 b1.2
 generalize hN : ((d 5).ints[((d 1).toInt + (d 6).toInt).toNat]?).getD 0 * 256 + ((d 5).ints[((d 1).toInt + (d 6).toInt + 1).toNat]?).getD 0 = n at hn
 by_cases c1 : 1 ≤ n
 ·by_cases c2 : n ≤ 1024
  ·obtain ⟨⟨e0, e1⟩, hz⟩ := size_of (x := (d 5).ints) (o := (d 1).toInt) (l := (d 2).toInt) (p := (d 6).toInt) (by omega) (by omega) (by omega) (by omega) hN.symm hx c1 c2
   by_cases e2 : ((headI n)[2]?).getD 0 = ((d 5).ints[((d 1).toInt + (d 6).toInt + 2).toNat]?).getD 0
   ·by_cases e3 : ((headI n)[3]?).getD 0 = ((d 5).ints[((d 1).toInt + (d 6).toInt + 3).toNat]?).getD 0
    ·by_cases e4 : ((headI n)[4]?).getD 0 = ((d 5).ints[((d 1).toInt + (d 6).toInt + 4).toNat]?).getD 0
     ·by_cases e5 : ((headI n)[5]?).getD 0 = ((d 5).ints[((d 1).toInt + (d 6).toInt + 5).toNat]?).getD 0
      ·have := hz e2 e3 e4 e5
       omega
      ·refine ⟨tellA recB_t5, _, _, _, tellA_ok (allTold'_iff.1 ?_), recB_y5, dutiesTold_ok ?_⟩
       ·simp only [recB_t5, hn, Int.reduceToNat, F60, tl]
        omega
       ·simp only [recB_d5, tl]
     ·refine ⟨tellA recB_t4, _, _, _, tellA_ok (allTold'_iff.1 ?_), recB_y4, dutiesTold_ok ?_⟩
      ·simp only [recB_t4, hn, Int.reduceToNat, F60, tl]
       omega
      ·simp only [recB_d4, tl]
    ·refine ⟨tellA recB_t3, _, _, _, tellA_ok (allTold'_iff.1 ?_), recB_y3, dutiesTold_ok ?_⟩
     ·simp only [recB_t3, hn, Int.reduceToNat, F60, tl]
      omega
     ·simp only [recB_d3, tl]
   ·refine ⟨tellA recB_t2, _, _, _, tellA_ok (allTold'_iff.1 ?_), recB_y2, dutiesTold_ok ?_⟩
    ·simp only [recB_t2, hn, Int.reduceToNat, F60, tl]
     omega
    ·simp only [recB_d2, tl]
  ·refine ⟨tellA recB_t1, _, _, _, tellA_ok (allTold'_iff.1 ?_), recB_y1, dutiesTold_ok ?_⟩
   ·simp only [recB_t1, hn, Int.reduceToNat, tl]
    omega
   ·simp only [recB_d1, tl]
 ·refine ⟨tellA recB_t0, _, _, _, tellA_ok (allTold'_iff.1 ?_), recB_y0, dutiesTold_ok ?_⟩
  ·simp only [recB_t0, hn, Int.reduceToNat, tl]
   omega
  ·simp only [recB_d0, tl]

def recS : CSpec := { args := [.sslice 3 (.var 1) (.var 2) (.var 3) false, .sint .i64 (.var 6)], next := 2, rows := [zPb27], pre := [(.le zPb24 (.var 4), true), (.le (.int 0) (.var 6), true), (.le (.var 6) (.var 2), true), (.le (.var 2) (.int 1000000), true), (.le (.int 6) zPb22, true), (.eq txPb22 (.int 0), false), (.le zPb210 zPb22, false)], res := .agg [.sint .i64 (.var 6), .sint .i64 (.var 2), .int .i64 1, .int .i64 0, .nilslice], frows := [], same := [3] }
abbrev asPb232 : Q × Bool := ((.eq txPb231 zPb214), true)
abbrev asPb233 : Q × Bool := ((.le zPb25 zPb22), false)
def recS_t0 : List (Q × Bool) := [asPb20, asPb21, asPb22, asPb23, asPb24, asPb26, asPb27, asPb28, asPb29, asPb210, asPb211, asPb212, asPb214, asPb216, asPb217, asPb218, asPb219, asPb220, asPb221, asPb222, asPb223, asPb224, asPb226, asPb228, asPb230, asPb232, asPb233]
def recS_d0 : List Duty := []
theorem recS_y0 : endC recS [(3, 3)] 1000 (callC Tryd.prog (tellA recS_t0) [] [(31, headC)] [] 3000 40 41 recS) = some recS_d0 := by kernel_rfl
theorem recS_holds : CHolds Tryd.prog 41 recS F := by
 refine cholds_of sound (tableNil _ _) (specsCons headC_holds (specsNil _ _)) (oversNil _ _) (fuel := 3000) (depth := 40) (by kernel_rfl) fun d hp hR hA => ?_
 have hp := allTold'_iff.2 hp
 simp only [recS, tl] at hp hR hA
 simp only [F63, argsE, tl] at hp
 obtain ⟨hl, hx⟩ := hR
 have b0 := sel_in hx ((d 1).toInt + (d 6).toInt).toNat
 have b1 := sel_in hx ((d 1).toInt + (d 6).toInt + 1).toNat
 have hn := or8 (n := ((d 5).ints[((d 1).toInt + (d 6).toInt).toNat]?).getD 0) (c := ((d 5).ints[((d 1).toInt + (d 6).toInt + 1).toNat]?).getD 0) (by omega) (by omega) b1.1 b1.2
 generalize hN : ((d 5).ints[((d 1).toInt + (d 6).toInt).toNat]?).getD 0 * 256 + ((d 5).ints[((d 1).toInt + (d 6).toInt + 1).toNat]?).getD 0 = n at hn
 obtain ⟨hs, c1, c2, e0, e1, e2, e3, e4, e5⟩ := size_yes (x := (d 5).ints) (o := (d 1).toInt) (l := (d 2).toInt) (p := (d 6).toInt) (by omega) (by omega) (by omega) (by omega) hN.symm (by omega)
 refine ⟨tellA recS_t0, _, _, _, tellA_ok (allTold'_iff.1 ?_), recS_y0, dutiesTold_ok ?_⟩
 ·simp only [recS_t0, hn, Int.reduceToNat, F60, tl]
  omega
 ·simp only [recS_d0, hn, F60, F63, tl]
  skip

def recY : CSpec := { args := [.sslice 3 (.var 1) (.var 2) (.var 3) false, .sint .i64 (.var 6)], next := 2, rows := [zPb27], pre := [(.le zPb24 (.var 4), true), (.le (.int 0) (.var 6), true), (.le (.var 6) (.var 2), true), (.le (.var 2) (.int 1000000), true), (.le (.int 6) zPb22, true), (.eq txPb22 (.int 0), false), (.le zPb210 zPb22, true)], res := .agg [.sint .i64 (.var 6), .sint .i64 (.bi .add (.var 6) zPb210), .int .i64 0, .sint .i64 txPb22, .sslice 3 (.bi .add (.var 1) zPb28) (.bi .add txPb22 (.int 20)) (.bi .sub (.var 3) zPb28) false], frows := [], same := [3] }
abbrev asPb234 : Q × Bool := ((.le zPb25 zPb22), true)
abbrev asPb235 : Q × Bool := ((.fit .i64 txPb227), true)
abbrev asPb236 : Q × Bool := ((.le (.int 6) zPb25), true)
abbrev asPb237 : Q × Bool := ((.le zPb25 (.bi .sub (.var 3) (.var 6))), true)
def recY_t0 : List (Q × Bool) := [asPb20, asPb21, asPb22, asPb23, asPb24, asPb26, asPb27, asPb28, asPb29, asPb210, asPb211, asPb212, asPb214, asPb216, asPb217, asPb218, asPb219, asPb220, asPb221, asPb222, asPb223, asPb224, asPb226, asPb228, asPb230, asPb232, asPb234, asPb235, asPb236, asPb237]
def recY_d0 : List Duty := [(true, txPb227, (.bi .add (.var 6) (.bi .add (.fn 63 txPb28) (.int 26)))), (true, txPb226, (.fn 63 txPb28)), (true, (.bi .add zPb21 (.int 6)), (.bi .add (.var 1) zPb28)), (true, (.bi .add txPb226 (.int 20)), (.bi .add (.fn 63 txPb28) (.int 20))), (true, (.bi .add (.bi .sub (.var 3) (.var 6)) (.int (-6))), (.bi .sub (.var 3) zPb28))]
theorem recY_y0 : endC recY [(3, 3)] 1000 (callC Tryd.prog (tellA recY_t0) [] [(31, headC)] [] 3000 40 41 recY) = some recY_d0 := by kernel_rfl
theorem recY_holds : CHolds Tryd.prog 41 recY F := by
 refine cholds_of sound (tableNil _ _) (specsCons headC_holds (specsNil _ _)) (oversNil _ _) (fuel := 3000) (depth := 40) (by kernel_rfl) fun d hp hR hA => ?_
 have hp := allTold'_iff.2 hp
 simp only [recY, tl] at hp hR hA
 simp only [F63, argsE, tl] at hp
 obtain ⟨hl, hx⟩ := hR
 have b0 := sel_in hx ((d 1).toInt + (d 6).toInt).toNat
 have b1 := sel_in hx ((d 1).toInt + (d 6).toInt + 1).toNat
 have hn := or8 (n := ((d 5).ints[((d 1).toInt + (d 6).toInt).toNat]?).getD 0) (c := ((d 5).ints[((d 1).toInt + (d 6).toInt + 1).toNat]?).getD 0) (by omega) (by omega) b1.1 b1.2
 generalize hN : ((d 5).ints[((d 1).toInt + (d 6).toInt).toNat]?).getD 0 * 256 + ((d 5).ints[((d 1).toInt + (d 6).toInt + 1).toNat]?).getD 0 = n at hn
 obtain ⟨hs, c1, c2, e0, e1, e2, e3, e4, e5⟩ := size_yes (x := (d 5).ints) (o := (d 1).toInt) (l := (d 2).toInt) (p := (d 6).toInt) (by omega) (by omega) (by omega) (by omega) hN.symm (by omega)
 refine ⟨tellA recY_t0, _, _, _, tellA_ok (allTold'_iff.1 ?_), recY_y0, dutiesTold_ok ?_⟩
 ·simp only [recY_t0, hn, Int.reduceToNat, F60, tl]
  omega
 ·simp only [recY_d0, hn, F60, F63, tl]
  omega

def chunkY : CSpec := { args := [.agg [.any, .any, .int .i64 0, .any, .sslice 3 (.var 1) (.var 2) (.var 3) false]], next := 2, rows := [zPb27, (0, .ext cellsG)], pre := [(.le zPb24 (.var 4), true), (.le (.int 0) (.var 1), true), (.le (.int 0) (.var 2), true), (.le (.var 2) (.var 3), true), (.le (.int 21) (.var 2), true), (.le (.var 2) (.int 100000), true), (.eq (.fn 64 (argsE [.var 5, .var 1, .var 2])) (.int 1), true)], res := .tuple [.sslice 5 (.int 16) zPb26 zPb26 true, .agg [vu8Pb2 txPb26 0, vu8Pb2 txPb26 1, vu8Pb2 txPb26 2, vu8Pb2 txPb26 3, vu8Pb2 txPb26 4, vu8Pb2 txPb26 5, vu8Pb2 txPb26 6, vu8Pb2 txPb26 7, vu8Pb2 txPb26 8, vu8Pb2 txPb26 9, vu8Pb2 txPb26 10, vu8Pb2 txPb26 11, vu8Pb2 txPb26 12, vu8Pb2 txPb26 13, vu8Pb2 txPb26 14, vu8Pb2 txPb26 15], .int .i64 0], frows := [(5, .seq ⟨5, .u8, .bi .add (.var 2) (.int (-4)), .tr .cut (.var 5) (.var 1) txPb24, true, false⟩)], same := [3] }
abbrev asPb238 : Q × Bool := ((.le zPb24 (.var 4)), true)
abbrev asPb239 : Q × Bool := ((.le (.int 5) (.var 2)), true)
abbrev asPb240 : Q × Bool := ((.le (.var 2) (.int 1000000)), true)
abbrev asPb241 : Q × Bool := ((.eq (.fn 54 txPb27) (.int 1)), true)
abbrev asPb242 : Q × Bool := ((.le (.int 16) zPb29), true)
abbrev asPb243 : Q × Bool := ((.le (.bi .add (.int 16) zPb26) zPb29), true)
abbrev asPb244 : Q × Bool := ((.le (.int 1) zPb26), true)
abbrev asPb245 : Q × Bool := ((.le zPb26 (.int 100000)), true)
abbrev asPb246 : Q × Bool := ((.eq txPb29 (.bi .sel (.fn 61 txPb225) (.int 0))), true)
abbrev asPb247 : Q × Bool := ((.eq txPb210 (.bi .sel (.fn 61 txPb225) (.int 1))), true)
abbrev asPb248 : Q × Bool := ((.eq txPb211 (.bi .sel (.fn 61 txPb225) (.int 2))), true)
abbrev asPb249 : Q × Bool := ((.eq txPb212 (.bi .sel (.fn 61 txPb225) (.int 3))), true)
abbrev asPb250 : Q × Bool := ((.eq txPb213 (.bi .sel (.fn 61 txPb225) (.int 4))), true)
abbrev asPb251 : Q × Bool := ((.eq txPb214 (.bi .sel (.fn 61 txPb225) (.int 5))), true)
abbrev asPb252 : Q × Bool := ((.eq txPb215 (.bi .sel (.fn 61 txPb225) (.int 6))), true)
abbrev asPb253 : Q × Bool := ((.eq txPb216 (.bi .sel (.fn 61 txPb225) (.int 7))), true)
abbrev asPb254 : Q × Bool := ((.eq txPb217 (.bi .sel (.fn 61 txPb225) (.int 8))), true)
abbrev asPb255 : Q × Bool := ((.eq txPb218 (.bi .sel (.fn 61 txPb225) (.int 9))), true)
abbrev asPb256 : Q × Bool := ((.eq txPb219 (.bi .sel (.fn 61 txPb225) (.int 10))), true)
abbrev asPb257 : Q × Bool := ((.eq txPb220 (.bi .sel (.fn 61 txPb225) (.int 11))), true)
abbrev asPb258 : Q × Bool := ((.eq txPb221 (.bi .sel (.fn 61 txPb225) (.int 12))), true)
abbrev asPb259 : Q × Bool := ((.eq txPb222 (.bi .sel (.fn 61 txPb225) (.int 13))), true)
abbrev asPb260 : Q × Bool := ((.eq txPb223 (.bi .sel (.fn 61 txPb225) (.int 14))), true)
abbrev asPb261 : Q × Bool := ((.eq txPb224 (.bi .sel (.fn 61 txPb225) (.int 15))), true)
def chunkY_t0 : List (Q × Bool) := [asPb238, asPb239, asPb240, asPb241, asPb242, asPb243, asPb244, asPb245, asPb246, asPb247, asPb248, asPb249, asPb250, asPb251, asPb252, asPb253, asPb254, asPb255, asPb256, asPb257, asPb258, asPb259, asPb260, asPb261]
def chunkY_d0 : List Duty := [(true, txPb29, (.bi .sel txPb26 (.int 0))), (true, txPb210, (.bi .sel txPb26 (.int 1))), (true, txPb211, (.bi .sel txPb26 (.int 2))), (true, txPb212, (.bi .sel txPb26 (.int 3))), (true, txPb213, (.bi .sel txPb26 (.int 4))), (true, txPb214, (.bi .sel txPb26 (.int 5))), (true, txPb215, (.bi .sel txPb26 (.int 6))), (true, txPb216, (.bi .sel txPb26 (.int 7))), (true, txPb217, (.bi .sel txPb26 (.int 8))), (true, txPb218, (.bi .sel txPb26 (.int 9))), (true, txPb219, (.bi .sel txPb26 (.int 10))), (true, txPb220, (.bi .sel txPb26 (.int 11))), (true, txPb221, (.bi .sel txPb26 (.int 12))), (true, txPb222, (.bi .sel txPb26 (.int 13))), (true, txPb223, (.bi .sel txPb26 (.int 14))), (true, txPb224, (.bi .sel txPb26 (.int 15)))]
noncomputable abbrev ltPb20 : List (FuncId × CSpec) := [(29, idCO), (49, gchkY), (49, gchkN)]
theorem chunkY_y0 : endC chunkY [(5, 9), (3, 3)] 1000 (callC Tryd.prog (tellA chunkY_t0) [] ltPb20 [] 3000 40 38 chunkY) = some chunkY_d0 := by kernel_rfl
theorem chunkY_holds : CHolds Tryd.prog 38 chunkY F := by
 refine cholds_of sound (tableNil _ _) (specsCons idCO_holds (specsCons gchkY_holds (specsCons gchkN_holds (specsNil _ _)))) (oversNil _ _) (fuel := 3000) (depth := 40) (by kernel_rfl) fun d hp hR hA => ?_
 have hp := allTold'_iff.2 hp
 simp only [chunkY, tl] at hp hR hA
 simp only [F64, argsE, tl] at hp
 obtain ⟨hl, hx⟩ := hR
 have hz := prt_length (x := (d 5).ints) (o := (d 1).toInt) (t := (d 1).toInt + (d 2).toInt) (by omega) (by omega) (by omega)
 have hb := body_iff (y := prt (d 5).ints (d 1).toInt ((d 1).toInt + (d 2).toInt))
 have e1 : prt (prt (d 5).ints (d 1).toInt ((d 1).toInt + (d 2).toInt)) 16 (((prt (d 5).ints (d 1).toInt ((d 1).toInt + (d 2).toInt)).length : Int) - 4) = prt (prt (d 5).ints (d 1).toInt ((d 1).toInt + ((d 2).toInt + -4))) 16 (16 + ((d 2).toInt + -20)) := by
  rw [hz, prt_prt (by omega) (by omega) (by omega) (by omega), prt_prt (by omega) (by omega) (by omega) (by omega)]
  congr 1
  omega
 have e2 : prt (prt (d 5).ints (d 1).toInt ((d 1).toInt + (d 2).toInt)) 0 16 = prt (d 5).ints (d 1).toInt ((d 1).toInt + 16) := by
  rw [prt_prt (by omega) (by omega) (by omega) (by omega), Int.add_zero]
 rw [e1, e2] at hb
 have pa : ∀ k : Nat, k < 16 → ((prt (d 5).ints (d 1).toInt ((d 1).toInt + ((d 2).toInt + -4)))[k]?).getD 0 = ((prt (d 5).ints (d 1).toInt ((d 1).toInt + 16))[k]?).getD 0 := fun k hk => by rw [prt_at (by omega) (by omega) (by omega), prt_at (by omega) (by omega) (by omega)]
 have hy := prt_length (x := (d 5).ints) (o := (d 1).toInt) (t := (d 1).toInt + 16) (by omega) (by omega) (by omega)
 have pa0 := pa 0 (by decide)
 have pa1 := pa 1 (by decide)
 have pa2 := pa 2 (by decide)
 have pa3 := pa 3 (by decide)
 have pa4 := pa 4 (by decide)
 have pa5 := pa 5 (by decide)
 have pa6 := pa 6 (by decide)
 have pa7 := pa 7 (by decide)
 have pa8 := pa 8 (by decide)
 have pa9 := pa 9 (by decide)
 have pa10 := pa 10 (by decide)
 have pa11 := pa 11 (by decide)
 have pa12 := pa 12 (by decide)
 have pa13 := pa 13 (by decide)
 have pa14 := pa 14 (by decide)
 have pa15 := pa 15 (by decide)
 obtain ⟨hg, hi⟩ := hb.1 (by omega)
 refine ⟨tellA chunkY_t0, _, _, _, tellA_ok (allTold'_iff.1 ?_), chunkY_y0, dutiesTold_ok ?_⟩
 ·simp only [chunkY_t0, F54, F61, cut_get, cutp, Int.reduceToNat, pa0, pa1, pa2, pa3, pa4, pa5, pa6, pa7, pa8, pa9, pa10, pa11, pa12, pa13, pa14, pa15, hi, tl]
  omega
 ·simp only [chunkY_d0, cut_get, Int.reduceToNat, pa0, pa1, pa2, pa3, pa4, pa5, pa6, pa7, pa8, pa9, pa10, pa11, pa12, pa13, pa14, pa15, tl]

def chunkN : CSpec := { args := [.agg [.any, .any, .int .i64 0, .any, .sslice 3 (.var 1) (.var 2) (.var 3) false]], next := 2, rows := [zPb27, (0, .ext cellsG)], pre := [(.le zPb24 (.var 4), true), (.le (.int 0) (.var 1), true), (.le (.int 0) (.var 2), true), (.le (.var 2) (.var 3), true), (.le (.int 21) (.var 2), true), (.le (.var 2) (.int 100000), true), (.eq (.fn 64 (argsE [.var 5, .var 1, .var 2])) (.int 1), false)], res := .tuple [.nilslice, .agg [.int .u8 0, .int .u8 0, .int .u8 0, .int .u8 0, .int .u8 0, .int .u8 0, .int .u8 0, .int .u8 0, .int .u8 0, .int .u8 0, .int .u8 0, .int .u8 0, .int .u8 0, .int .u8 0, .int .u8 0, .int .u8 0], .int .i64 11], frows := [], same := [3] }
abbrev asPb262 : Q × Bool := ((.eq (.fn 54 txPb27) (.int 1)), false)
def chunkN_t0 : List (Q × Bool) := [asPb238, asPb239, asPb240, asPb262]
def chunkN_d0 : List Duty := []
theorem chunkN_y0 : endC chunkN [(3, 3)] 1000 (callC Tryd.prog (tellA chunkN_t0) [] ltPb20 [] 3000 40 38 chunkN) = some chunkN_d0 := by kernel_rfl
abbrev asPb263 : Q × Bool := ((.eq txPb29 (.bi .sel (.fn 61 txPb225) (.int 0))), false)
def chunkN_t1 : List (Q × Bool) := [asPb238, asPb239, asPb240, asPb241, asPb242, asPb243, asPb244, asPb245, asPb263]
def chunkN_d1 : List Duty := []
theorem chunkN_y1 : endC chunkN [(3, 3)] 1000 (callC Tryd.prog (tellA chunkN_t1) [] ltPb20 [] 3000 40 38 chunkN) = some chunkN_d1 := by kernel_rfl
abbrev asPb264 : Q × Bool := ((.eq txPb210 (.bi .sel (.fn 61 txPb225) (.int 1))), false)
def chunkN_t2 : List (Q × Bool) := [asPb238, asPb239, asPb240, asPb241, asPb242, asPb243, asPb244, asPb245, asPb246, asPb264]
def chunkN_d2 : List Duty := []
theorem chunkN_y2 : endC chunkN [(3, 3)] 1000 (callC Tryd.prog (tellA chunkN_t2) [] ltPb20 [] 3000 40 38 chunkN) = some chunkN_d2 := by kernel_rfl
abbrev asPb265 : Q × Bool := ((.eq txPb211 (.bi .sel (.fn 61 txPb225) (.int 2))), false)
def chunkN_t3 : List (Q × Bool) := [asPb238, asPb239, asPb240, asPb241, asPb242, asPb243, asPb244, asPb245, asPb246, asPb247, asPb265]
def chunkN_d3 : List Duty := []
theorem chunkN_y3 : endC chunkN [(3, 3)] 1000 (callC Tryd.prog (tellA chunkN_t3) [] ltPb20 [] 3000 40 38 chunkN) = some chunkN_d3 := by kernel_rfl
abbrev asPb266 : Q × Bool := ((.eq txPb212 (.bi .sel (.fn 61 txPb225) (.int 3))), false)
def chunkN_t4 : List (Q × Bool) := [asPb238, asPb239, asPb240, asPb241, asPb242, asPb243, asPb244, asPb245, asPb246, asPb247, asPb248, asPb266]
def chunkN_d4 : List Duty := []
theorem chunkN_y4 : endC chunkN [(3, 3)] 1000 (callC Tryd.prog (tellA chunkN_t4) [] ltPb20 [] 3000 40 38 chunkN) = some chunkN_d4 := by kernel_rfl
abbrev asPb267 : Q × Bool := ((.eq txPb213 (.bi .sel (.fn 61 txPb225) (.int 4))), false)
def chunkN_t5 : List (Q × Bool) := [asPb238, asPb239, asPb240, asPb241, asPb242, asPb243, asPb244, asPb245, asPb246, asPb247, asPb248, asPb249, asPb267]
def chunkN_d5 : List Duty := []
theorem chunkN_y5 : endC chunkN [(3, 3)] 1000 (callC Tryd.prog (tellA chunkN_t5) [] ltPb20 [] 3000 40 38 chunkN) = some chunkN_d5 := by kernel_rfl
abbrev asPb268 : Q × Bool := ((.eq txPb214 (.bi .sel (.fn 61 txPb225) (.int 5))), false)
def chunkN_t6 : List (Q × Bool) := [asPb238, asPb239, asPb240, asPb241, asPb242, asPb243, asPb244, asPb245, asPb246, asPb247, asPb248, asPb249, asPb250, asPb268]
def chunkN_d6 : List Duty := []
theorem chunkN_y6 : endC chunkN [(3, 3)] 1000 (callC Tryd.prog (tellA chunkN_t6) [] ltPb20 [] 3000 40 38 chunkN) = some chunkN_d6 := by kernel_rfl
abbrev asPb269 : Q × Bool := ((.eq txPb215 (.bi .sel (.fn 61 txPb225) (.int 6))), false)
def chunkN_t7 : List (Q × Bool) := [asPb238, asPb239, asPb240, asPb241, asPb242, asPb243, asPb244, asPb245, asPb246, asPb247, asPb248, asPb249, asPb250, asPb251, asPb269]
def chunkN_d7 : List Duty := []
theorem chunkN_y7 : endC chunkN [(3, 3)] 1000 (callC Tryd.prog (tellA chunkN_t7) [] ltPb20 [] 3000 40 38 chunkN) = some chunkN_d7 := by kernel_rfl
abbrev asPb270 : Q × Bool := ((.eq txPb216 (.bi .sel (.fn 61 txPb225) (.int 7))), false)
def chunkN_t8 : List (Q × Bool) := [asPb238, asPb239, asPb240, asPb241, asPb242, asPb243, asPb244, asPb245, asPb246, asPb247, asPb248, asPb249, asPb250, asPb251, asPb252, asPb270]
def chunkN_d8 : List Duty := []
theorem chunkN_y8 : endC chunkN [(3, 3)] 1000 (callC Tryd.prog (tellA chunkN_t8) [] ltPb20 [] 3000 40 38 chunkN) = some chunkN_d8 := by kernel_rfl
abbrev asPb271 : Q × Bool := ((.eq txPb217 (.bi .sel (.fn 61 txPb225) (.int 8))), false)
def chunkN_t9 : List (Q × Bool) := [asPb238, asPb239, asPb240, asPb241, asPb242, asPb243, asPb244, asPb245, asPb246, asPb247, asPb248, asPb249, asPb250, asPb251, asPb252, asPb253, asPb271]
def chunkN_d9 : List Duty := []
theorem chunkN_y9 : endC chunkN [(3, 3)] 1000 (callC Tryd.prog (tellA chunkN_t9) [] ltPb20 [] 3000 40 38 chunkN) = some chunkN_d9 := by kernel_rfl
abbrev asPb272 : Q × Bool := ((.eq txPb218 (.bi .sel (.fn 61 txPb225) (.int 9))), false)
def chunkN_t10 : List (Q × Bool) := [asPb238, asPb239, asPb240, asPb241, asPb242, asPb243, asPb244, asPb245, asPb246, asPb247, asPb248, asPb249, asPb250, asPb251, asPb252, asPb253, asPb254, asPb272]
def chunkN_d10 : List Duty := []
theorem chunkN_y10 : endC chunkN [(3, 3)] 1000 (callC Tryd.prog (tellA chunkN_t10) [] ltPb20 [] 3000 40 38 chunkN) = some chunkN_d10 := by kernel_rfl
abbrev asPb273 : Q × Bool := ((.eq txPb219 (.bi .sel (.fn 61 txPb225) (.int 10))), false)
def chunkN_t11 : List (Q × Bool) := [asPb238, asPb239, asPb240, asPb241, asPb242, asPb243, asPb244, asPb245, asPb246, asPb247, asPb248, asPb249, asPb250, asPb251, asPb252, asPb253, asPb254, asPb255, asPb273]
def chunkN_d11 : List Duty := []
theorem chunkN_y11 : endC chunkN [(3, 3)] 1000 (callC Tryd.prog (tellA chunkN_t11) [] ltPb20 [] 3000 40 38 chunkN) = some chunkN_d11 := by kernel_rfl
abbrev asPb274 : Q × Bool := ((.eq txPb220 (.bi .sel (.fn 61 txPb225) (.int 11))), false)
def chunkN_t12 : List (Q × Bool) := [asPb238, asPb239, asPb240, asPb241, asPb242, asPb243, asPb244, asPb245, asPb246, asPb247, asPb248, asPb249, asPb250, asPb251, asPb252, asPb253, asPb254, asPb255, asPb256, asPb274]
def chunkN_d12 : List Duty := []
theorem chunkN_y12 : endC chunkN [(3, 3)] 1000 (callC Tryd.prog (tellA chunkN_t12) [] ltPb20 [] 3000 40 38 chunkN) = some chunkN_d12 := by kernel_rfl
abbrev asPb275 : Q × Bool := ((.eq txPb221 (.bi .sel (.fn 61 txPb225) (.int 12))), false)
def chunkN_t13 : List (Q × Bool) := [asPb238, asPb239, asPb240, asPb241, asPb242, asPb243, asPb244, asPb245, asPb246, asPb247, asPb248, asPb249, asPb250, asPb251, asPb252, asPb253, asPb254, asPb255, asPb256, asPb257, asPb275]
def chunkN_d13 : List Duty := []
theorem chunkN_y13 : endC chunkN [(3, 3)] 1000 (callC Tryd.prog (tellA chunkN_t13) [] ltPb20 [] 3000 40 38 chunkN) = some chunkN_d13 := by kernel_rfl
abbrev asPb276 : Q × Bool := ((.eq txPb222 (.bi .sel (.fn 61 txPb225) (.int 13))), false)
def chunkN_t14 : List (Q × Bool) := [asPb238, asPb239, asPb240, asPb241, asPb242, asPb243, asPb244, asPb245, asPb246, asPb247, asPb248, asPb249, asPb250, asPb251, asPb252, asPb253, asPb254, asPb255, asPb256, asPb257, asPb258, asPb276]
def chunkN_d14 : List Duty := []
theorem chunkN_y14 : endC chunkN [(3, 3)] 1000 (callC Tryd.prog (tellA chunkN_t14) [] ltPb20 [] 3000 40 38 chunkN) = some chunkN_d14 := by kernel_rfl
abbrev asPb277 : Q × Bool := ((.eq txPb223 (.bi .sel (.fn 61 txPb225) (.int 14))), false)
def chunkN_t15 : List (Q × Bool) := [asPb238, asPb239, asPb240, asPb241, asPb242, asPb243, asPb244, asPb245, asPb246, asPb247, asPb248, asPb249, asPb250, asPb251, asPb252, asPb253, asPb254, asPb255, asPb256, asPb257, asPb258, asPb259, asPb277]
def chunkN_d15 : List Duty := []
theorem chunkN_y15 : endC chunkN [(3, 3)] 1000 (callC Tryd.prog (tellA chunkN_t15) [] ltPb20 [] 3000 40 38 chunkN) = some chunkN_d15 := by kernel_rfl
abbrev asPb278 : Q × Bool := ((.eq txPb224 (.bi .sel (.fn 61 txPb225) (.int 15))), false)
def chunkN_t16 : List (Q × Bool) := [asPb238, asPb239, asPb240, asPb241, asPb242, asPb243, asPb244, asPb245, asPb246, asPb247, asPb248, asPb249, asPb250, asPb251, asPb252, asPb253, asPb254, asPb255, asPb256, asPb257, asPb258, asPb259, asPb260, asPb278]
def chunkN_d16 : List Duty := []
theorem chunkN_y16 : endC chunkN [(3, 3)] 1000 (callC Tryd.prog (tellA chunkN_t16) [] ltPb20 [] 3000 40 38 chunkN) = some chunkN_d16 := by kernel_rfl
theorem chunkN_holds : CHolds Tryd.prog 38 chunkN F := by
 refine cholds_of sound (tableNil _ _) (specsCons idCO_holds (specsCons gchkY_holds (specsCons gchkN_holds (specsNil _ _)))) (oversNil _ _) (fuel := 3000) (depth := 40) (by kernel_rfl) fun d hp hR hA => ?_
 have hp := allTold'_iff.2 hp
 simp only [chunkN, tl] at hp hR hA
 simp only [F64, argsE, tl] at hp
 obtain ⟨hl, hx⟩ := hR
 have hz := prt_length (x := (d 5).ints) (o := (d 1).toInt) (t := (d 1).toInt + (d 2).toInt) (by omega) (by omega) (by omega)
 have hb := body_iff (y := prt (d 5).ints (d 1).toInt ((d 1).toInt + (d 2).toInt))
 have e1 : prt (prt (d 5).ints (d 1).toInt ((d 1).toInt + (d 2).toInt)) 16 (((prt (d 5).ints (d 1).toInt ((d 1).toInt + (d 2).toInt)).length : Int) - 4) = prt (prt (d 5).ints (d 1).toInt ((d 1).toInt + ((d 2).toInt + -4))) 16 (16 + ((d 2).toInt + -20)) := by
  rw [hz, prt_prt (by omega) (by omega) (by omega) (by omega), prt_prt (by omega) (by omega) (by omega) (by omega)]
  congr 1
  omega
 have e2 : prt (prt (d 5).ints (d 1).toInt ((d 1).toInt + (d 2).toInt)) 0 16 = prt (d 5).ints (d 1).toInt ((d 1).toInt + 16) := by
  rw [prt_prt (by omega) (by omega) (by omega) (by omega), Int.add_zero]
 rw [e1, e2] at hb
 have pa : ∀ k : Nat, k < 16 → ((prt (d 5).ints (d 1).toInt ((d 1).toInt + ((d 2).toInt + -4)))[k]?).getD 0 = ((prt (d 5).ints (d 1).toInt ((d 1).toInt + 16))[k]?).getD 0 := fun k hk => by rw [prt_at (by omega) (by omega) (by omega), prt_at (by omega) (by omega) (by omega)]
 have hy := prt_length (x := (d 5).ints) (o := (d 1).toInt) (t := (d 1).toInt + 16) (by omega) (by omega) (by omega)
 have pa0 := pa 0 (by decide)
 have pa1 := pa 1 (by decide)
 have pa2 := pa 2 (by decide)
 have pa3 := pa 3 (by decide)
 have pa4 := pa 4 (by decide)
 have pa5 := pa 5 (by decide)
 have pa6 := pa 6 (by decide)
 have pa7 := pa 7 (by decide)
 have pa8 := pa 8 (by decide)
 have pa9 := pa 9 (by decide)
 have pa10 := pa 10 (by decide)
 have pa11 := pa 11 (by decide)
 have pa12 := pa 12 (by decide)
 have pa13 := pa 13 (by decide)
 have pa14 := pa 14 (by decide)
 have pa15 := pa 15 (by decide)
 by_cases hg : goodI (prt (d 5).ints (d 1).toInt ((d 1).toInt + (d 2).toInt)) = 1
 ·by_cases k0 : ((idI (prt (prt (d 5).ints (d 1).toInt ((d 1).toInt + ((d 2).toInt + -4))) 16 (16 + ((d 2).toInt + -20))))[0]?).getD 0 = ((prt (d 5).ints (d 1).toInt ((d 1).toInt + 16))[0]?).getD 0
  ·by_cases k1 : ((idI (prt (prt (d 5).ints (d 1).toInt ((d 1).toInt + ((d 2).toInt + -4))) 16 (16 + ((d 2).toInt + -20))))[1]?).getD 0 = ((prt (d 5).ints (d 1).toInt ((d 1).toInt + 16))[1]?).getD 0
   ·by_cases k2 : ((idI (prt (prt (d 5).ints (d 1).toInt ((d 1).toInt + ((d 2).toInt + -4))) 16 (16 + ((d 2).toInt + -20))))[2]?).getD 0 = ((prt (d 5).ints (d 1).toInt ((d 1).toInt + 16))[2]?).getD 0
    ·by_cases k3 : ((idI (prt (prt (d 5).ints (d 1).toInt ((d 1).toInt + ((d 2).toInt + -4))) 16 (16 + ((d 2).toInt + -20))))[3]?).getD 0 = ((prt (d 5).ints (d 1).toInt ((d 1).toInt + 16))[3]?).getD 0
     ·by_cases k4 : ((idI (prt (prt (d 5).ints (d 1).toInt ((d 1).toInt + ((d 2).toInt + -4))) 16 (16 + ((d 2).toInt + -20))))[4]?).getD 0 = ((prt (d 5).ints (d 1).toInt ((d 1).toInt + 16))[4]?).getD 0
      ·by_cases k5 : ((idI (prt (prt (d 5).ints (d 1).toInt ((d 1).toInt + ((d 2).toInt + -4))) 16 (16 + ((d 2).toInt + -20))))[5]?).getD 0 = ((prt (d 5).ints (d 1).toInt ((d 1).toInt + 16))[5]?).getD 0
       ·by_cases k6 : ((idI (prt (prt (d 5).ints (d 1).toInt ((d 1).toInt + ((d 2).toInt + -4))) 16 (16 + ((d 2).toInt + -20))))[6]?).getD 0 = ((prt (d 5).ints (d 1).toInt ((d 1).toInt + 16))[6]?).getD 0
        ·by_cases k7 : ((idI (prt (prt (d 5).ints (d 1).toInt ((d 1).toInt + ((d 2).toInt + -4))) 16 (16 + ((d 2).toInt + -20))))[7]?).getD 0 = ((prt (d 5).ints (d 1).toInt ((d 1).toInt + 16))[7]?).getD 0
         ·by_cases k8 : ((idI (prt (prt (d 5).ints (d 1).toInt ((d 1).toInt + ((d 2).toInt + -4))) 16 (16 + ((d 2).toInt + -20))))[8]?).getD 0 = ((prt (d 5).ints (d 1).toInt ((d 1).toInt + 16))[8]?).getD 0
          ·by_cases k9 : ((idI (prt (prt (d 5).ints (d 1).toInt ((d 1).toInt + ((d 2).toInt + -4))) 16 (16 + ((d 2).toInt + -20))))[9]?).getD 0 = ((prt (d 5).ints (d 1).toInt ((d 1).toInt + 16))[9]?).getD 0
           ·by_cases k10 : ((idI (prt (prt (d 5).ints (d 1).toInt ((d 1).toInt + ((d 2).toInt + -4))) 16 (16 + ((d 2).toInt + -20))))[10]?).getD 0 = ((prt (d 5).ints (d 1).toInt ((d 1).toInt + 16))[10]?).getD 0
            ·by_cases k11 : ((idI (prt (prt (d 5).ints (d 1).toInt ((d 1).toInt + ((d 2).toInt + -4))) 16 (16 + ((d 2).toInt + -20))))[11]?).getD 0 = ((prt (d 5).ints (d 1).toInt ((d 1).toInt + 16))[11]?).getD 0
             ·by_cases k12 : ((idI (prt (prt (d 5).ints (d 1).toInt ((d 1).toInt + ((d 2).toInt + -4))) 16 (16 + ((d 2).toInt + -20))))[12]?).getD 0 = ((prt (d 5).ints (d 1).toInt ((d 1).toInt + 16))[12]?).getD 0
              ·by_cases k13 : ((idI (prt (prt (d 5).ints (d 1).toInt ((d 1).toInt + ((d 2).toInt + -4))) 16 (16 + ((d 2).toInt + -20))))[13]?).getD 0 = ((prt (d 5).ints (d 1).toInt ((d 1).toInt + 16))[13]?).getD 0
               ·by_cases k14 : ((idI (prt (prt (d 5).ints (d 1).toInt ((d 1).toInt + ((d 2).toInt + -4))) 16 (16 + ((d 2).toInt + -20))))[14]?).getD 0 = ((prt (d 5).ints (d 1).toInt ((d 1).toInt + 16))[14]?).getD 0
                ·by_cases k15 : ((idI (prt (prt (d 5).ints (d 1).toInt ((d 1).toInt + ((d 2).toInt + -4))) 16 (16 + ((d 2).toInt + -20))))[15]?).getD 0 = ((prt (d 5).ints (d 1).toInt ((d 1).toInt + 16))[15]?).getD 0
                 ·exact absurd (hb.2 ⟨hg, ext16 idI_len (by omega) fun j hj => (by match j, hj with | 0, _ => exact k0 | 1, _ => exact k1 | 2, _ => exact k2 | 3, _ => exact k3 | 4, _ => exact k4 | 5, _ => exact k5 | 6, _ => exact k6 | 7, _ => exact k7 | 8, _ => exact k8 | 9, _ => exact k9 | 10, _ => exact k10 | 11, _ => exact k11 | 12, _ => exact k12 | 13, _ => exact k13 | 14, _ => exact k14 | 15, _ => exact k15 | j + 16, hj => omega)⟩) (by omega)
                 ·refine ⟨tellA chunkN_t16, _, _, _, tellA_ok (allTold'_iff.1 ?_), chunkN_y16, dutiesTold_ok ?_⟩
                  ·simp only [chunkN_t16, F54, F61, cut_get, cutp, Int.reduceToNat, pa0, pa1, pa2, pa3, pa4, pa5, pa6, pa7, pa8, pa9, pa10, pa11, pa12, pa13, pa14, pa15, tl]
                   omega
                  ·simp only [chunkN_d16, tl]
                ·refine ⟨tellA chunkN_t15, _, _, _, tellA_ok (allTold'_iff.1 ?_), chunkN_y15, dutiesTold_ok ?_⟩
                 ·simp only [chunkN_t15, F54, F61, cut_get, cutp, Int.reduceToNat, pa0, pa1, pa2, pa3, pa4, pa5, pa6, pa7, pa8, pa9, pa10, pa11, pa12, pa13, pa14, pa15, tl]
                  omega
                 ·simp only [chunkN_d15, tl]
               ·refine ⟨tellA chunkN_t14, _, _, _, tellA_ok (allTold'_iff.1 ?_), chunkN_y14, dutiesTold_ok ?_⟩
                ·simp only [chunkN_t14, F54, F61, cut_get, cutp, Int.reduceToNat, pa0, pa1, pa2, pa3, pa4, pa5, pa6, pa7, pa8, pa9, pa10, pa11, pa12, pa13, pa14, pa15, tl]
                 omega
                ·simp only [chunkN_d14, tl]
              ·refine ⟨tellA chunkN_t13, _, _, _, tellA_ok (allTold'_iff.1 ?_), chunkN_y13, dutiesTold_ok ?_⟩
               ·simp only [chunkN_t13, F54, F61, cut_get, cutp, Int.reduceToNat, pa0, pa1, pa2, pa3, pa4, pa5, pa6, pa7, pa8, pa9, pa10, pa11, pa12, pa13, pa14, pa15, tl]
                omega
               ·simp only [chunkN_d13, tl]
             ·refine ⟨tellA chunkN_t12, _, _, _, tellA_ok (allTold'_iff.1 ?_), chunkN_y12, dutiesTold_ok ?_⟩
              ·simp only [chunkN_t12, F54, F61, cut_get, cutp, Int.reduceToNat, pa0, pa1, pa2, pa3, pa4, pa5, pa6, pa7, pa8, pa9, pa10, pa11, pa12, pa13, pa14, pa15, tl]
               omega
              ·simp only [chunkN_d12, tl]
            ·refine ⟨tellA chunkN_t11, _, _, _, tellA_ok (allTold'_iff.1 ?_), chunkN_y11, dutiesTold_ok ?_⟩
             ·simp only [chunkN_t11, F54, F61, cut_get, cutp, Int.reduceToNat, pa0, pa1, pa2, pa3, pa4, pa5, pa6, pa7, pa8, pa9, pa10, pa11, pa12, pa13, pa14, pa15, tl]
              omega
             ·simp only [chunkN_d11, tl]
           ·refine ⟨tellA chunkN_t10, _, _, _, tellA_ok (allTold'_iff.1 ?_), chunkN_y10, dutiesTold_ok ?_⟩
            ·simp only [chunkN_t10, F54, F61, cut_get, cutp, Int.reduceToNat, pa0, pa1, pa2, pa3, pa4, pa5, pa6, pa7, pa8, pa9, pa10, pa11, pa12, pa13, pa14, pa15, tl]
             omega
            ·simp only [chunkN_d10, tl]
          ·refine ⟨tellA chunkN_t9, _, _, _, tellA_ok (allTold'_iff.1 ?_), chunkN_y9, dutiesTold_ok ?_⟩
           ·simp only [chunkN_t9, F54, F61, cut_get, cutp, Int.reduceToNat, pa0, pa1, pa2, pa3, pa4, pa5, pa6, pa7, pa8, pa9, pa10, pa11, pa12, pa13, pa14, pa15, tl]
            omega
           ·simp only [chunkN_d9, tl]
         ·refine ⟨tellA chunkN_t8, _, _, _, tellA_ok (allTold'_iff.1 ?_), chunkN_y8, dutiesTold_ok ?_⟩
          ·simp only [chunkN_t8, F54, F61, cut_get, cutp, Int.reduceToNat, pa0, pa1, pa2, pa3, pa4, pa5, pa6, pa7, pa8, pa9, pa10, pa11, pa12, pa13, pa14, pa15, tl]
           omega
          ·simp only [chunkN_d8, tl]
        ·refine ⟨tellA chunkN_t7, _, _, _, tellA_ok (allTold'_iff.1 ?_), chunkN_y7, dutiesTold_ok ?_⟩
         ·simp only [chunkN_t7, F54, F61, cut_get, cutp, Int.reduceToNat, pa0, pa1, pa2, pa3, pa4, pa5, pa6, pa7, pa8, pa9, pa10, pa11, pa12, pa13, pa14, pa15, tl]
          omega
         ·simp only [chunkN_d7, tl]
       ·refine ⟨tellA chunkN_t6, _, _, _, tellA_ok (allTold'_iff.1 ?_), chunkN_y6, dutiesTold_ok ?_⟩
        ·simp only [chunkN_t6, F54, F61, cut_get, cutp, Int.reduceToNat, pa0, pa1, pa2, pa3, pa4, pa5, pa6, pa7, pa8, pa9, pa10, pa11, pa12, pa13, pa14, pa15, tl]
         omega
        ·simp only [chunkN_d6, tl]
      ·refine ⟨tellA chunkN_t5, _, _, _, tellA_ok (allTold'_iff.1 ?_), chunkN_y5, dutiesTold_ok ?_⟩
       ·simp only [chunkN_t5, F54, F61, cut_get, cutp, Int.reduceToNat, pa0, pa1, pa2, pa3, pa4, pa5, pa6, pa7, pa8, pa9, pa10, pa11, pa12, pa13, pa14, pa15, tl]
        omega
       ·simp only [chunkN_d5, tl]
     ·refine ⟨tellA chunkN_t4, _, _, _, tellA_ok (allTold'_iff.1 ?_), chunkN_y4, dutiesTold_ok ?_⟩
      ·simp only [chunkN_t4, F54, F61, cut_get, cutp, Int.reduceToNat, pa0, pa1, pa2, pa3, pa4, pa5, pa6, pa7, pa8, pa9, pa10, pa11, pa12, pa13, pa14, pa15, tl]
       omega
      ·simp only [chunkN_d4, tl]
    ·refine ⟨tellA chunkN_t3, _, _, _, tellA_ok (allTold'_iff.1 ?_), chunkN_y3, dutiesTold_ok ?_⟩
     ·simp only [chunkN_t3, F54, F61, cut_get, cutp, Int.reduceToNat, pa0, pa1, pa2, pa3, pa4, pa5, pa6, pa7, pa8, pa9, pa10, pa11, pa12, pa13, pa14, pa15, tl]
      omega
     ·simp only [chunkN_d3, tl]
   ·refine ⟨tellA chunkN_t2, _, _, _, tellA_ok (allTold'_iff.1 ?_), chunkN_y2, dutiesTold_ok ?_⟩
    ·simp only [chunkN_t2, F54, F61, cut_get, cutp, Int.reduceToNat, pa0, pa1, pa2, pa3, pa4, pa5, pa6, pa7, pa8, pa9, pa10, pa11, pa12, pa13, pa14, pa15, tl]
     omega
    ·simp only [chunkN_d2, tl]
  ·refine ⟨tellA chunkN_t1, _, _, _, tellA_ok (allTold'_iff.1 ?_), chunkN_y1, dutiesTold_ok ?_⟩
   ·simp only [chunkN_t1, F54, F61, cut_get, cutp, Int.reduceToNat, pa0, pa1, pa2, pa3, pa4, pa5, pa6, pa7, pa8, pa9, pa10, pa11, pa12, pa13, pa14, pa15, tl]
    omega
   ·simp only [chunkN_d1, tl]
 ·refine ⟨tellA chunkN_t0, _, _, _, tellA_ok (allTold'_iff.1 ?_), chunkN_y0, dutiesTold_ok ?_⟩
  ·simp only [chunkN_t0, F54, tl]
   omega
  ·simp only [chunkN_d0, tl]

end Go.Proofs.YtidjfojcifjdjaaDoor.Pb2
