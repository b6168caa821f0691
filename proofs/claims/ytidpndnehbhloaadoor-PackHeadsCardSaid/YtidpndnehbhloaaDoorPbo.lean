/-
 Contracts of this seat: what loops and calls leave, for all inputs. No condition.
-/
import Derived.Test.YtidpndnehbhloaaDoorSycp
import Derived.Test.YtidpndnehbhloaaDoorCo
import Derived.Test.YtidpndnehbhloaaDoorP0
import Derived.Test.YtidpndnehbhloaaDoorPa
import Derived.Test.YtidpndnehbhloaaDoorPm
import Derived.Test.YtidpndnehbhloaaDoorPl
import Derived.Test.YtidpndnehbhloaaDoorPu
import Derived.Test.YtidpndnehbhloaaDoorPq
import Derived.Test.YtidpndnehbhloaaDoorPgo
import Derived.Test.YtidpndnehbhloaaDoorPb
set_option linter.unusedSimpArgs false
set_option linter.unusedVariables false
namespace Go.Proofs.YtidpndnehbhloaaDoor.Pbo
open Go.RowKit Go.Ev Go.Proofs.YtidpndnehbhloaaDoor.Co

open Go.Proofs.YtidpndnehbhloaaDoor.P0
open Go.Proofs.YtidpndnehbhloaaDoor.Pa
open Go.Proofs.YtidpndnehbhloaaDoor.Pm
open Go.Proofs.YtidpndnehbhloaaDoor.Pl
open Go.Proofs.YtidpndnehbhloaaDoor.Pu
open Go.Proofs.YtidpndnehbhloaaDoor.Puo
open Go.Proofs.YtidpndnehbhloaaDoor.Pq
open Go.Proofs.YtidpndnehbhloaaDoor.Pqo
open Go.Proofs.YtidpndnehbhloaaDoor.Pgo
open Go.Proofs.YtidpndnehbhloaaDoor.Pb

abbrev vu8Pbo (a : E) (j : Int) : AV := .sint .u8 (.bi .sel a (.int j))
abbrev zPbo1 : E := (.bi .add (.var 1) (.var 6))
abbrev txPbo0 : E := (.bi .add zPbo1 (.int 1))
abbrev txPbo1 : E := (.bi .sel (.var 5) zPbo1)
abbrev txPbo2 : E := (.fn 63 (argsE [.var 5, .var 1, .var 2, .var 6]))
abbrev txPbo3 : E := (.bi .pair (.var 2) (.bi .pair (.var 6) (.int 0)))
abbrev zPbo9 : E := (.bi .add (.var 2) (.int (-4)))
abbrev txPbo4 : E := (.bi .add (.var 1) zPbo9)
abbrev zPbo6 : E := (.bi .add (.var 2) (.int (-20)))
abbrev txPbo5 : E := (.bi .pair zPbo6 (.int 0))
abbrev txPbo6 : E := (.tr .cut (.var 5) (.var 1) (.bi .add (.var 1) (.int 16)))
abbrev zPbo4 : E := (.bi .add (.var 1) (.var 2))
abbrev txPbo7 : E := (.bi .pair (.var 5) (.bi .pair (.var 1) (.bi .pair zPbo4 (.int 0))))
abbrev txPbo8 : E := (.bi .pair (.var 5) (.bi .pair (.var 1) txPbo3))
abbrev zPbo0 : E := (.tr .cut (.var 5) (.var 1) txPbo4)
abbrev txPbo9 : E := (.bi .sel zPbo0 (.int 0))
abbrev txPbo10 : E := (.bi .sel zPbo0 (.int 1))
abbrev txPbo11 : E := (.bi .sel zPbo0 (.int 2))
abbrev txPbo12 : E := (.bi .sel zPbo0 (.int 3))
abbrev txPbo13 : E := (.bi .sel zPbo0 (.int 4))
abbrev txPbo14 : E := (.bi .sel zPbo0 (.int 5))
abbrev txPbo15 : E := (.bi .sel zPbo0 (.int 6))
abbrev txPbo16 : E := (.bi .sel zPbo0 (.int 7))
abbrev txPbo17 : E := (.bi .sel zPbo0 (.int 8))
abbrev txPbo18 : E := (.bi .sel zPbo0 (.int 9))
abbrev txPbo19 : E := (.bi .sel zPbo0 (.int 10))
abbrev txPbo20 : E := (.bi .sel zPbo0 (.int 11))
abbrev txPbo21 : E := (.bi .sel zPbo0 (.int 12))
abbrev txPbo22 : E := (.bi .sel zPbo0 (.int 13))
abbrev txPbo23 : E := (.bi .sel zPbo0 (.int 14))
abbrev txPbo24 : E := (.bi .sel zPbo0 (.int 15))
abbrev txPbo25 : E := (.bi .pair zPbo0 (.bi .pair (.int 16) txPbo5))
abbrev txPbo26 : E := (.bi (.iop .or .i64) (.bi (.iop .shl .i64) txPbo1 (.int 8)) (.bi .sel (.var 5) txPbo0))
abbrev zPbo5 : E := (.bi .add txPbo26 (.int 26))
abbrev txPbo27 : E := (.bi .add (.var 6) zPbo5)
abbrev zPbo3 : E := (.fn 60 (.bi .pair txPbo26 (.int 0)))
abbrev txPbo28 : E := (.bi .sel zPbo3 (.int 2))
abbrev txPbo29 : E := (.bi .sel zPbo3 (.int 3))
abbrev txPbo30 : E := (.bi .sel zPbo3 (.int 4))
abbrev txPbo31 : E := (.bi .sel zPbo3 (.int 5))
abbrev zPbo2 : E := (.bi .sub (.var 2) (.var 6))
abbrev zPbo7 : Nat × RW := (3, .eseq ⟨.u8, .var 4, .var 5⟩)
abbrev zPbo8 : E := (.bi .add (.var 6) (.int 6))
abbrev zPbo10 : E := (.bi .add txPbo2 (.int 26))
abbrev zPbo11 : E := (.bi .sel (.var 5) (.bi .add zPbo1 (.int 2)))
abbrev zPbo12 : E := (.bi .sel (.var 5) (.bi .add zPbo1 (.int 3)))
abbrev zPbo13 : E := (.bi .sel (.var 5) (.bi .add zPbo1 (.int 4)))
abbrev zPbo14 : E := (.bi .sel (.var 5) (.bi .add zPbo1 (.int 5)))
def recTO : CSpec := { args := [.sslice 3 (.var 1) (.var 2) (.var 3) true, .sint .i64 (.var 6)], next := 2, rows := [zPbo7], pre := [(.le zPbo4 (.var 4), true), (.le (.int 0) (.var 6), true), (.le (.var 6) (.var 2), true), (.le (.var 2) (.int 1000000), true), (.le (.int 6) zPbo2, false)], res := .agg [.sint .i64 (.var 6), .sint .i64 (.var 2), .int .i64 1, .int .i64 0, .nilslice], frows := [], same := [3] }
abbrev asPbo0 : Q × Bool := ((.fit .i64 (.var 2)), true)
abbrev asPbo1 : Q × Bool := ((.le (.int 0) (.var 6)), true)
abbrev asPbo2 : Q × Bool := ((.le (.var 6) (.var 2)), true)
abbrev asPbo3 : Q × Bool := ((.le (.var 2) (.var 3)), true)
abbrev asPbo4 : Q × Bool := ((.fit .i64 zPbo2), true)
abbrev asPbo5 : Q × Bool := ((.le (.int 6) zPbo2), false)
def recTO_t0 : List (Q × Bool) := [asPbo0, asPbo1, asPbo2, asPbo3, asPbo4, asPbo5]
def recTO_d0 : List Duty := []
theorem recTO_y0 : endC recTO [(3, 3)] 1000 (callC Tryd.prog (tellA recTO_t0) [] [(24, headC)] [] 3000 40 21 recTO) = some recTO_d0 := by kernel_rfl
theorem recTO_holds : CHolds Tryd.prog 21 recTO F := by
 refine cholds_of sound (tableNil _ _) (specsCons headC_holds (specsNil _ _)) (oversNil _ _) (fuel := 3000) (depth := 40) (by kernel_rfl) fun d hp hR hA => ?_
 have hp := allTold'_iff.2 hp
 simp only [recTO, tl] at hp hR hA
 refine ⟨tellA recTO_t0, _, _, _, tellA_ok (allTold'_iff.1 ?_), recTO_y0, dutiesTold_ok ?_⟩
 ·simp only [recTO_t0, tl]
  omega
 ·simp only [recTO_d0, tl]

def recBO : CSpec := { args := [.sslice 3 (.var 1) (.var 2) (.var 3) true, .sint .i64 (.var 6)], next := 2, rows := [zPbo7], pre := [(.le zPbo4 (.var 4), true), (.le (.int 0) (.var 6), true), (.le (.var 6) (.var 2), true), (.le (.var 2) (.int 1000000), true), (.le (.int 6) zPbo2, true), (.eq txPbo2 (.int 0), true)], res := .agg [.sint .i64 (.var 6), .sint .i64 (.var 2), .int .i64 2, .int .i64 0, .nilslice], frows := [], same := [3] }
abbrev asPbo6 : Q × Bool := ((.le (.int 6) zPbo2), true)
abbrev asPbo7 : Q × Bool := ((.le zPbo2 (.int 0)), false)
abbrev asPbo8 : Q × Bool := ((.le (.int 0) zPbo1), true)
abbrev asPbo9 : Q × Bool := ((.le (.var 4) zPbo1), false)
abbrev asPbo10 : Q × Bool := ((.le zPbo2 (.int 1)), false)
abbrev asPbo11 : Q × Bool := ((.le (.int 0) txPbo0), true)
abbrev asPbo12 : Q × Bool := ((.le (.var 4) txPbo0), false)
abbrev asPbo13 : Q × Bool := ((.le (.int 1) txPbo26), false)
def recBO_t0 : List (Q × Bool) := [asPbo0, asPbo1, asPbo2, asPbo3, asPbo4, asPbo6, asPbo7, asPbo8, asPbo9, asPbo10, asPbo11, asPbo12, asPbo13]
def recBO_d0 : List Duty := []
theorem recBO_y0 : endC recBO [(3, 3)] 1000 (callC Tryd.prog (tellA recBO_t0) [] [(24, headC)] [] 3000 40 21 recBO) = some recBO_d0 := by kernel_rfl
abbrev asPbo14 : Q × Bool := ((.le (.int 1) txPbo26), true)
abbrev asPbo15 : Q × Bool := ((.le txPbo26 (.int 1024)), false)
def recBO_t1 : List (Q × Bool) := [asPbo0, asPbo1, asPbo2, asPbo3, asPbo4, asPbo6, asPbo7, asPbo8, asPbo9, asPbo10, asPbo11, asPbo12, asPbo14, asPbo15]
def recBO_d1 : List Duty := []
theorem recBO_y1 : endC recBO [(3, 3)] 1000 (callC Tryd.prog (tellA recBO_t1) [] [(24, headC)] [] 3000 40 21 recBO) = some recBO_d1 := by kernel_rfl
abbrev asPbo16 : Q × Bool := ((.le txPbo26 (.int 1024)), true)
abbrev asPbo17 : Q × Bool := ((.fit .i64 (.bi .add txPbo26 (.int 22))), true)
abbrev asPbo18 : Q × Bool := ((.fit .i64 zPbo5), true)
abbrev asPbo19 : Q × Bool := ((.eq zPbo5 (.int 0)), false)
abbrev asPbo20 : Q × Bool := ((.le (.bi .add zPbo1 (.int 6)) (.var 4)), true)
abbrev asPbo21 : Q × Bool := ((.le (.int 0) txPbo26), true)
abbrev asPbo22 : Q × Bool := ((.le txPbo26 (.int 65535)), true)
abbrev asPbo23 : Q × Bool := ((.eq (.bi .sel zPbo3 (.int 0)) txPbo1), true)
abbrev asPbo24 : Q × Bool := ((.eq (.bi .sel zPbo3 (.int 1)) (.bi .sel (.var 5) txPbo0)), true)
abbrev asPbo25 : Q × Bool := ((.eq txPbo28 zPbo11), false)
def recBO_t2 : List (Q × Bool) := [asPbo0, asPbo1, asPbo2, asPbo3, asPbo4, asPbo6, asPbo7, asPbo8, asPbo9, asPbo10, asPbo11, asPbo12, asPbo14, asPbo16, asPbo17, asPbo18, asPbo19, asPbo20, asPbo21, asPbo22, asPbo23, asPbo24, asPbo25]
def recBO_d2 : List Duty := []
theorem recBO_y2 : endC recBO [(3, 3)] 1000 (callC Tryd.prog (tellA recBO_t2) [] [(24, headC)] [] 3000 40 21 recBO) = some recBO_d2 := by kernel_rfl
abbrev asPbo26 : Q × Bool := ((.eq txPbo28 zPbo11), true)
abbrev asPbo27 : Q × Bool := ((.eq txPbo29 zPbo12), false)
def recBO_t3 : List (Q × Bool) := [asPbo0, asPbo1, asPbo2, asPbo3, asPbo4, asPbo6, asPbo7, asPbo8, asPbo9, asPbo10, asPbo11, asPbo12, asPbo14, asPbo16, asPbo17, asPbo18, asPbo19, asPbo20, asPbo21, asPbo22, asPbo23, asPbo24, asPbo26, asPbo27]
def recBO_d3 : List Duty := []
theorem recBO_y3 : endC recBO [(3, 3)] 1000 (callC Tryd.prog (tellA recBO_t3) [] [(24, headC)] [] 3000 40 21 recBO) = some recBO_d3 := by kernel_rfl
abbrev asPbo28 : Q × Bool := ((.eq txPbo29 zPbo12), true)
abbrev asPbo29 : Q × Bool := ((.eq txPbo30 zPbo13), false)
def recBO_t4 : List (Q × Bool) := [asPbo0, asPbo1, asPbo2, asPbo3, asPbo4, asPbo6, asPbo7, asPbo8, asPbo9, asPbo10, asPbo11, asPbo12, asPbo14, asPbo16, asPbo17, asPbo18, asPbo19, asPbo20, asPbo21, asPbo22, asPbo23, asPbo24, asPbo26, asPbo28, asPbo29]
def recBO_d4 : List Duty := []
theorem recBO_y4 : endC recBO [(3, 3)] 1000 (callC Tryd.prog (tellA recBO_t4) [] [(24, headC)] [] 3000 40 21 recBO) = some recBO_d4 := by kernel_rfl
abbrev asPbo30 : Q × Bool := ((.eq txPbo30 zPbo13), true)
abbrev asPbo31 : Q × Bool := ((.eq txPbo31 zPbo14), false)
def recBO_t5 : List (Q × Bool) := [asPbo0, asPbo1, asPbo2, asPbo3, asPbo4, asPbo6, asPbo7, asPbo8, asPbo9, asPbo10, asPbo11, asPbo12, asPbo14, asPbo16, asPbo17, asPbo18, asPbo19, asPbo20, asPbo21, asPbo22, asPbo23, asPbo24, asPbo26, asPbo28, asPbo30, asPbo31]
def recBO_d5 : List Duty := []
theorem recBO_y5 : endC recBO [(3, 3)] 1000 (callC Tryd.prog (tellA recBO_t5) [] [(24, headC)] [] 3000 40 21 recBO) = some recBO_d5 := by kernel_rfl
theorem recBO_holds : CHolds Tryd.prog 21 recBO F := by
 refine cholds_of sound (tableNil _ _) (specsCons headC_holds (specsNil _ _)) (oversNil _ _) (fuel := 3000) (depth := 40) (by kernel_rfl) fun d hp hR hA => ?_
 have hp := allTold'_iff.2 hp
 simp only [recBO, tl] at hp hR hA
 simp only [F63, argsE, tl] at hp
 obtain ⟨hl, hx⟩ := hR
 have b0 := sel_in hx ((d 1).toInt + (d 6).toInt).toNat
 have b1 := sel_in hx ((d 1).toInt + (d 6).toInt + 1).toNat
 have hn := or8 (n := ((d 5).ints[((d 1).toInt + (d 6).toInt).toNat]?).getD 0) (c := ((d 5).ints[((d 1).toInt + (d 6).toInt + 1).toNat]?).getD 0) (by omega) (by omega) b1.1 b1.2
 generalize hN : ((d 5).ints[((d 1).toInt + (d 6).toInt).toNat]?).getD 0 * 256 + ((d 5).ints[((d 1).toInt + (d 6).toInt + 1).toNat]?).getD 0 = n at hn
 by_cases c1 : 1 ≤ n
 ·by_cases c2 : n ≤ 1024
  ·obtain ⟨⟨e0, e1⟩, hz⟩ := size_of (x := (d 5).ints) (o := (d 1).toInt) (l := (d 2).toInt) (p := (d 6).toInt) (by omega) (by omega) (by omega) (by omega) hN.symm hx c1 c2
   by_cases e2 : ((headI n)[2]?).getD 0 = ((d 5).ints[((d 1).toInt + (d 6).toInt + 2).toNat]?).getD 0
   ·by_cases e3 : ((headI n)[3]?).getD 0 = ((d 5).ints[((d 1).toInt + (d 6).toInt + 3).toNat]?).getD 0
    ·by_cases e4 : ((headI n)[4]?).getD 0 = ((d 5).ints[((d 1).toInt + (d 6).toInt + 4).toNat]?).getD 0
     ·by_cases e5 : ((headI n)[5]?).getD 0 = ((d 5).ints[((d 1).toInt + (d 6).toInt + 5).toNat]?).getD 0
      ·have := hz e2 e3 e4 e5
       omega
      ·refine ⟨tellA recBO_t5, _, _, _, tellA_ok (allTold'_iff.1 ?_), recBO_y5, dutiesTold_ok ?_⟩
       ·simp only [recBO_t5, hn, Int.reduceToNat, F60, tl]
        omega
       ·simp only [recBO_d5, tl]
     ·refine ⟨tellA recBO_t4, _, _, _, tellA_ok (allTold'_iff.1 ?_), recBO_y4, dutiesTold_ok ?_⟩
      ·simp only [recBO_t4, hn, Int.reduceToNat, F60, tl]
       omega
      ·simp only [recBO_d4, tl]
    ·refine ⟨tellA recBO_t3, _, _, _, tellA_ok (allTold'_iff.1 ?_), recBO_y3, dutiesTold_ok ?_⟩
     ·simp only [recBO_t3, hn, Int.reduceToNat, F60, tl]
      omega
     ·simp only [recBO_d3, tl]
   ·refine ⟨tellA recBO_t2, _, _, _, tellA_ok (allTold'_iff.1 ?_), recBO_y2, dutiesTold_ok ?_⟩
    ·simp only [recBO_t2, hn, Int.reduceToNat, F60, tl]
     omega
    ·simp only [recBO_d2, tl]
  ·refine ⟨tellA recBO_t1, _, _, _, tellA_ok (allTold'_iff.1 ?_), recBO_y1, dutiesTold_ok ?_⟩
   ·simp only [recBO_t1, hn, Int.reduceToNat, tl]
    omega
   ·simp only [recBO_d1, tl]
 ·refine ⟨tellA recBO_t0, _, _, _, tellA_ok (allTold'_iff.1 ?_), recBO_y0, dutiesTold_ok ?_⟩
  ·simp only [recBO_t0, hn, Int.reduceToNat, tl]
   omega
  ·simp only [recBO_d0, tl]

def recSO : CSpec := { args := [.sslice 3 (.var 1) (.var 2) (.var 3) true, .sint .i64 (.var 6)], next := 2, rows := [zPbo7], pre := [(.le zPbo4 (.var 4), true), (.le (.int 0) (.var 6), true), (.le (.var 6) (.var 2), true), (.le (.var 2) (.int 1000000), true), (.le (.int 6) zPbo2, true), (.eq txPbo2 (.int 0), false), (.le zPbo10 zPbo2, false)], res := .agg [.sint .i64 (.var 6), .sint .i64 (.var 2), .int .i64 1, .int .i64 0, .nilslice], frows := [], same := [3] }
abbrev asPbo32 : Q × Bool := ((.eq txPbo31 zPbo14), true)
abbrev asPbo33 : Q × Bool := ((.le zPbo5 zPbo2), false)
def recSO_t0 : List (Q × Bool) := [asPbo0, asPbo1, asPbo2, asPbo3, asPbo4, asPbo6, asPbo7, asPbo8, asPbo9, asPbo10, asPbo11, asPbo12, asPbo14, asPbo16, asPbo17, asPbo18, asPbo19, asPbo20, asPbo21, asPbo22, asPbo23, asPbo24, asPbo26, asPbo28, asPbo30, asPbo32, asPbo33]
def recSO_d0 : List Duty := []
theorem recSO_y0 : endC recSO [(3, 3)] 1000 (callC Tryd.prog (tellA recSO_t0) [] [(24, headC)] [] 3000 40 21 recSO) = some recSO_d0 := by kernel_rfl
theorem recSO_holds : CHolds Tryd.prog 21 recSO F := by
 refine cholds_of sound (tableNil _ _) (specsCons headC_holds (specsNil _ _)) (oversNil _ _) (fuel := 3000) (depth := 40) (by kernel_rfl) fun d hp hR hA => ?_
 have hp := allTold'_iff.2 hp
 simp only [recSO, tl] at hp hR hA
 simp only [F63, argsE, tl] at hp
 obtain ⟨hl, hx⟩ := hR
 have b0 := sel_in hx ((d 1).toInt + (d 6).toInt).toNat
 have b1 := sel_in hx ((d 1).toInt + (d 6).toInt + 1).toNat
 have hn := or8 (n := ((d 5).ints[((d 1).toInt + (d 6).toInt).toNat]?).getD 0) (c := ((d 5).ints[((d 1).toInt + (d 6).toInt + 1).toNat]?).getD 0) (by omega) (by omega) b1.1 b1.2
 generalize hN : ((d 5).ints[((d 1).toInt + (d 6).toInt).toNat]?).getD 0 * 256 + ((d 5).ints[((d 1).toInt + (d 6).toInt + 1).toNat]?).getD 0 = n at hn
 obtain ⟨hs, c1, c2, e0, e1, e2, e3, e4, e5⟩ := size_yes (x := (d 5).ints) (o := (d 1).toInt) (l := (d 2).toInt) (p := (d 6).toInt) (by omega) (by omega) (by omega) (by omega) hN.symm (by omega)
 refine ⟨tellA recSO_t0, _, _, _, tellA_ok (allTold'_iff.1 ?_), recSO_y0, dutiesTold_ok ?_⟩
 ·simp only [recSO_t0, hn, Int.reduceToNat, F60, tl]
  omega
 ·simp only [recSO_d0, hn, F60, F63, tl]
  skip

def recYO : CSpec := { args := [.sslice 3 (.var 1) (.var 2) (.var 3) true, .sint .i64 (.var 6)], next := 2, rows := [zPbo7], pre := [(.le zPbo4 (.var 4), true), (.le (.int 0) (.var 6), true), (.le (.var 6) (.var 2), true), (.le (.var 2) (.int 1000000), true), (.le (.int 6) zPbo2, true), (.eq txPbo2 (.int 0), false), (.le zPbo10 zPbo2, true)], res := .agg [.sint .i64 (.var 6), .sint .i64 (.bi .add (.var 6) zPbo10), .int .i64 0, .sint .i64 txPbo2, .sslice 3 (.bi .add (.var 1) zPbo8) (.bi .add txPbo2 (.int 20)) (.bi .sub (.var 3) zPbo8) true], frows := [], same := [3] }
abbrev asPbo34 : Q × Bool := ((.le zPbo5 zPbo2), true)
abbrev asPbo35 : Q × Bool := ((.fit .i64 txPbo27), true)
abbrev asPbo36 : Q × Bool := ((.le (.int 6) zPbo5), true)
abbrev asPbo37 : Q × Bool := ((.le zPbo5 (.bi .sub (.var 3) (.var 6))), true)
def recYO_t0 : List (Q × Bool) := [asPbo0, asPbo1, asPbo2, asPbo3, asPbo4, asPbo6, asPbo7, asPbo8, asPbo9, asPbo10, asPbo11, asPbo12, asPbo14, asPbo16, asPbo17, asPbo18, asPbo19, asPbo20, asPbo21, asPbo22, asPbo23, asPbo24, asPbo26, asPbo28, asPbo30, asPbo32, asPbo34, asPbo35, asPbo36, asPbo37]
def recYO_d0 : List Duty := [(true, txPbo27, (.bi .add (.var 6) (.bi .add (.fn 63 txPbo8) (.int 26)))), (true, txPbo26, (.fn 63 txPbo8)), (true, (.bi .add zPbo1 (.int 6)), (.bi .add (.var 1) zPbo8)), (true, (.bi .add txPbo26 (.int 20)), (.bi .add (.fn 63 txPbo8) (.int 20))), (true, (.bi .add (.bi .sub (.var 3) (.var 6)) (.int (-6))), (.bi .sub (.var 3) zPbo8))]
theorem recYO_y0 : endC recYO [(3, 3)] 1000 (callC Tryd.prog (tellA recYO_t0) [] [(24, headC)] [] 3000 40 21 recYO) = some recYO_d0 := by kernel_rfl
theorem recYO_holds : CHolds Tryd.prog 21 recYO F := by
 refine cholds_of sound (tableNil _ _) (specsCons headC_holds (specsNil _ _)) (oversNil _ _) (fuel := 3000) (depth := 40) (by kernel_rfl) fun d hp hR hA => ?_
 have hp := allTold'_iff.2 hp
 simp only [recYO, tl] at hp hR hA
 simp only [F63, argsE, tl] at hp
 obtain ⟨hl, hx⟩ := hR
 have b0 := sel_in hx ((d 1).toInt + (d 6).toInt).toNat
 have b1 := sel_in hx ((d 1).toInt + (d 6).toInt + 1).toNat
 have hn := or8 (n := ((d 5).ints[((d 1).toInt + (d 6).toInt).toNat]?).getD 0) (c := ((d 5).ints[((d 1).toInt + (d 6).toInt + 1).toNat]?).getD 0) (by omega) (by omega) b1.1 b1.2
 generalize hN : ((d 5).ints[((d 1).toInt + (d 6).toInt).toNat]?).getD 0 * 256 + ((d 5).ints[((d 1).toInt + (d 6).toInt + 1).toNat]?).getD 0 = n at hn
 obtain ⟨hs, c1, c2, e0, e1, e2, e3, e4, e5⟩ := size_yes (x := (d 5).ints) (o := (d 1).toInt) (l := (d 2).toInt) (p := (d 6).toInt) (by omega) (by omega) (by omega) (by omega) hN.symm (by omega)
 refine ⟨tellA recYO_t0, _, _, _, tellA_ok (allTold'_iff.1 ?_), recYO_y0, dutiesTold_ok ?_⟩
 ·simp only [recYO_t0, hn, Int.reduceToNat, F60, tl]
  omega
 ·simp only [recYO_d0, hn, F60, F63, tl]
  omega

def chunkYO : CSpec := { args := [.agg [.any, .any, .int .i64 0, .any, .sslice 3 (.var 1) (.var 2) (.var 3) true]], next := 2, rows := [zPbo7, (0, .ext cellsG)], pre := [(.le zPbo4 (.var 4), true), (.le (.int 0) (.var 1), true), (.le (.int 0) (.var 2), true), (.le (.var 2) (.var 3), true), (.le (.int 21) (.var 2), true), (.le (.var 2) (.int 100000), true), (.eq (.fn 64 (argsE [.var 5, .var 1, .var 2])) (.int 1), true)], res := .tuple [.sslice 5 (.int 16) zPbo6 zPbo6 true, .agg [vu8Pbo txPbo6 0, vu8Pbo txPbo6 1, vu8Pbo txPbo6 2, vu8Pbo txPbo6 3, vu8Pbo txPbo6 4, vu8Pbo txPbo6 5, vu8Pbo txPbo6 6, vu8Pbo txPbo6 7, vu8Pbo txPbo6 8, vu8Pbo txPbo6 9, vu8Pbo txPbo6 10, vu8Pbo txPbo6 11, vu8Pbo txPbo6 12, vu8Pbo txPbo6 13, vu8Pbo txPbo6 14, vu8Pbo txPbo6 15], .int .i64 0], frows := [(5, .seq ⟨5, .u8, .bi .add (.var 2) (.int (-4)), .tr .cut (.var 5) (.var 1) txPbo4, true, false⟩)], same := [3] }
abbrev asPbo38 : Q × Bool := ((.le zPbo4 (.var 4)), true)
abbrev asPbo39 : Q × Bool := ((.le (.int 5) (.var 2)), true)
abbrev asPbo40 : Q × Bool := ((.le (.var 2) (.int 1000000)), true)
abbrev asPbo41 : Q × Bool := ((.eq (.fn 54 txPbo7) (.int 1)), true)
abbrev asPbo42 : Q × Bool := ((.le (.int 16) zPbo9), true)
abbrev asPbo43 : Q × Bool := ((.le (.bi .add (.int 16) zPbo6) zPbo9), true)
abbrev asPbo44 : Q × Bool := ((.le (.int 1) zPbo6), true)
abbrev asPbo45 : Q × Bool := ((.le zPbo6 (.int 100000)), true)
abbrev asPbo46 : Q × Bool := ((.eq txPbo9 (.bi .sel (.fn 61 txPbo25) (.int 0))), true)
abbrev asPbo47 : Q × Bool := ((.eq txPbo10 (.bi .sel (.fn 61 txPbo25) (.int 1))), true)
abbrev asPbo48 : Q × Bool := ((.eq txPbo11 (.bi .sel (.fn 61 txPbo25) (.int 2))), true)
abbrev asPbo49 : Q × Bool := ((.eq txPbo12 (.bi .sel (.fn 61 txPbo25) (.int 3))), true)
abbrev asPbo50 : Q × Bool := ((.eq txPbo13 (.bi .sel (.fn 61 txPbo25) (.int 4))), true)
abbrev asPbo51 : Q × Bool := ((.eq txPbo14 (.bi .sel (.fn 61 txPbo25) (.int 5))), true)
abbrev asPbo52 : Q × Bool := ((.eq txPbo15 (.bi .sel (.fn 61 txPbo25) (.int 6))), true)
abbrev asPbo53 : Q × Bool := ((.eq txPbo16 (.bi .sel (.fn 61 txPbo25) (.int 7))), true)
abbrev asPbo54 : Q × Bool := ((.eq txPbo17 (.bi .sel (.fn 61 txPbo25) (.int 8))), true)
abbrev asPbo55 : Q × Bool := ((.eq txPbo18 (.bi .sel (.fn 61 txPbo25) (.int 9))), true)
abbrev asPbo56 : Q × Bool := ((.eq txPbo19 (.bi .sel (.fn 61 txPbo25) (.int 10))), true)
abbrev asPbo57 : Q × Bool := ((.eq txPbo20 (.bi .sel (.fn 61 txPbo25) (.int 11))), true)
abbrev asPbo58 : Q × Bool := ((.eq txPbo21 (.bi .sel (.fn 61 txPbo25) (.int 12))), true)
abbrev asPbo59 : Q × Bool := ((.eq txPbo22 (.bi .sel (.fn 61 txPbo25) (.int 13))), true)
abbrev asPbo60 : Q × Bool := ((.eq txPbo23 (.bi .sel (.fn 61 txPbo25) (.int 14))), true)
abbrev asPbo61 : Q × Bool := ((.eq txPbo24 (.bi .sel (.fn 61 txPbo25) (.int 15))), true)
def chunkYO_t0 : List (Q × Bool) := [asPbo38, asPbo39, asPbo40, asPbo41, asPbo42, asPbo43, asPbo44, asPbo45, asPbo46, asPbo47, asPbo48, asPbo49, asPbo50, asPbo51, asPbo52, asPbo53, asPbo54, asPbo55, asPbo56, asPbo57, asPbo58, asPbo59, asPbo60, asPbo61]
def chunkYO_d0 : List Duty := [(true, txPbo9, (.bi .sel txPbo6 (.int 0))), (true, txPbo10, (.bi .sel txPbo6 (.int 1))), (true, txPbo11, (.bi .sel txPbo6 (.int 2))), (true, txPbo12, (.bi .sel txPbo6 (.int 3))), (true, txPbo13, (.bi .sel txPbo6 (.int 4))), (true, txPbo14, (.bi .sel txPbo6 (.int 5))), (true, txPbo15, (.bi .sel txPbo6 (.int 6))), (true, txPbo16, (.bi .sel txPbo6 (.int 7))), (true, txPbo17, (.bi .sel txPbo6 (.int 8))), (true, txPbo18, (.bi .sel txPbo6 (.int 9))), (true, txPbo19, (.bi .sel txPbo6 (.int 10))), (true, txPbo20, (.bi .sel txPbo6 (.int 11))), (true, txPbo21, (.bi .sel txPbo6 (.int 12))), (true, txPbo22, (.bi .sel txPbo6 (.int 13))), (true, txPbo23, (.bi .sel txPbo6 (.int 14))), (true, txPbo24, (.bi .sel txPbo6 (.int 15)))]
noncomputable abbrev ltPbo0 : List (FuncId × CSpec) := [(11, idCO), (28, gchkYO), (28, gchkNO)]
theorem chunkYO_y0 : endC chunkYO [(5, 9), (3, 3)] 1000 (callC Tryd.prog (tellA chunkYO_t0) [] ltPbo0 [] 3000 40 22 chunkYO) = some chunkYO_d0 := by kernel_rfl
theorem chunkYO_holds : CHolds Tryd.prog 22 chunkYO F := by
 refine cholds_of sound (tableNil _ _) (specsCons idCO_holds (specsCons gchkYO_holds (specsCons gchkNO_holds (specsNil _ _)))) (oversNil _ _) (fuel := 3000) (depth := 40) (by kernel_rfl) fun d hp hR hA => ?_
 have hp := allTold'_iff.2 hp
 simp only [chunkYO, tl] at hp hR hA
 simp only [F64, argsE, tl] at hp
 obtain ⟨hl, hx⟩ := hR
 have hz := prt_length (x := (d 5).ints) (o := (d 1).toInt) (t := (d 1).toInt + (d 2).toInt) (by omega) (by omega) (by omega)
 have hb := body_iff (y := prt (d 5).ints (d 1).toInt ((d 1).toInt + (d 2).toInt))
 have e1 : prt (prt (d 5).ints (d 1).toInt ((d 1).toInt + (d 2).toInt)) 16 (((prt (d 5).ints (d 1).toInt ((d 1).toInt + (d 2).toInt)).length : Int) - 4) = prt (prt (d 5).ints (d 1).toInt ((d 1).toInt + ((d 2).toInt + -4))) 16 (16 + ((d 2).toInt + -20)) := by
  rw [hz, prt_prt (by omega) (by omega) (by omega) (by omega), prt_prt (by omega) (by omega) (by omega) (by omega)]
  congr 1
  omega
 have e2 : prt (prt (d 5).ints (d 1).toInt ((d 1).toInt + (d 2).toInt)) 0 16 = prt (d 5).ints (d 1).toInt ((d 1).toInt + 16) := by
  rw [prt_prt (by omega) (by omega) (by omega) (by omega), Int.add_zero]
 rw [e1, e2] at hb
 have pa : ∀ k : Nat, k < 16 → ((prt (d 5).ints (d 1).toInt ((d 1).toInt + ((d 2).toInt + -4)))[k]?).getD 0 = ((prt (d 5).ints (d 1).toInt ((d 1).toInt + 16))[k]?).getD 0 := fun k hk => by rw [prt_at (by omega) (by omega) (by omega), prt_at (by omega) (by omega) (by omega)]
 have hy := prt_length (x := (d 5).ints) (o := (d 1).toInt) (t := (d 1).toInt + 16) (by omega) (by omega) (by omega)
 have pa0 := pa 0 (by decide)
 have pa1 := pa 1 (by decide)
 have pa2 := pa 2 (by decide)
 have pa3 := pa 3 (by decide)
 have pa4 := pa 4 (by decide)
 have pa5 := pa 5 (by decide)
 have pa6 := pa 6 (by decide)
 have pa7 := pa 7 (by decide)
 have pa8 := pa 8 (by decide)
 have pa9 := pa 9 (by decide)
 have pa10 := pa 10 (by decide)
 have pa11 := pa 11 (by decide)
 have pa12 := pa 12 (by decide)
 have pa13 := pa 13 (by decide)
 have pa14 := pa 14 (by decide)
 have pa15 := pa 15 (by decide)
 obtain ⟨hg, hi⟩ := hb.1 (by omega)
 refine ⟨tellA chunkYO_t0, _, _, _, tellA_ok (allTold'_iff.1 ?_), chunkYO_y0, dutiesTold_ok ?_⟩
 ·simp only [chunkYO_t0, F54, F61, cut_get, cutp, Int.reduceToNat, pa0, pa1, pa2, pa3, pa4, pa5, pa6, pa7, pa8, pa9, pa10, pa11, pa12, pa13, pa14, pa15, hi, tl]
  omega
 ·simp only [chunkYO_d0, cut_get, Int.reduceToNat, pa0, pa1, pa2, pa3, pa4, pa5, pa6, pa7, pa8, pa9, pa10, pa11, pa12, pa13, pa14, pa15, tl]

def chunkNO : CSpec := { args := [.agg [.any, .any, .int .i64 0, .any, .sslice 3 (.var 1) (.var 2) (.var 3) true]], next := 2, rows := [zPbo7, (0, .ext cellsG)], pre := [(.le zPbo4 (.var 4), true), (.le (.int 0) (.var 1), true), (.le (.int 0) (.var 2), true), (.le (.var 2) (.var 3), true), (.le (.int 21) (.var 2), true), (.le (.var 2) (.int 100000), true), (.eq (.fn 64 (argsE [.var 5, .var 1, .var 2])) (.int 1), false)], res := .tuple [.nilslice, .agg [.int .u8 0, .int .u8 0, .int .u8 0, .int .u8 0, .int .u8 0, .int .u8 0, .int .u8 0, .int .u8 0, .int .u8 0, .int .u8 0, .int .u8 0, .int .u8 0, .int .u8 0, .int .u8 0, .int .u8 0, .int .u8 0], .int .i64 11], frows := [], same := [3] }
abbrev asPbo62 : Q × Bool := ((.eq (.fn 54 txPbo7) (.int 1)), false)
def chunkNO_t0 : List (Q × Bool) := [asPbo38, asPbo39, asPbo40, asPbo62]
def chunkNO_d0 : List Duty := []
theorem chunkNO_y0 : endC chunkNO [(3, 3)] 1000 (callC Tryd.prog (tellA chunkNO_t0) [] ltPbo0 [] 3000 40 22 chunkNO) = some chunkNO_d0 := by kernel_rfl
abbrev asPbo63 : Q × Bool := ((.eq txPbo9 (.bi .sel (.fn 61 txPbo25) (.int 0))), false)
def chunkNO_t1 : List (Q × Bool) := [asPbo38, asPbo39, asPbo40, asPbo41, asPbo42, asPbo43, asPbo44, asPbo45, asPbo63]
def chunkNO_d1 : List Duty := []
theorem chunkNO_y1 : endC chunkNO [(3, 3)] 1000 (callC Tryd.prog (tellA chunkNO_t1) [] ltPbo0 [] 3000 40 22 chunkNO) = some chunkNO_d1 := by kernel_rfl
abbrev asPbo64 : Q × Bool := ((.eq txPbo10 (.bi .sel (.fn 61 txPbo25) (.int 1))), false)
def chunkNO_t2 : List (Q × Bool) := [asPbo38, asPbo39, asPbo40, asPbo41, asPbo42, asPbo43, asPbo44, asPbo45, asPbo46, asPbo64]
def chunkNO_d2 : List Duty := []
theorem chunkNO_y2 : endC chunkNO [(3, 3)] 1000 (callC Tryd.prog (tellA chunkNO_t2) [] ltPbo0 [] 3000 40 22 chunkNO) = some chunkNO_d2 := by kernel_rfl
abbrev asPbo65 : Q × Bool := ((.eq txPbo11 (.bi .sel (.fn 61 txPbo25) (.int 2))), false)
def chunkNO_t3 : List (Q × Bool) := [asPbo38, asPbo39, asPbo40, asPbo41, asPbo42, asPbo43, asPbo44, asPbo45, asPbo46, asPbo47, asPbo65]
def chunkNO_d3 : List Duty := []
theorem chunkNO_y3 : endC chunkNO [(3, 3)] 1000 (callC Tryd.prog (tellA chunkNO_t3) [] ltPbo0 [] 3000 40 22 chunkNO) = some chunkNO_d3 := by kernel_rfl
abbrev asPbo66 : Q × Bool := ((.eq txPbo12 (.bi .sel (.fn 61 txPbo25) (.int 3))), false)
def chunkNO_t4 : List (Q × Bool) := [asPbo38, asPbo39, asPbo40, asPbo41, asPbo42, asPbo43, asPbo44, asPbo45, asPbo46, asPbo47, asPbo48, asPbo66]
def chunkNO_d4 : List Duty := []
theorem chunkNO_y4 : endC chunkNO [(3, 3)] 1000 (callC Tryd.prog (tellA chunkNO_t4) [] ltPbo0 [] 3000 40 22 chunkNO) = some chunkNO_d4 := by kernel_rfl
abbrev asPbo67 : Q × Bool := ((.eq txPbo13 (.bi .sel (.fn 61 txPbo25) (.int 4))), false)
def chunkNO_t5 : List (Q × Bool) := [asPbo38, asPbo39, asPbo40, asPbo41, asPbo42, asPbo43, asPbo44, asPbo45, asPbo46, asPbo47, asPbo48, asPbo49, asPbo67]
def chunkNO_d5 : List Duty := []
theorem chunkNO_y5 : endC chunkNO [(3, 3)] 1000 (callC Tryd.prog (tellA chunkNO_t5) [] ltPbo0 [] 3000 40 22 chunkNO) = some chunkNO_d5 := by kernel_rfl
abbrev asPbo68 : Q × Bool := ((.eq txPbo14 (.bi .sel (.fn 61 txPbo25) (.int 5))), false)
def chunkNO_t6 : List (Q × Bool) := [asPbo38, asPbo39, asPbo40, asPbo41, asPbo42, asPbo43, asPbo44, asPbo45, asPbo46, asPbo47, asPbo48, asPbo49, asPbo50, asPbo68]
def chunkNO_d6 : List Duty := []
theorem chunkNO_y6 : endC chunkNO [(3, 3)] 1000 (callC Tryd.prog (tellA chunkNO_t6) [] ltPbo0 [] 3000 40 22 chunkNO) = some chunkNO_d6 := by kernel_rfl
abbrev asPbo69 : Q × Bool := ((.eq txPbo15 (.bi .sel (.fn 61 txPbo25) (.int 6))), false)
def chunkNO_t7 : List (Q × Bool) := [asPbo38, asPbo39, asPbo40, asPbo41, asPbo42, asPbo43, asPbo44, asPbo45, asPbo46, asPbo47, asPbo48, asPbo49, asPbo50, asPbo51, asPbo69]
def chunkNO_d7 : List Duty := []
theorem chunkNO_y7 : endC chunkNO [(3, 3)] 1000 (callC Tryd.prog (tellA chunkNO_t7) [] ltPbo0 [] 3000 40 22 chunkNO) = some chunkNO_d7 := by kernel_rfl
abbrev asPbo70 : Q × Bool := ((.eq txPbo16 (.bi .sel (.fn 61 txPbo25) (.int 7))), false)
def chunkNO_t8 : List (Q × Bool) := [asPbo38, asPbo39, asPbo40, asPbo41, asPbo42, asPbo43, asPbo44, asPbo45, asPbo46, asPbo47, asPbo48, asPbo49, asPbo50, asPbo51, asPbo52, asPbo70]
def chunkNO_d8 : List Duty := []
theorem chunkNO_y8 : endC chunkNO [(3, 3)] 1000 (callC Tryd.prog (tellA chunkNO_t8) [] ltPbo0 [] 3000 40 22 chunkNO) = some chunkNO_d8 := by kernel_rfl
abbrev asPbo71 : Q × Bool := ((.eq txPbo17 (.bi .sel (.fn 61 txPbo25) (.int 8))), false)
def chunkNO_t9 : List (Q × Bool) := [asPbo38, asPbo39, asPbo40, asPbo41, asPbo42, asPbo43, asPbo44, asPbo45, asPbo46, asPbo47, asPbo48, asPbo49, asPbo50, asPbo51, asPbo52, asPbo53, asPbo71]
def chunkNO_d9 : List Duty := []
theorem chunkNO_y9 : endC chunkNO [(3, 3)] 1000 (callC Tryd.prog (tellA chunkNO_t9) [] ltPbo0 [] 3000 40 22 chunkNO) = some chunkNO_d9 := by kernel_rfl
abbrev asPbo72 : Q × Bool := ((.eq txPbo18 (.bi .sel (.fn 61 txPbo25) (.int 9))), false)
def chunkNO_t10 : List (Q × Bool) := [asPbo38, asPbo39, asPbo40, asPbo41, asPbo42, asPbo43, asPbo44, asPbo45, asPbo46, asPbo47, asPbo48, asPbo49, asPbo50, asPbo51, asPbo52, asPbo53, asPbo54, asPbo72]
def chunkNO_d10 : List Duty := []
theorem chunkNO_y10 : endC chunkNO [(3, 3)] 1000 (callC Tryd.prog (tellA chunkNO_t10) [] ltPbo0 [] 3000 40 22 chunkNO) = some chunkNO_d10 := by kernel_rfl
abbrev asPbo73 : Q × Bool := ((.eq txPbo19 (.bi .sel (.fn 61 txPbo25) (.int 10))), false)
def chunkNO_t11 : List (Q × Bool) := [asPbo38, asPbo39, asPbo40, asPbo41, asPbo42, asPbo43, asPbo44, asPbo45, asPbo46, asPbo47, asPbo48, asPbo49, asPbo50, asPbo51, asPbo52, asPbo53, asPbo54, asPbo55, asPbo73]
def chunkNO_d11 : List Duty := []
theorem chunkNO_y11 : endC chunkNO [(3, 3)] 1000 (callC Tryd.prog (tellA chunkNO_t11) [] ltPbo0 [] 3000 40 22 chunkNO) = some chunkNO_d11 := by kernel_rfl
abbrev asPbo74 : Q × Bool := ((.eq txPbo20 (.bi .sel (.fn 61 txPbo25) (.int 11))), false)
def chunkNO_t12 : List (Q × Bool) := [asPbo38, asPbo39, asPbo40, asPbo41, asPbo42, asPbo43, asPbo44, asPbo45, asPbo46, asPbo47, asPbo48, asPbo49, asPbo50, asPbo51, asPbo52, asPbo53, asPbo54, asPbo55, asPbo56, asPbo74]
def chunkNO_d12 : List Duty := []
theorem chunkNO_y12 : endC chunkNO [(3, 3)] 1000 (callC Tryd.prog (tellA chunkNO_t12) [] ltPbo0 [] 3000 40 22 chunkNO) = some chunkNO_d12 := by kernel_rfl
abbrev asPbo75 : Q × Bool := ((.eq txPbo21 (.bi .sel (.fn 61 txPbo25) (.int 12))), false)
def chunkNO_t13 : List (Q × Bool) := [asPbo38, asPbo39, asPbo40, asPbo41, asPbo42, asPbo43, asPbo44, asPbo45, asPbo46, asPbo47, asPbo48, asPbo49, asPbo50, asPbo51, asPbo52, asPbo53, asPbo54, asPbo55, asPbo56, asPbo57, asPbo75]
def chunkNO_d13 : List Duty := []
theorem chunkNO_y13 : endC chunkNO [(3, 3)] 1000 (callC Tryd.prog (tellA chunkNO_t13) [] ltPbo0 [] 3000 40 22 chunkNO) = some chunkNO_d13 := by kernel_rfl
abbrev asPbo76 : Q × Bool := ((.eq txPbo22 (.bi .sel (.fn 61 txPbo25) (.int 13))), false)
def chunkNO_t14 : List (Q × Bool) := [asPbo38, asPbo39, asPbo40, asPbo41, asPbo42, asPbo43, asPbo44, asPbo45, asPbo46, asPbo47, asPbo48, asPbo49, asPbo50, asPbo51, asPbo52, asPbo53, asPbo54, asPbo55, asPbo56, asPbo57, asPbo58, asPbo76]
def chunkNO_d14 : List Duty := []
theorem chunkNO_y14 : endC chunkNO [(3, 3)] 1000 (callC Tryd.prog (tellA chunkNO_t14) [] ltPbo0 [] 3000 40 22 chunkNO) = some chunkNO_d14 := by kernel_rfl
abbrev asPbo77 : Q × Bool := ((.eq txPbo23 (.bi .sel (.fn 61 txPbo25) (.int 14))), false)
def chunkNO_t15 : List (Q × Bool) := [asPbo38, asPbo39, asPbo40, asPbo41, asPbo42, asPbo43, asPbo44, asPbo45, asPbo46, asPbo47, asPbo48, asPbo49, asPbo50, asPbo51, asPbo52, asPbo53, asPbo54, asPbo55, asPbo56, asPbo57, asPbo58, asPbo59, asPbo77]
def chunkNO_d15 : List Duty := []
theorem chunkNO_y15 : endC chunkNO [(3, 3)] 1000 (callC Tryd.prog (tellA chunkNO_t15) [] ltPbo0 [] 3000 40 22 chunkNO) = some chunkNO_d15 := by kernel_rfl
abbrev asPbo78 : Q × Bool := ((.eq txPbo24 (.bi .sel (.fn 61 txPbo25) (.int 15))), false)
def chunkNO_t16 : List (Q × Bool) := [asPbo38, asPbo39, asPbo40, asPbo41, asPbo42, asPbo43, asPbo44, asPbo45, asPbo46, asPbo47, asPbo48, asPbo49, asPbo50, asPbo51, asPbo52, asPbo53, asPbo54, asPbo55, asPbo56, asPbo57, asPbo58, asPbo59, asPbo60, asPbo78]
def chunkNO_d16 : List Duty := []
theorem chunkNO_y16 : endC chunkNO [(3, 3)] 1000 (callC Tryd.prog (tellA chunkNO_t16) [] ltPbo0 [] 3000 40 22 chunkNO) = some chunkNO_d16 := by kernel_rfl
theorem chunkNO_holds : CHolds Tryd.prog 22 chunkNO F := by
 refine cholds_of sound (tableNil _ _) (specsCons idCO_holds (specsCons gchkYO_holds (specsCons gchkNO_holds (specsNil _ _)))) (oversNil _ _) (fuel := 3000) (depth := 40) (by kernel_rfl) fun d hp hR hA => ?_
 have hp := allTold'_iff.2 hp
 simp only [chunkNO, tl] at hp hR hA
 simp only [F64, argsE, tl] at hp
 obtain ⟨hl, hx⟩ := hR
 have hz := prt_length (x := (d 5).ints) (o := (d 1).toInt) (t := (d 1).toInt + (d 2).toInt) (by omega) (by omega) (by omega)
 have hb := body_iff (y := prt (d 5).ints (d 1).toInt ((d 1).toInt + (d 2).toInt))
 have e1 : prt (prt (d 5).ints (d 1).toInt ((d 1).toInt + (d 2).toInt)) 16 (((prt (d 5).ints (d 1).toInt ((d 1).toInt + (d 2).toInt)).length : Int) - 4) = prt (prt (d 5).ints (d 1).toInt ((d 1).toInt + ((d 2).toInt + -4))) 16 (16 + ((d 2).toInt + -20)) := by
  rw [hz, prt_prt (by omega) (by omega) (by omega) (by omega), prt_prt (by omega) (by omega) (by omega) (by omega)]
  congr 1
  omega
 have e2 : prt (prt (d 5).ints (d 1).toInt ((d 1).toInt + (d 2).toInt)) 0 16 = prt (d 5).ints (d 1).toInt ((d 1).toInt + 16) := by
  rw [prt_prt (by omega) (by omega) (by omega) (by omega), Int.add_zero]
 rw [e1, e2] at hb
 have pa : ∀ k : Nat, k < 16 → ((prt (d 5).ints (d 1).toInt ((d 1).toInt + ((d 2).toInt + -4)))[k]?).getD 0 = ((prt (d 5).ints (d 1).toInt ((d 1).toInt + 16))[k]?).getD 0 := fun k hk => by rw [prt_at (by omega) (by omega) (by omega), prt_at (by omega) (by omega) (by omega)]
 have hy := prt_length (x := (d 5).ints) (o := (d 1).toInt) (t := (d 1).toInt + 16) (by omega) (by omega) (by omega)
 have pa0 := pa 0 (by decide)
 have pa1 := pa 1 (by decide)
 have pa2 := pa 2 (by decide)
 have pa3 := pa 3 (by decide)
 have pa4 := pa 4 (by decide)
 have pa5 := pa 5 (by decide)
 have pa6 := pa 6 (by decide)
 have pa7 := pa 7 (by decide)
 have pa8 := pa 8 (by decide)
 have pa9 := pa 9 (by decide)
 have pa10 := pa 10 (by decide)
 have pa11 := pa 11 (by decide)
 have pa12 := pa 12 (by decide)
 have pa13 := pa 13 (by decide)
 have pa14 := pa 14 (by decide)
 have pa15 := pa 15 (by decide)
 by_cases hg : goodI (prt (d 5).ints (d 1).toInt ((d 1).toInt + (d 2).toInt)) = 1
 ·by_cases k0 : ((idI (prt (prt (d 5).ints (d 1).toInt ((d 1).toInt + ((d 2).toInt + -4))) 16 (16 + ((d 2).toInt + -20))))[0]?).getD 0 = ((prt (d 5).ints (d 1).toInt ((d 1).toInt + 16))[0]?).getD 0
  ·by_cases k1 : ((idI (prt (prt (d 5).ints (d 1).toInt ((d 1).toInt + ((d 2).toInt + -4))) 16 (16 + ((d 2).toInt + -20))))[1]?).getD 0 = ((prt (d 5).ints (d 1).toInt ((d 1).toInt + 16))[1]?).getD 0
   ·by_cases k2 : ((idI (prt (prt (d 5).ints (d 1).toInt ((d 1).toInt + ((d 2).toInt + -4))) 16 (16 + ((d 2).toInt + -20))))[2]?).getD 0 = ((prt (d 5).ints (d 1).toInt ((d 1).toInt + 16))[2]?).getD 0
    ·by_cases k3 : ((idI (prt (prt (d 5).ints (d 1).toInt ((d 1).toInt + ((d 2).toInt + -4))) 16 (16 + ((d 2).toInt + -20))))[3]?).getD 0 = ((prt (d 5).ints (d 1).toInt ((d 1).toInt + 16))[3]?).getD 0
     ·by_cases k4 : ((idI (prt (prt (d 5).ints (d 1).toInt ((d 1).toInt + ((d 2).toInt + -4))) 16 (16 + ((d 2).toInt + -20))))[4]?).getD 0 = ((prt (d 5).ints (d 1).toInt ((d 1).toInt + 16))[4]?).getD 0
      ·by_cases k5 : ((idI (prt (prt (d 5).ints (d 1).toInt ((d 1).toInt + ((d 2).toInt + -4))) 16 (16 + ((d 2).toInt + -20))))[5]?).getD 0 = ((prt (d 5).ints (d 1).toInt ((d 1).toInt + 16))[5]?).getD 0
       ·by_cases k6 : ((idI (prt (prt (d 5).ints (d 1).toInt ((d 1).toInt + ((d 2).toInt + -4))) 16 (16 + ((d 2).toInt + -20))))[6]?).getD 0 = ((prt (d 5).ints (d 1).toInt ((d 1).toInt + 16))[6]?).getD 0
        ·by_cases k7 : ((idI (prt (prt (d 5).ints (d 1).toInt ((d 1).toInt + ((d 2).toInt + -4))) 16 (16 + ((d 2).toInt + -20))))[7]?).getD 0 = ((prt (d 5).ints (d 1).toInt ((d 1).toInt + 16))[7]?).getD 0
         ·by_cases k8 : ((idI (prt (prt (d 5).ints (d 1).toInt ((d 1).toInt + ((d 2).toInt + -4))) 16 (16 + ((d 2).toInt + -20))))[8]?).getD 0 = ((prt (d 5).ints (d 1).toInt ((d 1).toInt + 16))[8]?).getD 0
          ·by_cases k9 : ((idI (prt (prt (d 5).ints (d 1).toInt ((d 1).toInt + ((d 2).toInt + -4))) 16 (16 + ((d 2).toInt + -20))))[9]?).getD 0 = ((prt (d 5).ints (d 1).toInt ((d 1).toInt + 16))[9]?).getD 0
           ·by_cases k10 : ((idI (prt (prt (d 5).ints (d 1).toInt ((d 1).toInt + ((d 2).toInt + -4))) 16 (16 + ((d 2).toInt + -20))))[10]?).getD 0 = ((prt (d 5).ints (d 1).toInt ((d 1).toInt + 16))[10]?).getD 0
            ·by_cases k11 : ((idI (prt (prt (d 5).ints (d 1).toInt ((d 1).toInt + ((d 2).toInt + -4))) 16 (16 + ((d 2).toInt + -20))))[11]?).getD 0 = ((prt (d 5).ints (d 1).toInt ((d 1).toInt + 16))[11]?).getD 0
             ·by_cases k12 : ((idI (prt (prt (d 5).ints (d 1).toInt ((d 1).toInt + ((d 2).toInt + -4))) 16 (16 + ((d 2).toInt + -20))))[12]?).getD 0 = ((prt (d 5).ints (d 1).toInt ((d 1).toInt + 16))[12]?).getD 0
              ·by_cases k13 : ((idI (prt (prt (d 5).ints (d 1).toInt ((d 1).toInt + ((d 2).toInt + -4))) 16 (16 + ((d 2).toInt + -20))))[13]?).getD 0 = ((prt (d 5).ints (d 1).toInt ((d 1).toInt + 16))[13]?).getD 0
               ·by_cases k14 : ((idI (prt (prt (d 5).ints (d 1).toInt ((d 1).toInt + ((d 2).toInt + -4))) 16 (16 + ((d 2).toInt + -20))))[14]?).getD 0 = ((prt (d 5).ints (d 1).toInt ((d 1).toInt + 16))[14]?).getD 0
                ·by_cases k15 : ((idI (prt (prt (d 5).ints (d 1).toInt ((d 1).toInt + ((d 2).toInt + -4))) 16 (16 + ((d 2).toInt + -20))))[15]?).getD 0 = ((prt (d 5).ints (d 1).toInt ((d 1).toInt + 16))[15]?).getD 0
                 ·exact absurd (hb.2 ⟨hg, ext16 idI_len (by omega) fun j hj => (by match j, hj with | 0, _ => exact k0 | 1, _ => exact k1 | 2, _ => exact k2 | 3, _ => exact k3 | 4, _ => exact k4 | 5, _ => exact k5 | 6, _ => exact k6 | 7, _ => exact k7 | 8, _ => exact k8 | 9, _ => exact k9 | 10, _ => exact k10 | 11, _ => exact k11 | 12, _ => exact k12 | 13, _ => exact k13 | 14, _ => exact k14 | 15, _ => exact k15 | j + 16, hj => omega)⟩) (by omega)
                 ·refine ⟨tellA chunkNO_t16, _, _, _, tellA_ok (allTold'_iff.1 ?_), chunkNO_y16, dutiesTold_ok ?_⟩
                  ·simp only [chunkNO_t16, F54, F61, cut_get, cutp, Int.reduceToNat, pa0, pa1, pa2, pa3, pa4, pa5, pa6, pa7, pa8, pa9, pa10, pa11, pa12, pa13, pa14, pa15, tl]
                   omega
                  ·simp only [chunkNO_d16, tl]
                ·refine ⟨tellA chunkNO_t15, _, _, _, tellA_ok (allTold'_iff.1 ?_), chunkNO_y15, dutiesTold_ok ?_⟩
                 ·simp only [chunkNO_t15, F54, F61, cut_get, cutp, Int.reduceToNat, pa0, pa1, pa2, pa3, pa4, pa5, pa6, pa7, pa8, pa9, pa10, pa11, pa12, pa13, pa14, pa15, tl]
                  omega
                 ·simp only [chunkNO_d15, tl]
               ·refine ⟨tellA chunkNO_t14, _, _, _, tellA_ok (allTold'_iff.1 ?_), chunkNO_y14, dutiesTold_ok ?_⟩
                ·simp only [chunkNO_t14, F54, F61, cut_get, cutp, Int.reduceToNat, pa0, pa1, pa2, pa3, pa4, pa5, pa6, pa7, pa8, pa9, pa10, pa11, pa12, pa13, pa14, pa15, tl]
                 omega
                ·simp only [chunkNO_d14, tl]
              ·refine ⟨tellA chunkNO_t13, _, _, _, tellA_ok (allTold'_iff.1 ?_), chunkNO_y13, dutiesTold_ok ?_⟩
               ·simp only [chunkNO_t13, F54, F61, cut_get, cutp, Int.reduceToNat, pa0, pa1, pa2, pa3, pa4, pa5, pa6, pa7, pa8, pa9, pa10, pa11, pa12, pa13, pa14, pa15, tl]
                omega
               ·simp only [chunkNO_d13, tl]
             ·refine ⟨tellA chunkNO_t12, _, _, _, tellA_ok (allTold'_iff.1 ?_), chunkNO_y12, dutiesTold_ok ?_⟩
              ·simp only [chunkNO_t12, F54, F61, cut_get, cutp, Int.reduceToNat, pa0, pa1, pa2, pa3, pa4, pa5, pa6, pa7, pa8, pa9, pa10, pa11, pa12, pa13, pa14, pa15, tl]
               omega
              ·simp only [chunkNO_d12, tl]
            ·refine ⟨tellA chunkNO_t11, _, _, _, tellA_ok (allTold'_iff.1 ?_), chunkNO_y11, dutiesTold_ok ?_⟩
             ·simp only [chunkNO_t11, F54, F61, cut_get, cutp, Int.reduceToNat, pa0, pa1, pa2, pa3, pa4, pa5, pa6, pa7, pa8, pa9, pa10, pa11, pa12, pa13, pa14, pa15, tl]
              omega
             ·simp only [chunkNO_d11, tl]
           ·refine ⟨tellA chunkNO_t10, _, _, _, tellA_ok (allTold'_iff.1 ?_), chunkNO_y10, dutiesTold_ok ?_⟩
            ·simp only [chunkNO_t10, F54, F61, cut_get, cutp, Int.reduceToNat, pa0, pa1, pa2, pa3, pa4, pa5, pa6, pa7, pa8, pa9, pa10, pa11, pa12, pa13, pa14, pa15, tl]
             omega
            ·simp only [chunkNO_d10, tl]
          ·refine ⟨tellA chunkNO_t9, _, _, _, tellA_ok (allTold'_iff.1 ?_), chunkNO_y9, dutiesTold_ok ?_⟩
           ·simp only [chunkNO_t9, F54, F61, cut_get, cutp, Int.reduceToNat, pa0, pa1, pa2, pa3, pa4, pa5, pa6, pa7, pa8, pa9, pa10, pa11, pa12, pa13, pa14, pa15, tl]
            omega
           ·simp only [chunkNO_d9, tl]
         ·refine ⟨tellA chunkNO_t8, _, _, _, tellA_ok (allTold'_iff.1 ?_), chunkNO_y8, dutiesTold_ok ?_⟩
          ·simp only [chunkNO_t8, F54, F61, cut_get, cutp, Int.reduceToNat, pa0, pa1, pa2, pa3, pa4, pa5, pa6, pa7, pa8, pa9, pa10, pa11, pa12, pa13, pa14, pa15, tl]
           omega
          ·simp only [chunkNO_d8, tl]
        ·refine ⟨tellA chunkNO_t7, _, _, _, tellA_ok (allTold'_iff.1 ?_), chunkNO_y7, dutiesTold_ok ?_⟩
         ·simp only [chunkNO_t7, F54, F61, cut_get, cutp, Int.reduceToNat, pa0, pa1, pa2, pa3, pa4, pa5, pa6, pa7, pa8, pa9, pa10, pa11, pa12, pa13, pa14, pa15, tl]
          omega
         ·simp only [chunkNO_d7, tl]
       ·refine ⟨tellA chunkNO_t6, _, _, _, tellA_ok (allTold'_iff.1 ?_), chunkNO_y6, dutiesTold_ok ?_⟩
        ·simp only [chunkNO_t6, F54, F61, cut_get, cutp, Int.reduceToNat, pa0, pa1, pa2, pa3, pa4, pa5, pa6, pa7, pa8, pa9, pa10, pa11, pa12, pa13, pa14, pa15, tl]
         omega
        ·simp only [chunkNO_d6, tl]
      ·refine ⟨tellA chunkNO_t5, _, _, _, tellA_ok (allTold'_iff.1 ?_), chunkNO_y5, dutiesTold_ok ?_⟩
       ·simp only [chunkNO_t5, F54, F61, cut_get, cutp, Int.reduceToNat, pa0, pa1, pa2, pa3, pa4, pa5, pa6, pa7, pa8, pa9, pa10, pa11, pa12, pa13, pa14, pa15, tl]
        omega
       ·simp only [chunkNO_d5, tl]
     ·refine ⟨tellA chunkNO_t4, _, _, _, tellA_ok (allTold'_iff.1 ?_), chunkNO_y4, dutiesTold_ok ?_⟩
      ·simp only [chunkNO_t4, F54, F61, cut_get, cutp, Int.reduceToNat, pa0, pa1, pa2, pa3, pa4, pa5, pa6, pa7, pa8, pa9, pa10, pa11, pa12, pa13, pa14, pa15, tl]
       omega
      ·simp only [chunkNO_d4, tl]
    ·refine ⟨tellA chunkNO_t3, _, _, _, tellA_ok (allTold'_iff.1 ?_), chunkNO_y3, dutiesTold_ok ?_⟩
     ·simp only [chunkNO_t3, F54, F61, cut_get, cutp, Int.reduceToNat, pa0, pa1, pa2, pa3, pa4, pa5, pa6, pa7, pa8, pa9, pa10, pa11, pa12, pa13, pa14, pa15, tl]
      omega
     ·simp only [chunkNO_d3, tl]
   ·refine ⟨tellA chunkNO_t2, _, _, _, tellA_ok (allTold'_iff.1 ?_), chunkNO_y2, dutiesTold_ok ?_⟩
    ·simp only [chunkNO_t2, F54, F61, cut_get, cutp, Int.reduceToNat, pa0, pa1, pa2, pa3, pa4, pa5, pa6, pa7, pa8, pa9, pa10, pa11, pa12, pa13, pa14, pa15, tl]
     omega
    ·simp only [chunkNO_d2, tl]
  ·refine ⟨tellA chunkNO_t1, _, _, _, tellA_ok (allTold'_iff.1 ?_), chunkNO_y1, dutiesTold_ok ?_⟩
   ·simp only [chunkNO_t1, F54, F61, cut_get, cutp, Int.reduceToNat, pa0, pa1, pa2, pa3, pa4, pa5, pa6, pa7, pa8, pa9, pa10, pa11, pa12, pa13, pa14, pa15, tl]
    omega
   ·simp only [chunkNO_d1, tl]
 ·refine ⟨tellA chunkNO_t0, _, _, _, tellA_ok (allTold'_iff.1 ?_), chunkNO_y0, dutiesTold_ok ?_⟩
  ·simp only [chunkNO_t0, F54, tl]
   omega
  ·simp only [chunkNO_d0, tl]

end Go.Proofs.YtidpndnehbhloaaDoor.Pbo

set_option linter.unusedSimpArgs false
set_option linter.unusedVariables false
namespace Go.Proofs.YtidpndnehbhloaaDoor.Pto
open Go.RowKit Go.Ev Go.Proofs.YtidpndnehbhloaaDoor.Co

open Go.Proofs.YtidpndnehbhloaaDoor.P0
open Go.Proofs.YtidpndnehbhloaaDoor.Pa
open Go.Proofs.YtidpndnehbhloaaDoor.Pm
open Go.Proofs.YtidpndnehbhloaaDoor.Pl
open Go.Proofs.YtidpndnehbhloaaDoor.Pn
open Go.Proofs.YtidpndnehbhloaaDoor.Pt3
open Go.Proofs.YtidpndnehbhloaaDoor.Pu
open Go.Proofs.YtidpndnehbhloaaDoor.Puo
open Go.Proofs.YtidpndnehbhloaaDoor.Pq
open Go.Proofs.YtidpndnehbhloaaDoor.Pqo
open Go.Proofs.YtidpndnehbhloaaDoor.Pgo
open Go.Proofs.YtidpndnehbhloaaDoor.Pb
open Go.Proofs.YtidpndnehbhloaaDoor.Pbo

abbrev vu8Pto (a : E) (j : Int) : AV := .sint .u8 (.bi .sel a (.int j))
abbrev txPto0 : E := (.bi .add (.var 1) (.bi .add (.var 7) (.int 6)))
abbrev txPto1 : E := (.bi .pair (.var 2) (.bi .pair (.var 7) (.int 0)))
abbrev txPto2 : E := (.bi .pair (.var 5) (.bi .pair (.var 1) txPto1))
abbrev zPto0 : E := (.bi .add (.fn 63 txPto2) (.int 20))
abbrev txPto3 : E := (.bi .pair zPto0 (.int 0))
abbrev txPto4 : E := (.bi .pair (.var 5) (.bi .pair txPto0 txPto3))
abbrev zPto1 : E := (.bi .sub (.var 2) (.var 7))
def getMO : CSpec := { args := [.sslice 3 (.var 1) (.var 2) (.var 3) true, .agg [vu8Pto (.var 6) 0, vu8Pto (.var 6) 1, vu8Pto (.var 6) 2, vu8Pto (.var 6) 3, vu8Pto (.var 6) 4, vu8Pto (.var 6) 5, vu8Pto (.var 6) 6, vu8Pto (.var 6) 7, vu8Pto (.var 6) 8, vu8Pto (.var 6) 9, vu8Pto (.var 6) 10, vu8Pto (.var 6) 11, vu8Pto (.var 6) 12, vu8Pto (.var 6) 13, vu8Pto (.var 6) 14, vu8Pto (.var 6) 15, .sint .i64 (.var 7), .sint .i64 (.var 8)]], next := 2, rows := [(3, .eseq ⟨.u8, .var 4, .var 5⟩), (0, .ext cellsG)], pre := [(.le (.bi .add (.var 1) (.var 2)) (.var 4), true), (.le (.var 2) (.int 1000000), true), (.eq (.fn 77 (argsE [.var 5, .var 1, .var 2, .var 7, .var 8, .tr .seg (.var 6) (.int 0) (.int 16)])) (.int 6), true)], res := .tuple [.nilslice, .int .i64 6], frows := [], same := [3] }
abbrev asPto0 : Q × Bool := ((.le (.int 0) (.var 7)), false)
def getMO_t0 : List (Q × Bool) := [asPto0]
def getMO_d0 : List Duty := []
noncomputable abbrev ltPto0 : List (FuncId × CSpec) := [(21, recTO), (21, recBO), (21, recSO), (21, recYO), (22, chunkYO), (22, chunkNO)]
theorem getMO_y0 : endC getMO [(3, 3)] 1000 (callC Tryd.prog (tellA getMO_t0) [] ltPto0 [] 3000 40 9 getMO) = some getMO_d0 := by kernel_rfl
abbrev asPto1 : Q × Bool := ((.le (.int 0) (.var 7)), true)
abbrev asPto2 : Q × Bool := ((.fit .i64 (.var 2)), true)
abbrev asPto3 : Q × Bool := ((.le (.var 7) (.var 2)), false)
def getMO_t1 : List (Q × Bool) := [asPto1, asPto2, asPto3]
def getMO_d1 : List Duty := []
theorem getMO_y1 : endC getMO [(3, 3)] 1000 (callC Tryd.prog (tellA getMO_t1) [] ltPto0 [] 3000 40 9 getMO) = some getMO_d1 := by kernel_rfl
abbrev asPto4 : Q × Bool := ((.le (.var 7) (.var 2)), true)
abbrev asPto5 : Q × Bool := ((.le (.bi .add (.var 1) (.var 2)) (.var 4)), true)
abbrev asPto6 : Q × Bool := ((.le (.var 2) (.int 1000000)), true)
abbrev asPto7 : Q × Bool := ((.le (.int 6) zPto1), false)
abbrev asPto8 : Q × Bool := ((.eq (.int 0) (.var 8)), true)
def getMO_t2 : List (Q × Bool) := [asPto1, asPto2, asPto4, asPto5, asPto6, asPto7, asPto8]
def getMO_d2 : List Duty := []
theorem getMO_y2 : endC getMO [(3, 3)] 1000 (callC Tryd.prog (tellA getMO_t2) [] ltPto0 [] 3000 40 9 getMO) = some getMO_d2 := by kernel_rfl
abbrev asPto9 : Q × Bool := ((.eq (.int 0) (.var 8)), false)
def getMO_t3 : List (Q × Bool) := [asPto1, asPto2, asPto4, asPto5, asPto6, asPto7, asPto9]
def getMO_d3 : List Duty := []
theorem getMO_y3 : endC getMO [(3, 3)] 1000 (callC Tryd.prog (tellA getMO_t3) [] ltPto0 [] 3000 40 9 getMO) = some getMO_d3 := by kernel_rfl
abbrev asPto10 : Q × Bool := ((.le (.int 6) zPto1), true)
abbrev asPto11 : Q × Bool := ((.eq (.fn 63 txPto2) (.int 0)), true)
def getMO_t4 : List (Q × Bool) := [asPto1, asPto2, asPto4, asPto5, asPto6, asPto10, asPto11, asPto8]
def getMO_d4 : List Duty := []
theorem getMO_y4 : endC getMO [(3, 3)] 1000 (callC Tryd.prog (tellA getMO_t4) [] ltPto0 [] 3000 40 9 getMO) = some getMO_d4 := by kernel_rfl
def getMO_t5 : List (Q × Bool) := [asPto1, asPto2, asPto4, asPto5, asPto6, asPto10, asPto11, asPto9]
def getMO_d5 : List Duty := []
theorem getMO_y5 : endC getMO [(3, 3)] 1000 (callC Tryd.prog (tellA getMO_t5) [] ltPto0 [] 3000 40 9 getMO) = some getMO_d5 := by kernel_rfl
abbrev asPto12 : Q × Bool := ((.eq (.fn 63 txPto2) (.int 0)), false)
abbrev asPto13 : Q × Bool := ((.le (.bi .add (.fn 63 txPto2) (.int 26)) zPto1), false)
def getMO_t6 : List (Q × Bool) := [asPto1, asPto2, asPto4, asPto5, asPto6, asPto10, asPto12, asPto13, asPto8]
def getMO_d6 : List Duty := []
theorem getMO_y6 : endC getMO [(3, 3)] 1000 (callC Tryd.prog (tellA getMO_t6) [] ltPto0 [] 3000 40 9 getMO) = some getMO_d6 := by kernel_rfl
def getMO_t7 : List (Q × Bool) := [asPto1, asPto2, asPto4, asPto5, asPto6, asPto10, asPto12, asPto13, asPto9]
def getMO_d7 : List Duty := []
theorem getMO_y7 : endC getMO [(3, 3)] 1000 (callC Tryd.prog (tellA getMO_t7) [] ltPto0 [] 3000 40 9 getMO) = some getMO_d7 := by kernel_rfl
abbrev asPto14 : Q × Bool := ((.le (.bi .add (.fn 63 txPto2) (.int 26)) zPto1), true)
abbrev asPto15 : Q × Bool := ((.le (.bi .add txPto0 zPto0) (.var 4)), true)
abbrev asPto16 : Q × Bool := ((.le (.int 0) txPto0), true)
abbrev asPto17 : Q × Bool := ((.le (.int 0) zPto0), true)
abbrev asPto18 : Q × Bool := ((.le zPto0 (.bi .sub (.var 3) (.bi .add (.var 7) (.int 6)))), true)
abbrev asPto19 : Q × Bool := ((.le (.int 21) zPto0), true)
abbrev asPto20 : Q × Bool := ((.le zPto0 (.int 100000)), true)
abbrev asPto21 : Q × Bool := ((.eq (.fn 64 txPto4) (.int 1)), true)
abbrev asPto22 : Q × Bool := ((.eq (.fn 63 txPto2) (.var 8)), false)
def getMO_t8 : List (Q × Bool) := [asPto1, asPto2, asPto4, asPto5, asPto6, asPto10, asPto12, asPto14, asPto15, asPto16, asPto17, asPto18, asPto19, asPto20, asPto21, asPto22]
def getMO_d8 : List Duty := []
theorem getMO_y8 : endC getMO [(3, 3)] 1000 (callC Tryd.prog (tellA getMO_t8) [] ltPto0 [] 3000 40 9 getMO) = some getMO_d8 := by kernel_rfl
abbrev asPto23 : Q × Bool := ((.eq (.fn 64 txPto4) (.int 1)), false)
def getMO_t9 : List (Q × Bool) := [asPto1, asPto2, asPto4, asPto5, asPto6, asPto10, asPto12, asPto14, asPto15, asPto16, asPto17, asPto18, asPto19, asPto20, asPto23, asPto22]
def getMO_d9 : List Duty := []
theorem getMO_y9 : endC getMO [(3, 3)] 1000 (callC Tryd.prog (tellA getMO_t9) [] ltPto0 [] 3000 40 9 getMO) = some getMO_d9 := by kernel_rfl
theorem getMO_holds : CHolds Tryd.prog 9 getMO F := by
 refine cholds_of sound (tableNil _ _) (specsCons recTO_holds (specsCons recBO_holds (specsCons recSO_holds (specsCons recYO_holds (specsCons chunkYO_holds (specsCons chunkNO_holds (specsNil _ _))))))) (oversNil _ _) (fuel := 3000) (depth := 40) (by kernel_rfl) fun d hp hR hA => ?_
 have hp := allTold'_iff.2 hp
 simp only [getMO, tl] at hp hR hA
 simp only [F77, argsE, tl] at hp
 obtain ⟨hl, hx⟩ := hR
 rw [ask_at (by omega) (by omega) (by omega)] at hp
 have hS := seg_len (d 6).ints
 have hA6 := seg_at (d 6).ints
 generalize List.take 16 (segI (d 6).ints (Int.toNat 0) (Int.toNat 16)) = id at hp hS hA6
 have hq := size_in (prt (d 5).ints ((d 1).toInt + (d 7).toInt) ((d 1).toInt + (d 2).toInt))
 by_cases c0 : (d 7).toInt < 0
 ·refine ⟨tellA getMO_t0, _, _, _, tellA_ok (allTold'_iff.1 ?_), getMO_y0, dutiesTold_ok ?_⟩
  ·simp only [getMO_t0, F63, F64, tl]
   first | omega | (simp only [and_true, true_and]; omega)
  ·simp only [getMO_d0, tl]
 ·by_cases c1 : (d 2).toInt < (d 7).toInt
  ·refine ⟨tellA getMO_t1, _, _, _, tellA_ok (allTold'_iff.1 ?_), getMO_y1, dutiesTold_ok ?_⟩
   ·simp only [getMO_t1, F63, F64, tl]
    first | omega | (simp only [and_true, true_and]; omega)
   ·simp only [getMO_d1, tl]
  ·by_cases c2 : (d 2).toInt - (d 7).toInt < 6
   ·by_cases s : 0 = (d 8).toInt
    ·refine ⟨tellA getMO_t2, _, _, _, tellA_ok (allTold'_iff.1 ?_), getMO_y2, dutiesTold_ok ?_⟩
     ·simp only [getMO_t2, F63, F64, tl]
      first | omega | (simp only [and_true, true_and]; omega)
     ·simp only [getMO_d2, tl]
    ·refine ⟨tellA getMO_t3, _, _, _, tellA_ok (allTold'_iff.1 ?_), getMO_y3, dutiesTold_ok ?_⟩
     ·simp only [getMO_t3, F63, F64, tl]
      first | omega | (simp only [and_true, true_and]; omega)
     ·simp only [getMO_d3, tl]
   ·by_cases c3 : sizeI (prt (d 5).ints ((d 1).toInt + (d 7).toInt) ((d 1).toInt + (d 2).toInt)) = 0
    ·by_cases s : 0 = (d 8).toInt
     ·refine ⟨tellA getMO_t4, _, _, _, tellA_ok (allTold'_iff.1 ?_), getMO_y4, dutiesTold_ok ?_⟩
      ·simp only [getMO_t4, F63, F64, tl]
       first | omega | (simp only [and_true, true_and]; omega)
      ·simp only [getMO_d4, tl]
     ·refine ⟨tellA getMO_t5, _, _, _, tellA_ok (allTold'_iff.1 ?_), getMO_y5, dutiesTold_ok ?_⟩
      ·simp only [getMO_t5, F63, F64, tl]
       first | omega | (simp only [and_true, true_and]; omega)
      ·simp only [getMO_d5, tl]
    ·by_cases c4 : (d 2).toInt - (d 7).toInt < sizeI (prt (d 5).ints ((d 1).toInt + (d 7).toInt) ((d 1).toInt + (d 2).toInt)) + 26
     ·by_cases s : 0 = (d 8).toInt
      ·refine ⟨tellA getMO_t6, _, _, _, tellA_ok (allTold'_iff.1 ?_), getMO_y6, dutiesTold_ok ?_⟩
       ·simp only [getMO_t6, F63, F64, tl]
        first | omega | (simp only [and_true, true_and]; omega)
       ·simp only [getMO_d6, tl]
      ·refine ⟨tellA getMO_t7, _, _, _, tellA_ok (allTold'_iff.1 ?_), getMO_y7, dutiesTold_ok ?_⟩
       ·simp only [getMO_t7, F63, F64, tl]
        first | omega | (simp only [and_true, true_and]; omega)
       ·simp only [getMO_d7, tl]
     ·by_cases c5 : bodyI (prt (d 5).ints ((d 1).toInt + ((d 7).toInt + 6)) ((d 1).toInt + ((d 7).toInt + 6) + (sizeI (prt (d 5).ints ((d 1).toInt + (d 7).toInt) ((d 1).toInt + (d 2).toInt)) + 20))) = 1
      ·have c6 : sizeI (prt (d 5).ints ((d 1).toInt + (d 7).toInt) ((d 1).toInt + (d 2).toInt)) ≠ (d 8).toInt := fun h => by
        rw [if_neg (by omega), if_neg (by omega)] at hp
        split at hp <;> omega
       refine ⟨tellA getMO_t8, _, _, _, tellA_ok (allTold'_iff.1 ?_), getMO_y8, dutiesTold_ok ?_⟩
       ·simp only [getMO_t8, F63, F64, tl]
        first | omega | (simp only [and_true, true_and]; omega)
       ·simp only [getMO_d8, tl]
      ·have c6 : sizeI (prt (d 5).ints ((d 1).toInt + (d 7).toInt) ((d 1).toInt + (d 2).toInt)) ≠ (d 8).toInt := fun h => by
        rw [if_neg (by omega), if_neg (by omega)] at hp
        split at hp <;> omega
       refine ⟨tellA getMO_t9, _, _, _, tellA_ok (allTold'_iff.1 ?_), getMO_y9, dutiesTold_ok ?_⟩
       ·simp only [getMO_t9, F63, F64, tl]
        first | omega | (simp only [and_true, true_and]; omega)
       ·simp only [getMO_d9, tl]

end Go.Proofs.YtidpndnehbhloaaDoor.Pto
