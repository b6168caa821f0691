/-
 Contracts of this seat: what loops and calls leave, for all inputs. No condition.
-/
import Derived.Test.YtidpndnehbhloaaDoorSycp
import Derived.Test.YtidpndnehbhloaaDoorCo
import Derived.Test.YtidpndnehbhloaaDoorP0
import Derived.Test.YtidpndnehbhloaaDoorPa
import Derived.Test.YtidpndnehbhloaaDoorPm
import Derived.Test.YtidpndnehbhloaaDoorPl
set_option linter.unusedSimpArgs false
set_option linter.unusedVariables false
namespace Go.Proofs.YtidpndnehbhloaaDoor.Pgo
open Go.RowKit Go.Ev Go.Proofs.YtidpndnehbhloaaDoor.Co

open Go.Proofs.YtidpndnehbhloaaDoor.P0
open Go.Proofs.YtidpndnehbhloaaDoor.Pa
open Go.Proofs.YtidpndnehbhloaaDoor.Pm
open Go.Proofs.YtidpndnehbhloaaDoor.Pl

abbrev zPgo0 : E := (.bi .add (.var 2) (.int (-4)))
abbrev txPgo0 : E := (.bi .add (.var 1) zPgo0)
abbrev txPgo1 : E := (.bi .sel (.var 5) (.bi .add txPgo0 (.int 1)))
abbrev txPgo2 : E := (.bi .sel (.var 5) (.bi .add txPgo0 (.int 2)))
abbrev txPgo3 : E := (.bi .sel (.var 5) (.bi .add txPgo0 (.int 3)))
abbrev txPgo4 : E := (.bi .pair (.var 1) (.bi .pair txPgo0 (.int 0)))
abbrev txPgo5 : E := (.bi .pair (.int 0) (.bi .pair (.var 5) txPgo4))
abbrev txPgo6 : E := (.bi (.iop .shr .u32) (.fn 42 txPgo5) (.int 8))
abbrev txPgo7 : E := (.bi (.iop .shr .u32) (.fn 42 txPgo5) (.int 16))
abbrev txPgo8 : E := (.bi (.iop .shr .u32) (.fn 42 txPgo5) (.int 24))
abbrev zPgo1 : E := (.fn 54 (argsE [.var 5, .var 1, .bi .add (.var 1) (.var 2)]))
def gchkYO : CSpec := { args := [.sslice 3 (.var 1) (.var 2) (.var 3) true], next := 2, rows := [(3, .eseq ⟨.u8, .var 4, .var 5⟩)], pre := [(.le (.bi .add (.var 1) (.var 2)) (.var 4), true), (.le (.int 5) (.var 2), true), (.le (.var 2) (.int 1000000), true), (.eq zPgo1 (.int 1), true)], res := .tuple [.sslice 5 (.int 0) zPgo0 zPgo0 true, .int .i64 0], frows := [(5, .seq ⟨5, .u8, .bi .add (.var 2) (.int (-4)), .tr .cut (.var 5) (.var 1) txPgo0, true, false⟩)], same := [] }
abbrev asPgo0 : Q × Bool := ((.fit .i64 (.var 2)), true)
abbrev asPgo1 : Q × Bool := ((.fit .i64 zPgo0), true)
abbrev asPgo2 : Q × Bool := ((.le (.int 0) zPgo0), true)
abbrev asPgo3 : Q × Bool := ((.le zPgo0 (.var 3)), true)
abbrev asPgo4 : Q × Bool := ((.le zPgo0 (.var 2)), true)
abbrev asPgo5 : Q × Bool := ((.le (.var 2) (.var 3)), true)
abbrev asPgo6 : Q × Bool := ((.le (.int 4) (.bi .sub (.var 2) zPgo0)), true)
abbrev asPgo7 : Q × Bool := ((.le (.int 0) txPgo0), true)
abbrev asPgo8 : Q × Bool := ((.le (.bi .add txPgo0 (.int 4)) (.var 4)), true)
abbrev asPgo9 : Q × Bool := ((.le txPgo0 (.var 4)), true)
abbrev asPgo10 : Q × Bool := ((.le zPgo0 (.int 1000000)), true)
abbrev asPgo11 : Q × Bool := ((.eq (.un (.wrap .u8) (.fn 42 txPgo5)) (.bi .sel (.var 5) txPgo0)), true)
abbrev asPgo12 : Q × Bool := ((.eq (.un (.wrap .u8) txPgo6) txPgo1), true)
abbrev asPgo13 : Q × Bool := ((.eq (.un (.wrap .u8) txPgo7) txPgo2), true)
abbrev asPgo14 : Q × Bool := ((.eq (.un (.wrap .u8) txPgo8) txPgo3), true)
abbrev asPgo15 : Q × Bool := ((.le (.bi .mul zPgo0 (.int 2)) (.int 281474976710656)), true)
def gchkYO_t0 : List (Q × Bool) := [asPgo0, asPgo1, asPgo2, asPgo3, asPgo4, asPgo5, asPgo6, asPgo7, asPgo8, asPgo9, asPgo10, asPgo11, asPgo12, asPgo13, asPgo14, asPgo15]
def gchkYO_d0 : List Duty := []
noncomputable abbrev ltPgo0 : List LEntry := [⟨41, [4, 1, 0, 1, 1, 1], moreLO⟩]
theorem gchkYO_y0 : endC gchkYO [(5, 9)] 1000 (callC Tryd.prog (tellA gchkYO_t0) ltPgo0 [(45, tableC), (41, moreCO)] [] 3000 40 28 gchkYO) = some gchkYO_d0 := by kernel_rfl
theorem gchkYO_holds : CHolds Tryd.prog 28 gchkYO F := by
 refine cholds_of sound (tableCons moreLO_holds (tableNil _ _)) (specsCons tableC_holds (specsCons moreCO_holds (specsNil _ _))) (oversNil _ _) (fuel := 3000) (depth := 40) (by kernel_rfl) fun d hp hR hA => ?_
 have hp := allTold'_iff.2 hp
 simp only [gchkYO, tl] at hp hR hA
 simp only [F54, argsE, tl] at hp
 obtain ⟨hl, hx⟩ := hR
 have g := good_iff (x := (d 5).ints) (o := (d 1).toInt) (l := (d 2).toInt) (by omega) (by omega) (by omega)
 obtain ⟨c0, c1, c2, c3⟩ := g.1 hp.2.2.2
 refine ⟨tellA gchkYO_t0, _, _, _, tellA_ok (allTold'_iff.1 ?_), gchkYO_y0, dutiesTold_ok ?_⟩
 ·simp only [gchkYO_t0, F42, tl]
  and_intros <;> first | omega | exact c0 | exact c1 | exact c2 | exact c3 | rfl
 ·trivial

def gchkNO : CSpec := { args := [.sslice 3 (.var 1) (.var 2) (.var 3) true], next := 2, rows := [(3, .eseq ⟨.u8, .var 4, .var 5⟩)], pre := [(.le (.bi .add (.var 1) (.var 2)) (.var 4), true), (.le (.int 5) (.var 2), true), (.le (.var 2) (.int 1000000), true), (.eq zPgo1 (.int 1), false)], res := .tuple [.nilslice, .int .i64 4], frows := [], same := [] }
abbrev asPgo16 : Q × Bool := ((.eq (.un (.wrap .u8) (.fn 42 txPgo5)) (.bi .sel (.var 5) txPgo0)), false)
def gchkNO_t0 : List (Q × Bool) := [asPgo0, asPgo1, asPgo2, asPgo3, asPgo4, asPgo5, asPgo6, asPgo7, asPgo8, asPgo9, asPgo10, asPgo16]
def gchkNO_d0 : List Duty := []
theorem gchkNO_y0 : endC gchkNO [] 1000 (callC Tryd.prog (tellA gchkNO_t0) ltPgo0 [(45, tableC), (41, moreCO)] [] 3000 40 28 gchkNO) = some gchkNO_d0 := by kernel_rfl
abbrev asPgo17 : Q × Bool := ((.eq (.un (.wrap .u8) txPgo6) txPgo1), false)
def gchkNO_t1 : List (Q × Bool) := [asPgo0, asPgo1, asPgo2, asPgo3, asPgo4, asPgo5, asPgo6, asPgo7, asPgo8, asPgo9, asPgo10, asPgo11, asPgo17]
def gchkNO_d1 : List Duty := []
theorem gchkNO_y1 : endC gchkNO [] 1000 (callC Tryd.prog (tellA gchkNO_t1) ltPgo0 [(45, tableC), (41, moreCO)] [] 3000 40 28 gchkNO) = some gchkNO_d1 := by kernel_rfl
abbrev asPgo18 : Q × Bool := ((.eq (.un (.wrap .u8) txPgo7) txPgo2), false)
def gchkNO_t2 : List (Q × Bool) := [asPgo0, asPgo1, asPgo2, asPgo3, asPgo4, asPgo5, asPgo6, asPgo7, asPgo8, asPgo9, asPgo10, asPgo11, asPgo12, asPgo18]
def gchkNO_d2 : List Duty := []
theorem gchkNO_y2 : endC gchkNO [] 1000 (callC Tryd.prog (tellA gchkNO_t2) ltPgo0 [(45, tableC), (41, moreCO)] [] 3000 40 28 gchkNO) = some gchkNO_d2 := by kernel_rfl
abbrev asPgo19 : Q × Bool := ((.eq (.un (.wrap .u8) txPgo8) txPgo3), false)
def gchkNO_t3 : List (Q × Bool) := [asPgo0, asPgo1, asPgo2, asPgo3, asPgo4, asPgo5, asPgo6, asPgo7, asPgo8, asPgo9, asPgo10, asPgo11, asPgo12, asPgo13, asPgo19]
def gchkNO_d3 : List Duty := []
theorem gchkNO_y3 : endC gchkNO [] 1000 (callC Tryd.prog (tellA gchkNO_t3) ltPgo0 [(45, tableC), (41, moreCO)] [] 3000 40 28 gchkNO) = some gchkNO_d3 := by kernel_rfl
theorem gchkNO_holds : CHolds Tryd.prog 28 gchkNO F := by
 refine cholds_of sound (tableCons moreLO_holds (tableNil _ _)) (specsCons tableC_holds (specsCons moreCO_holds (specsNil _ _))) (oversNil _ _) (fuel := 3000) (depth := 40) (by kernel_rfl) fun d hp hR hA => ?_
 have hp := allTold'_iff.2 hp
 simp only [gchkNO, tl] at hp hR hA
 simp only [F54, argsE, tl] at hp
 obtain ⟨hl, hx⟩ := hR
 have g := good_iff (x := (d 5).ints) (o := (d 1).toInt) (l := (d 2).toInt) (by omega) (by omega) (by omega)
 by_cases c0 : IntKind.u8.wrap (notI (moreI (notI 0) (prt (d 5).ints (d 1).toInt ((d 1).toInt + ((d 2).toInt + -4))))) = ((d 5).ints[((d 1).toInt + ((d 2).toInt + -4)).toNat]?).getD 0
 ·by_cases c1 : IntKind.u8.wrap (iopI .shr .u32 (notI (moreI (notI 0) (prt (d 5).ints (d 1).toInt ((d 1).toInt + ((d 2).toInt + -4))))) 8) = ((d 5).ints[((d 1).toInt + ((d 2).toInt + -4) + 1).toNat]?).getD 0
  ·by_cases c2 : IntKind.u8.wrap (iopI .shr .u32 (notI (moreI (notI 0) (prt (d 5).ints (d 1).toInt ((d 1).toInt + ((d 2).toInt + -4))))) 16) = ((d 5).ints[((d 1).toInt + ((d 2).toInt + -4) + 2).toNat]?).getD 0
   ·by_cases c3 : IntKind.u8.wrap (iopI .shr .u32 (notI (moreI (notI 0) (prt (d 5).ints (d 1).toInt ((d 1).toInt + ((d 2).toInt + -4))))) 24) = ((d 5).ints[((d 1).toInt + ((d 2).toInt + -4) + 3).toNat]?).getD 0
    ·exact (hp.2.2.2 (g.2 ⟨c0, c1, c2, c3⟩)).elim
    ·refine ⟨tellA gchkNO_t3, _, _, _, tellA_ok (allTold'_iff.1 ?_), gchkNO_y3, dutiesTold_ok ?_⟩
     ·simp only [gchkNO_t3, F42, tl]
      and_intros <;> first | omega | exact c0 | exact c1 | exact c2 | exact c3 | rfl
     ·trivial
   ·refine ⟨tellA gchkNO_t2, _, _, _, tellA_ok (allTold'_iff.1 ?_), gchkNO_y2, dutiesTold_ok ?_⟩
    ·simp only [gchkNO_t2, F42, tl]
     and_intros <;> first | omega | exact c0 | exact c1 | exact c2 | exact c3 | rfl
    ·trivial
  ·refine ⟨tellA gchkNO_t1, _, _, _, tellA_ok (allTold'_iff.1 ?_), gchkNO_y1, dutiesTold_ok ?_⟩
   ·simp only [gchkNO_t1, F42, tl]
    and_intros <;> first | omega | exact c0 | exact c1 | exact c2 | exact c3 | rfl
   ·trivial
 ·refine ⟨tellA gchkNO_t0, _, _, _, tellA_ok (allTold'_iff.1 ?_), gchkNO_y0, dutiesTold_ok ?_⟩
  ·simp only [gchkNO_t0, F42, tl]
   and_intros <;> first | omega | exact c0 | exact c1 | exact c2 | exact c3 | rfl
  ·trivial

end Go.Proofs.YtidpndnehbhloaaDoor.Pgo
