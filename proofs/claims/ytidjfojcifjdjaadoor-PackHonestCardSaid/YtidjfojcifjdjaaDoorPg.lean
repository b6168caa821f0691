/-
 Contracts of this seat: what loops and calls leave, for all inputs. No condition.
-/
import Derived.Test.YtidjfojcifjdjaaDoorSycp
import Derived.Test.YtidjfojcifjdjaaDoorCo
import Derived.Test.YtidjfojcifjdjaaDoorP0
import Derived.Test.YtidjfojcifjdjaaDoorPa
import Derived.Test.YtidjfojcifjdjaaDoorPm
import Derived.Test.YtidjfojcifjdjaaDoorPl
set_option linter.unusedSimpArgs false
set_option linter.unusedVariables false
namespace Go.Proofs.YtidjfojcifjdjaaDoor.Pg
open Go.RowKit Go.Ev Go.Proofs.YtidjfojcifjdjaaDoor.Co

open Go.Proofs.YtidjfojcifjdjaaDoor.P0
open Go.Proofs.YtidjfojcifjdjaaDoor.Pa
open Go.Proofs.YtidjfojcifjdjaaDoor.Pm
open Go.Proofs.YtidjfojcifjdjaaDoor.Pl

abbrev zPg0 : E := (.bi .add (.var 2) (.int (-4)))
abbrev txPg0 : E := (.bi .add (.var 1) zPg0)
abbrev txPg1 : E := (.bi .sel (.var 5) (.bi .add txPg0 (.int 1)))
abbrev txPg2 : E := (.bi .sel (.var 5) (.bi .add txPg0 (.int 2)))
abbrev txPg3 : E := (.bi .sel (.var 5) (.bi .add txPg0 (.int 3)))
abbrev txPg4 : E := (.bi .pair (.var 1) (.bi .pair txPg0 (.int 0)))
abbrev txPg5 : E := (.bi .pair (.int 0) (.bi .pair (.var 5) txPg4))
abbrev txPg6 : E := (.bi (.iop .shr .u32) (.fn 42 txPg5) (.int 8))
abbrev txPg7 : E := (.bi (.iop .shr .u32) (.fn 42 txPg5) (.int 16))
abbrev txPg8 : E := (.bi (.iop .shr .u32) (.fn 42 txPg5) (.int 24))
abbrev zPg1 : E := (.fn 54 (argsE [.var 5, .var 1, .bi .add (.var 1) (.var 2)]))
def gchkY : CSpec := { args := [.sslice 3 (.var 1) (.var 2) (.var 3) false], next := 2, rows := [(3, .eseq ⟨.u8, .var 4, .var 5⟩)], pre := [(.le (.bi .add (.var 1) (.var 2)) (.var 4), true), (.le (.int 5) (.var 2), true), (.le (.var 2) (.int 1000000), true), (.eq zPg1 (.int 1), true)], res := .tuple [.sslice 5 (.int 0) zPg0 zPg0 true, .int .i64 0], frows := [(5, .seq ⟨5, .u8, .bi .add (.var 2) (.int (-4)), .tr .cut (.var 5) (.var 1) txPg0, true, false⟩)], same := [] }
abbrev asPg0 : Q × Bool := ((.fit .i64 (.var 2)), true)
abbrev asPg1 : Q × Bool := ((.fit .i64 zPg0), true)
abbrev asPg2 : Q × Bool := ((.le (.int 0) zPg0), true)
abbrev asPg3 : Q × Bool := ((.le zPg0 (.var 3)), true)
abbrev asPg4 : Q × Bool := ((.le zPg0 (.var 2)), true)
abbrev asPg5 : Q × Bool := ((.le (.var 2) (.var 3)), true)
abbrev asPg6 : Q × Bool := ((.le (.int 4) (.bi .sub (.var 2) zPg0)), true)
abbrev asPg7 : Q × Bool := ((.le (.int 0) txPg0), true)
abbrev asPg8 : Q × Bool := ((.le (.bi .add txPg0 (.int 4)) (.var 4)), true)
abbrev asPg9 : Q × Bool := ((.le txPg0 (.var 4)), true)
abbrev asPg10 : Q × Bool := ((.le zPg0 (.int 1000000)), true)
abbrev asPg11 : Q × Bool := ((.eq (.un (.wrap .u8) (.fn 42 txPg5)) (.bi .sel (.var 5) txPg0)), true)
abbrev asPg12 : Q × Bool := ((.eq (.un (.wrap .u8) txPg6) txPg1), true)
abbrev asPg13 : Q × Bool := ((.eq (.un (.wrap .u8) txPg7) txPg2), true)
abbrev asPg14 : Q × Bool := ((.eq (.un (.wrap .u8) txPg8) txPg3), true)
abbrev asPg15 : Q × Bool := ((.le (.bi .mul zPg0 (.int 2)) (.int 281474976710656)), true)
def gchkY_t0 : List (Q × Bool) := [asPg0, asPg1, asPg2, asPg3, asPg4, asPg5, asPg6, asPg7, asPg8, asPg9, asPg10, asPg11, asPg12, asPg13, asPg14, asPg15]
def gchkY_d0 : List Duty := []
noncomputable abbrev ltPg0 : List LEntry := [⟨54, [4, 1, 0, 1, 1, 1], moreL⟩]
theorem gchkY_y0 : endC gchkY [(5, 9)] 1000 (callC Tryd.prog (tellA gchkY_t0) ltPg0 [(62, tableC), (54, moreC)] [] 3000 40 49 gchkY) = some gchkY_d0 := by kernel_rfl
theorem gchkY_holds : CHolds Tryd.prog 49 gchkY F := by
 refine cholds_of sound (tableCons moreL_holds (tableNil _ _)) (specsCons tableC_holds (specsCons moreC_holds (specsNil _ _))) (oversNil _ _) (fuel := 3000) (depth := 40) (by kernel_rfl) fun d hp hR hA => ?_
 have hp := allTold'_iff.2 hp
 simp only [gchkY, tl] at hp hR hA
 simp only [F54, argsE, tl] at hp
 obtain ⟨hl, hx⟩ := hR
 have g := good_iff (x := (d 5).ints) (o := (d 1).toInt) (l := (d 2).toInt) (by omega) (by omega) (by omega)
 obtain ⟨c0, c1, c2, c3⟩ := g.1 hp.2.2.2
 refine ⟨tellA gchkY_t0, _, _, _, tellA_ok (allTold'_iff.1 ?_), gchkY_y0, dutiesTold_ok ?_⟩
 ·simp only [gchkY_t0, F42, tl]
  and_intros <;> first | omega | exact c0 | exact c1 | exact c2 | exact c3 | rfl
 ·trivial

def gchkN : CSpec := { args := [.sslice 3 (.var 1) (.var 2) (.var 3) false], next := 2, rows := [(3, .eseq ⟨.u8, .var 4, .var 5⟩)], pre := [(.le (.bi .add (.var 1) (.var 2)) (.var 4), true), (.le (.int 5) (.var 2), true), (.le (.var 2) (.int 1000000), true), (.eq zPg1 (.int 1), false)], res := .tuple [.nilslice, .int .i64 4], frows := [], same := [] }
abbrev asPg16 : Q × Bool := ((.eq (.un (.wrap .u8) (.fn 42 txPg5)) (.bi .sel (.var 5) txPg0)), false)
def gchkN_t0 : List (Q × Bool) := [asPg0, asPg1, asPg2, asPg3, asPg4, asPg5, asPg6, asPg7, asPg8, asPg9, asPg10, asPg16]
def gchkN_d0 : List Duty := []
theorem gchkN_y0 : endC gchkN [] 1000 (callC Tryd.prog (tellA gchkN_t0) ltPg0 [(62, tableC), (54, moreC)] [] 3000 40 49 gchkN) = some gchkN_d0 := by kernel_rfl
abbrev asPg17 : Q × Bool := ((.eq (.un (.wrap .u8) txPg6) txPg1), false)
def gchkN_t1 : List (Q × Bool) := [asPg0, asPg1, asPg2, asPg3, asPg4, asPg5, asPg6, asPg7, asPg8, asPg9, asPg10, asPg11, asPg17]
def gchkN_d1 : List Duty := []
theorem gchkN_y1 : endC gchkN [] 1000 (callC Tryd.prog (tellA gchkN_t1) ltPg0 [(62, tableC), (54, moreC)] [] 3000 40 49 gchkN) = some gchkN_d1 := by kernel_rfl
abbrev asPg18 : Q × Bool := ((.eq (.un (.wrap .u8) txPg7) txPg2), false)
def gchkN_t2 : List (Q × Bool) := [asPg0, asPg1, asPg2, asPg3, asPg4, asPg5, asPg6, asPg7, asPg8, asPg9, asPg10, asPg11, asPg12, asPg18]
def gchkN_d2 : List Duty := []
theorem gchkN_y2 : endC gchkN [] 1000 (callC Tryd.prog (tellA gchkN_t2) ltPg0 [(62, tableC), (54, moreC)] [] 3000 40 49 gchkN) = some gchkN_d2 := by kernel_rfl
abbrev asPg19 : Q × Bool := ((.eq (.un (.wrap .u8) txPg8) txPg3), false)
def gchkN_t3 : List (Q × Bool) := [asPg0, asPg1, asPg2, asPg3, asPg4, asPg5, asPg6, asPg7, asPg8, asPg9, asPg10, asPg11, asPg12, asPg13, asPg19]
def gchkN_d3 : List Duty := []
theorem gchkN_y3 : endC gchkN [] 1000 (callC Tryd.prog (tellA gchkN_t3) ltPg0 [(62, tableC), (54, moreC)] [] 3000 40 49 gchkN) = some gchkN_d3 := by kernel_rfl
theorem gchkN_holds : CHolds Tryd.prog 49 gchkN F := by
 refine cholds_of sound (tableCons moreL_holds (tableNil _ _)) (specsCons tableC_holds (specsCons moreC_holds (specsNil _ _))) (oversNil _ _) (fuel := 3000) (depth := 40) (by kernel_rfl) fun d hp hR hA => ?_
 have hp := allTold'_iff.2 hp
 simp only [gchkN, tl] at hp hR hA
 simp only [F54, argsE, tl] at hp
 obtain ⟨hl, hx⟩ := hR
 have g := good_iff (x := (d 5).ints) (o := (d 1).toInt) (l := (d 2).toInt) (by omega) (by omega) (by omega)
 by_cases c0 : IntKind.u8.wrap (notI (moreI (notI 0) (prt (d 5).ints (d 1).toInt ((d 1).toInt + ((d 2).toInt + -4))))) = ((d 5).ints[((d 1).toInt + ((d 2).toInt + -4)).toNat]?).getD 0
 ·by_cases c1 : IntKind.u8.wrap (iopI .shr .u32 (notI (moreI (notI 0) (prt (d 5).ints (d 1).toInt ((d 1).toInt + ((d 2).toInt + -4))))) 8) = ((d 5).ints[((d 1).toInt + ((d 2).toInt + -4) + 1).toNat]?).getD 0
  ·by_cases c2 : IntKind.u8.wrap (iopI .shr .u32 (notI (moreI (notI 0) (prt (d 5).ints (d 1).toInt ((d 1).toInt + ((d 2).toInt + -4))))) 16) = ((d 5).ints[((d 1).toInt + ((d 2).toInt + -4) + 2).toNat]?).getD 0
   ·by_cases c3 : IntKind.u8.wrap (iopI .shr .u32 (notI (moreI (notI 0) (prt (d 5).ints (d 1).toInt ((d 1).toInt + ((d 2).toInt + -4))))) 24) = ((d 5).ints[((d 1).toInt + ((d 2).toInt + -4) + 3).toNat]?).getD 0
    ·exact (hp.2.2.2 (g.2 ⟨c0, c1, c2, c3⟩)).elim
    ·refine ⟨tellA gchkN_t3, _, _, _, tellA_ok (allTold'_iff.1 ?_), gchkN_y3, dutiesTold_ok ?_⟩
     ·simp only [gchkN_t3, F42, tl]
      and_intros <;> first | omega | exact c0 | exact c1 | exact c2 | exact c3 | rfl
     ·trivial
   ·refine ⟨tellA gchkN_t2, _, _, _, tellA_ok (allTold'_iff.1 ?_), gchkN_y2, dutiesTold_ok ?_⟩
    ·simp only [gchkN_t2, F42, tl]
     and_intros <;> first | omega | exact c0 | exact c1 | exact c2 | exact c3 | rfl
    ·trivial
  ·refine ⟨tellA gchkN_t1, _, _, _, tellA_ok (allTold'_iff.1 ?_), gchkN_y1, dutiesTold_ok ?_⟩
   ·simp only [gchkN_t1, F42, tl]
    and_intros <;> first | omega | exact c0 | exact c1 | exact c2 | exact c3 | rfl
   ·trivial
 ·refine ⟨tellA gchkN_t0, _, _, _, tellA_ok (allTold'_iff.1 ?_), gchkN_y0, dutiesTold_ok ?_⟩
  ·simp only [gchkN_t0, F42, tl]
   and_intros <;> first | omega | exact c0 | exact c1 | exact c2 | exact c3 | rfl
  ·trivial

end Go.Proofs.YtidjfojcifjdjaaDoor.Pg
