/-
 Contracts of this seat: what loops and calls leave, for all inputs. No condition.
-/
import Derived.Test.YtidjfojcifjdjaaDoorSycp
import Derived.Test.YtidjfojcifjdjaaDoorCo
import Derived.Test.YtidjfojcifjdjaaDoorP0
import Derived.Test.YtidjfojcifjdjaaDoorPa
import Derived.Test.YtidjfojcifjdjaaDoorPm
import Derived.Test.YtidjfojcifjdjaaDoorPl
set_option linter.unusedSimpArgs false
set_option linter.unusedVariables false
namespace Go.Proofs.YtidjfojcifjdjaaDoor.Pb
open Go.RowKit Go.Ev Go.Proofs.YtidjfojcifjdjaaDoor.Co

open Go.Proofs.YtidjfojcifjdjaaDoor.P0
open Go.Proofs.YtidjfojcifjdjaaDoor.Pa
open Go.Proofs.YtidjfojcifjdjaaDoor.Pm
open Go.Proofs.YtidjfojcifjdjaaDoor.Pl

abbrev txPb0 : E := (.un (.wrap .u8) (.bi (.iop .shr .i64) (.var 0) (.int 8)))
abbrev zPb1 : E := (.un (.wrap .u8) (.var 0))
abbrev txPb1 : E := (.bi (.iop .xor .u8) (.int 255) zPb1)
abbrev txPb2 : E := (.un .one (.bi (.iop .xor .u8) (.int 255) txPb0))
abbrev txPb3 : E := (.bi .app txPb2 (.bi .app (.un .one txPb1) (.lits [0, 0])))
abbrev txPb4 : E := (.bi .app (.un .one zPb1) txPb3)
abbrev txPb5 : E := (.bi .pair (.bi .app (.un .one txPb0) txPb4) (.bi .pair (.int 0) (.bi .pair (.bi .add (.int 0) (.int 4)) (.int 0))))
abbrev zPb0 : E := (.fn 60 (.bi .pair (.var 0) (.int 0)))
def headC : CSpec := { args := [.sint .i64 (.var 0)], next := 0, rows := [], pre := [(.le (.int 0) (.var 0), true), (.le (.var 0) (.int 65535), true)], res := .agg [.sint .u8 (.bi .sel (.fn 60 (argsE [.var 0])) (.int 0)), .sint .u8 (.bi .sel (.fn 60 (argsE [.var 0])) (.int 1)), .sint .u8 (.bi .sel (.fn 60 (argsE [.var 0])) (.int 2)), .sint .u8 (.bi .sel (.fn 60 (argsE [.var 0])) (.int 3)), .sint .u8 (.bi .sel (.fn 60 (argsE [.var 0])) (.int 4)), .sint .u8 (.bi .sel (.fn 60 (argsE [.var 0])) (.int 5))], frows := [], same := [] }
abbrev asPb0 : Q × Bool := ((.le (.bi .add (.int 0) (.int 4)) (.int 6)), true)
def headC_t0 : List (Q × Bool) := [asPb0]
def headC_d0 : List Duty := [(true, txPb0, (.bi .sel zPb0 (.int 0))), (true, zPb1, (.bi .sel zPb0 (.int 1))), (true, (.bi (.iop .xor .u8) (.int 255) txPb0), (.bi .sel zPb0 (.int 2))), (true, txPb1, (.bi .sel zPb0 (.int 3))), (true, (.un (.wrap .u8) (.fn 42 (.bi .pair (.int 0) txPb5))), (.bi .sel zPb0 (.int 4))), (true, (.un (.wrap .u8) (.bi (.iop .shr .u32) (.fn 42 (.bi .pair (.int 0) txPb5)) (.int 8))), (.bi .sel zPb0 (.int 5)))]
theorem headC_y0 : endC headC [] 1000 (callC Tryd.prog (tellA headC_t0) [] [(62, tableC), (54, moreC), (54, moreCO)] [] 3000 40 31 headC) = some headC_d0 := by kernel_rfl
theorem headC_holds : CHolds Tryd.prog 31 headC F := by
 refine cholds_of sound (tableNil _ _) (specsCons tableC_holds (specsCons moreC_holds (specsCons moreCO_holds (specsNil _ _)))) (oversNil _ _) (fuel := 3000) (depth := 40) (by kernel_rfl) fun d hp hR hA => ?_
 have hp := allTold'_iff.2 hp
 simp only [headC, tl] at hp hR hA
 have hw := wrapm (n := (d 0).toInt) (by omega)
 have hw2 := wrapm (n := (d 0).toInt / 256) (by omega)
 have x1 := xor255 (c := (d 0).toInt / 256 % 256) (by omega)
 have x2 := xor255 (c := (d 0).toInt % 256) (by omega)
 refine ⟨tellA headC_t0, _, _, _, tellA_ok (allTold'_iff.1 ?_), headC_y0, dutiesTold_ok ?_⟩
 ·simp only [headC_t0, tl]
  omega
 ·simp only [headC_d0, F60, F42, shr8, hw, hw2, x1, x2, tl]
  have e : ∀ (a b c e : Int), prt (D.ints (D.list ([D.int a] ++ ([D.int b] ++ ([D.int c] ++ ([D.int e] ++ (D.ofInts [0, 0]).toList)))))) 0 (0 + 4) = [a, b, c, e] := fun _ _ _ _ => rfl
  have hm : (d 0).toInt / 256 % 256 = (d 0).toInt / 256 := by omega
  simp only [e, hm]
  and_intros <;> rfl

end Go.Proofs.YtidjfojcifjdjaaDoor.Pb
