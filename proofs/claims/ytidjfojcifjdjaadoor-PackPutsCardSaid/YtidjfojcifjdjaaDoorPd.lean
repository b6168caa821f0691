/-
 Contracts of this seat: what loops and calls leave, for all inputs. No condition.
-/
import Derived.Test.YtidjfojcifjdjaaDoorSycp
import Derived.Test.YtidjfojcifjdjaaDoorCo
import Derived.Test.YtidjfojcifjdjaaDoorP0
import Derived.Test.YtidjfojcifjdjaaDoorPa
import Derived.Test.YtidjfojcifjdjaaDoorPm
import Derived.Test.YtidjfojcifjdjaaDoorPl
import Derived.Test.YtidjfojcifjdjaaDoorPu
import Derived.Test.YtidjfojcifjdjaaDoorPq
import Derived.Test.YtidjfojcifjdjaaDoorPb
set_option linter.unusedSimpArgs false
set_option linter.unusedVariables false
namespace Go.Proofs.YtidjfojcifjdjaaDoor.Pd
open Go.RowKit Go.Ev Go.Proofs.YtidjfojcifjdjaaDoor.Co

open Go.Proofs.YtidjfojcifjdjaaDoor.P0
open Go.Proofs.YtidjfojcifjdjaaDoor.Pa
open Go.Proofs.YtidjfojcifjdjaaDoor.Pm
open Go.Proofs.YtidjfojcifjdjaaDoor.Pl
open Go.Proofs.YtidjfojcifjdjaaDoor.Pn
open Go.Proofs.YtidjfojcifjdjaaDoor.Pu
open Go.Proofs.YtidjfojcifjdjaaDoor.Pud
open Go.Proofs.YtidjfojcifjdjaaDoor.Pq
open Go.Proofs.YtidjfojcifjdjaaDoor.Pqd
open Go.Proofs.YtidjfojcifjdjaaDoor.Pb

abbrev zPd1 : E := (.bi .add (.var 2) (.int 16))
abbrev txPd0 : E := (.bi .add zPd1 (.int 10))
abbrev txPd1 : E := (.bi .pair (.var 5) (.bi .pair (.var 1) (.bi .pair (.var 2) (.int 0))))
abbrev zPd0 : E := (.fn 61 (argsE [.var 5, .var 1, .var 2]))
abbrev zPd2 : E := (.bi .add (.var 2) (.int 26))
abbrev zPd3 : E := (.bi .add (.var 1) (.var 2))
def putP : CSpec := { args := [.sslice 3 (.var 1) (.var 2) (.var 3) false], next := 2, rows := [(3, .eseq ⟨.u8, .var 4, .var 5⟩), (0, .ext cellsG)], pre := [(.le zPd3 (.var 4), true), (.le (.int 1) (.var 2), true), (.le (.var 2) (.int 1024), true)], res := .tuple [.sslice 5 (.int 0) zPd2 zPd2 true, .agg [.sint .u8 (.bi .sel zPd0 (.int 0)), .sint .u8 (.bi .sel zPd0 (.int 1)), .sint .u8 (.bi .sel zPd0 (.int 2)), .sint .u8 (.bi .sel zPd0 (.int 3)), .sint .u8 (.bi .sel zPd0 (.int 4)), .sint .u8 (.bi .sel zPd0 (.int 5)), .sint .u8 (.bi .sel zPd0 (.int 6)), .sint .u8 (.bi .sel zPd0 (.int 7)), .sint .u8 (.bi .sel zPd0 (.int 8)), .sint .u8 (.bi .sel zPd0 (.int 9)), .sint .u8 (.bi .sel zPd0 (.int 10)), .sint .u8 (.bi .sel zPd0 (.int 11)), .sint .u8 (.bi .sel zPd0 (.int 12)), .sint .u8 (.bi .sel zPd0 (.int 13)), .sint .u8 (.bi .sel zPd0 (.int 14)), .sint .u8 (.bi .sel zPd0 (.int 15))], .int .i64 0], frows := [(5, .seq ⟨5, .u8, .bi .add (.var 2) (.int 26), .fn 62 (argsE [.var 5, .var 1, .var 2]), true, false⟩)], same := [] }
abbrev asPd0 : Q × Bool := ((.fit .i64 (.var 2)), true)
abbrev asPd1 : Q × Bool := ((.eq (.var 2) (.int 0)), false)
abbrev asPd2 : Q × Bool := ((.le (.var 2) (.int 1024)), true)
abbrev asPd3 : Q × Bool := ((.le (.int 0) (.var 2)), true)
abbrev asPd4 : Q × Bool := ((.le (.var 2) (.int 65535)), true)
abbrev asPd5 : Q × Bool := ((.le zPd3 (.var 4)), true)
abbrev asPd6 : Q × Bool := ((.le (.int 1) (.var 2)), true)
abbrev asPd7 : Q × Bool := ((.le (.var 2) (.int 100000)), true)
abbrev asPd8 : Q × Bool := ((.fit .i64 zPd1), true)
abbrev asPd9 : Q × Bool := ((.le (.int 0) zPd1), true)
abbrev asPd10 : Q × Bool := ((.le zPd1 (.int 0)), false)
abbrev asPd11 : Q × Bool := ((.le (.bi .mul zPd1 (.int 2)) (.int 281474976710656)), true)
abbrev asPd12 : Q × Bool := ((.le (.bi .add (.int 0) zPd1) zPd1), true)
abbrev asPd13 : Q × Bool := ((.le zPd1 (.int 1000000)), true)
abbrev asPd14 : Q × Bool := ((.fit .i64 (.bi .add zPd1 (.int 4))), true)
abbrev asPd15 : Q × Bool := ((.fit .i64 txPd0), true)
abbrev asPd16 : Q × Bool := ((.le (.int 0) txPd0), true)
abbrev asPd17 : Q × Bool := ((.le txPd0 (.int 0)), false)
abbrev asPd18 : Q × Bool := ((.le (.bi .mul txPd0 (.int 2)) (.int 281474976710656)), true)
def putP_t0 : List (Q × Bool) := [asPd0, asPd1, asPd2, asPd3, asPd4, asPd5, asPd6, asPd7, asPd8, asPd9, asPd10, asPd11, asPd12, asPd13, asPd14, asPd15, asPd16, asPd17, asPd18]
def putP_d0 : List Duty := [(true, txPd0, zPd2), (true, txPd0, zPd2), (true, txPd0, zPd2), (false, (.bi .app (.bi .app (.tr .cut (.bi .rep txPd0 (.int 0)) (.int 0) (.int 0)) (.tr .seg (.fn 60 (.bi .pair (.var 2) (.int 0))) (.int 0) (.int 6))) (.fn 48 (.bi .pair (.bi .app (.bi .app (.tr .cut (.bi .rep zPd1 (.int 0)) (.int 0) (.int 0)) (.tr .seg (.fn 61 txPd1) (.int 0) (.int 16))) (.tr .cut (.var 5) (.var 1) zPd3)) (.bi .pair (.int 0) (.bi .pair (.bi .add (.int 0) zPd1) (.int 0)))))), (.fn 62 txPd1))]
theorem putP_y0 : endC putP [(5, 27)] 1000 (callC Tryd.prog (tellA putP_t0) [] [(32, putC), (32, putCO), (29, idC), (31, headC)] [] 3000 40 12 putP) = some putP_d0 := by kernel_rfl
theorem putP_holds : CHolds Tryd.prog 12 putP F := by
 refine cholds_of sound (tableNil _ _) (specsCons putC_holds (specsCons putCO_holds (specsCons idC_holds (specsCons headC_holds (specsNil _ _))))) (oversNil _ _) (fuel := 3000) (depth := 40) (by kernel_rfl) fun d hp hR hA => ?_
 have hp := allTold'_iff.2 hp
 simp only [putP, tl] at hp hR hA
 have hl := prt_length (x := (d 5).ints) (o := (d 1).toInt) (t := (d 1).toInt + (d 2).toInt) (by omega) (by omega) (by omega)
 have s6 := seg_ofInts (l := headI (d 2).toInt) (n := 6) rfl
 have s16 := seg_ofInts (l := idI (prt (d 5).ints (d 1).toInt ((d 1).toInt + (d 2).toInt))) (n := 16) idI_len
 have hc := rec_eq (X := prt (d 5).ints (d 1).toInt ((d 1).toInt + (d 2).toInt)) (l := (d 2).toInt) (by omega)
 refine ⟨tellA putP_t0, _, _, _, tellA_ok (allTold'_iff.1 ?_), putP_y0, dutiesTold_ok ?_⟩
 ·simp only [putP_t0, tl]
  omega
 ·simp only [putP_d0, F62, F60, F61, F48, F49, tl]
  simp only [show Int.toNat 6 = 6 from rfl, show Int.toNat 16 = 16 from rfl, s6, s16, show List.take (Int.toNat 0) = fun (l : List D) => [] from funext fun l => List.take_zero, List.drop_nil, List.nil_append, ints_list, List.map_append, map_ints, List.map_drop, List.map_take, D.ints_ofInts, cutp]
  and_intros <;> first | omega | exact hc

end Go.Proofs.YtidjfojcifjdjaaDoor.Pd
