/-
 Contracts of this seat: what loops and calls leave, for all inputs. No condition.
-/
import Derived.Test.YtidjfojcifjdjaaDoorSycp
import Derived.Test.YtidjfojcifjdjaaDoorCo
import Derived.Test.YtidjfojcifjdjaaDoorP0
import Derived.Test.YtidjfojcifjdjaaDoorPa
import Derived.Test.YtidjfojcifjdjaaDoorPm
import Derived.Test.YtidjfojcifjdjaaDoorPl
import Derived.Test.YtidjfojcifjdjaaDoorPh
import Derived.Test.YtidjfojcifjdjaaDoorPho
import Derived.Test.YtidjfojcifjdjaaDoorPr
import Derived.Test.YtidjfojcifjdjaaDoorPc
set_option linter.unusedSimpArgs false
set_option linter.unusedVariables false
namespace Go.Proofs.YtidjfojcifjdjaaDoor.Pe
open Go.RowKit Go.Ev Go.Proofs.YtidjfojcifjdjaaDoor.Co

open Go.Proofs.YtidjfojcifjdjaaDoor.P0
open Go.Proofs.YtidjfojcifjdjaaDoor.Pa
open Go.Proofs.YtidjfojcifjdjaaDoor.Pm
open Go.Proofs.YtidjfojcifjdjaaDoor.Pl
open Go.Proofs.YtidjfojcifjdjaaDoor.Pn
open Go.Proofs.YtidjfojcifjdjaaDoor.Ph
open Go.Proofs.YtidjfojcifjdjaaDoor.Pho
open Go.Proofs.YtidjfojcifjdjaaDoor.Pr
open Go.Proofs.YtidjfojcifjdjaaDoor.Pc

abbrev zPe1 : E := (.bi .add (.var 2) (.int 16))
abbrev txPe0 : E := (.bi .add zPe1 (.int 10))
abbrev txPe1 : E := (.bi .pair (.var 5) (.bi .pair (.var 1) (.bi .pair (.var 2) (.int 0))))
abbrev zPe0 : E := (.fn 61 (argsE [.var 5, .var 1, .var 2]))
abbrev zPe2 : E := (.bi .add (.var 2) (.int 26))
abbrev zPe3 : E := (.bi .add (.var 1) (.var 2))
def rputP : CSpec := { args := [.sslice 3 (.var 1) (.var 2) (.var 3) false], next := 2, rows := [(3, .eseq ⟨.u8, .var 4, .var 5⟩)], pre := [(.le zPe3 (.var 4), true), (.le (.int 1) (.var 2), true), (.le (.var 2) (.int 1024), true)], res := .tuple [.sslice 5 (.int 0) zPe2 zPe2 true, .agg [.sint .u8 (.bi .sel zPe0 (.int 0)), .sint .u8 (.bi .sel zPe0 (.int 1)), .sint .u8 (.bi .sel zPe0 (.int 2)), .sint .u8 (.bi .sel zPe0 (.int 3)), .sint .u8 (.bi .sel zPe0 (.int 4)), .sint .u8 (.bi .sel zPe0 (.int 5)), .sint .u8 (.bi .sel zPe0 (.int 6)), .sint .u8 (.bi .sel zPe0 (.int 7)), .sint .u8 (.bi .sel zPe0 (.int 8)), .sint .u8 (.bi .sel zPe0 (.int 9)), .sint .u8 (.bi .sel zPe0 (.int 10)), .sint .u8 (.bi .sel zPe0 (.int 11)), .sint .u8 (.bi .sel zPe0 (.int 12)), .sint .u8 (.bi .sel zPe0 (.int 13)), .sint .u8 (.bi .sel zPe0 (.int 14)), .sint .u8 (.bi .sel zPe0 (.int 15))], .int .i64 0], frows := [(5, .seq ⟨5, .u8, .bi .add (.var 2) (.int 26), .fn 62 (argsE [.var 5, .var 1, .var 2]), true, false⟩)], same := [] }
abbrev asPe0 : Q × Bool := ((.fit .i64 (.var 2)), true)
abbrev asPe1 : Q × Bool := ((.eq (.var 2) (.int 0)), false)
abbrev asPe2 : Q × Bool := ((.le (.var 2) (.int 1024)), true)
abbrev asPe3 : Q × Bool := ((.le zPe3 (.var 4)), true)
abbrev asPe4 : Q × Bool := ((.le (.int 1) (.var 2)), true)
abbrev asPe5 : Q × Bool := ((.le (.var 2) (.int 100000)), true)
abbrev asPe6 : Q × Bool := ((.le (.bi .mul zPe1 (.int 2)) (.int 281474976710656)), true)
abbrev asPe7 : Q × Bool := ((.le (.int 0) (.var 2)), true)
abbrev asPe8 : Q × Bool := ((.le (.var 2) (.int 65535)), true)
abbrev asPe9 : Q × Bool := ((.le (.bi .add (.int 0) zPe1) zPe1), true)
abbrev asPe10 : Q × Bool := ((.le zPe1 (.int 1000000)), true)
abbrev asPe11 : Q × Bool := ((.le (.bi .mul txPe0 (.int 2)) (.int 281474976710656)), true)
def rputP_t0 : List (Q × Bool) := [asPe0, asPe1, asPe2, asPe3, asPe4, asPe5, asPe6, asPe7, asPe8, asPe9, asPe10, asPe11]
def rputP_d0 : List Duty := [(true, txPe0, zPe2), (true, txPe0, zPe2), (true, txPe0, zPe2), (false, (.bi .app (.fn 60 (.bi .pair (.var 2) (.int 0))) (.fn 49 (.bi .pair (.bi .app (.tr .seg (.fn 61 txPe1) (.int 0) (.int 16)) (.tr .cut (.var 5) (.var 1) zPe3)) (.bi .pair (.int 0) (.bi .pair (.bi .add (.int 0) zPe1) (.int 0)))))), (.fn 62 txPe1))]
theorem rputP_y0 : endC rputP [(5, 19)] 1000 (callC Tryd.prog (tellA rputP_t0) [] [(36, rputC), (36, rputCO), (34, ridC), (35, rheadC)] [] 3000 40 13 rputP) = some rputP_d0 := by kernel_rfl
theorem rputP_holds : CHolds Tryd.prog 13 rputP F := by
 refine cholds_of sound (tableNil _ _) (specsCons rputC_holds (specsCons rputCO_holds (specsCons ridC_holds (specsCons rheadC_holds (specsNil _ _))))) (oversNil _ _) (fuel := 3000) (depth := 40) (by kernel_rfl) fun d hp hR hA => ?_
 have hp := allTold'_iff.2 hp
 simp only [rputP, tl] at hp hR hA
 have hl := prt_length (x := (d 5).ints) (o := (d 1).toInt) (t := (d 1).toInt + (d 2).toInt) (by omega) (by omega) (by omega)
 have s6 := seg_ofInts (l := headI (d 2).toInt) (n := 6) rfl
 have s16 := seg_ofInts (l := idI (prt (d 5).ints (d 1).toInt ((d 1).toInt + (d 2).toInt))) (n := 16) idI_len
 have hc := rec_eq (X := prt (d 5).ints (d 1).toInt ((d 1).toInt + (d 2).toInt)) (l := (d 2).toInt) (by omega)
 have hp2 : rputI (prt (idI (prt (d 5).ints (d 1).toInt ((d 1).toInt + (d 2).toInt)) ++ prt (d 5).ints (d 1).toInt ((d 1).toInt + (d 2).toInt)) 0 (0 + ((d 2).toInt + 16))) = putI (prt (idI (prt (d 5).ints (d 1).toInt ((d 1).toInt + (d 2).toInt)) ++ prt (d 5).ints (d 1).toInt ((d 1).toInt + (d 2).toInt)) 0 (0 + ((d 2).toInt + 16))) := by
  refine rput_put fun c hc => ?_
  have h1 := List.mem_of_mem_take (List.mem_of_mem_drop hc)
  rw [List.mem_append] at h1
  rcases h1 with h1 | h1
  ·exact idI_in c h1
  ·exact prt_bytes hR.2 c h1
 refine ⟨tellA rputP_t0, _, _, _, tellA_ok (allTold'_iff.1 ?_), rputP_y0, dutiesTold_ok ?_⟩
 ·simp only [rputP_t0, tl]
  omega
 ·simp only [rputP_d0, F62, F60, F61, F48, F49, tl]
  simp only [show Int.toNat 6 = 6 from rfl, show Int.toNat 16 = 16 from rfl, s6, s16, show List.take (Int.toNat 0) = fun (l : List D) => [] from funext fun l => List.take_zero, List.drop_nil, List.nil_append, ints_list, List.map_append, map_ints, List.map_drop, List.map_take, D.ints_ofInts, cutp]
  and_intros <;> first | omega | (try rw [hp2]) <;> exact hc

end Go.Proofs.YtidjfojcifjdjaaDoor.Pe
