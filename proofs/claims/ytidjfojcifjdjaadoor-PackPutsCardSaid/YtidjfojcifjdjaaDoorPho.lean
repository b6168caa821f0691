/-
 Contracts of this seat: what loops and calls leave, for all inputs. No condition.
-/
import Derived.Test.YtidjfojcifjdjaaDoorSycp
import Derived.Test.YtidjfojcifjdjaaDoorCo
import Derived.Test.YtidjfojcifjdjaaDoorP0
import Derived.Test.YtidjfojcifjdjaaDoorPa
import Derived.Test.YtidjfojcifjdjaaDoorPh
set_option linter.unusedSimpArgs false
set_option linter.unusedVariables false
namespace Go.Proofs.YtidjfojcifjdjaaDoor.Pho
open Go.RowKit Go.Ev Go.Proofs.YtidjfojcifjdjaaDoor.Co

open Go.Proofs.YtidjfojcifjdjaaDoor.P0
open Go.Proofs.YtidjfojcifjdjaaDoor.Pa
open Go.Proofs.YtidjfojcifjdjaaDoor.Ph

abbrev zPho0 : E := (.bi .add (.var 1) (.var 2))
abbrev txPho0 : E := (.bi .pair zPho0 (.int 0))
abbrev txPho1 : E := (.bi .pair (.var 5) (.bi .pair (.var 1) txPho0))
abbrev zPho1 : E := (.bi .add (.var 2) (.int 4))
def rputCO : CSpec := { args := [.sslice 3 (.var 1) (.var 2) (.var 3) true], next := 2, rows := [(3, .eseq ⟨.u8, .var 4, .var 5⟩)], pre := [(.le zPho0 (.var 4), true), (.le (.var 2) (.int 1000000), true)], res := .sslice 5 (.int 0) zPho1 zPho1 true, frows := [(5, .seq ⟨5, .u8, .bi .add (.var 2) (.int 4), .fn 49 (argsE [.var 5, .var 1, .bi .add (.var 1) (.var 2)]), true, false⟩)], same := [] }
abbrev asPho0 : Q × Bool := ((.le zPho0 (.var 4)), true)
abbrev asPho1 : Q × Bool := ((.le (.var 2) (.int 1000000)), true)
abbrev asPho2 : Q × Bool := ((.le (.bi .mul (.var 2) (.int 2)) (.int 281474976710656)), true)
abbrev asPho3 : Q × Bool := ((.le (.bi .mul zPho1 (.int 2)) (.int 281474976710656)), true)
def rputCO_t0 : List (Q × Bool) := [asPho0, asPho1, asPho2, asPho3]
def rputCO_d0 : List Duty := [(false, (.bi .app (.tr .cut (.var 5) (.var 1) zPho0) (.bi .app (.un .one (.un (.wrap .u8) (.fn 45 txPho1))) (.bi .app (.un .one (.un (.wrap .u8) (.bi (.iop .shr .u32) (.fn 45 txPho1) (.int 8)))) (.bi .app (.un .one (.un (.wrap .u8) (.bi (.iop .shr .u32) (.fn 45 txPho1) (.int 16)))) (.bi .app (.un .one (.un (.wrap .u8) (.bi (.iop .shr .u32) (.fn 45 txPho1) (.int 24)))) (.lits [])))))), (.fn 49 txPho1))]
theorem rputCO_y0 : endC rputCO [(5, 11)] 1000 (callC Tryd.prog (tellA rputCO_t0) [] [(47, refCO)] [] 3000 40 36 rputCO) = some rputCO_d0 := by kernel_rfl
theorem rputCO_holds : CHolds Tryd.prog 36 rputCO F := by
 refine cholds_of sound (tableNil _ _) (specsCons refCO_holds (specsNil _ _)) (oversNil _ _) (fuel := 3000) (depth := 40) (by kernel_rfl) fun d hp hR hA => ?_
 have hp := allTold'_iff.2 hp
 simp only [rputCO, tl] at hp hR hA
 refine ⟨tellA rputCO_t0, _, _, _, tellA_ok (allTold'_iff.1 ?_), rputCO_y0, dutiesTold_ok ?_⟩
 ·simp only [rputCO_t0, tl]
  omega
 ·simp only [rputCO_d0, F49, F45, ints_list, List.map_append, List.map_drop, List.map_take, List.map_replicate, List.map_cons, List.map_nil, map_ints, tl]
  simp [rputI, le4, rsumI, prt]

end Go.Proofs.YtidjfojcifjdjaaDoor.Pho
