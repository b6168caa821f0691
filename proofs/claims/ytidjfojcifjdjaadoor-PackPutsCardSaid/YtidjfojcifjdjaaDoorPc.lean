/-
 Contracts of this seat: what loops and calls leave, for all inputs. No condition.
-/
import Derived.Test.YtidjfojcifjdjaaDoorSycp
import Derived.Test.YtidjfojcifjdjaaDoorCo
import Derived.Test.YtidjfojcifjdjaaDoorP0
import Derived.Test.YtidjfojcifjdjaaDoorPa
import Derived.Test.YtidjfojcifjdjaaDoorPm
import Derived.Test.YtidjfojcifjdjaaDoorPl
import Derived.Test.YtidjfojcifjdjaaDoorPh
set_option linter.unusedSimpArgs false
set_option linter.unusedVariables false
namespace Go.Proofs.YtidjfojcifjdjaaDoor.Pc
open Go.RowKit Go.Ev Go.Proofs.YtidjfojcifjdjaaDoor.Co

open Go.Proofs.YtidjfojcifjdjaaDoor.P0
open Go.Proofs.YtidjfojcifjdjaaDoor.Pa
open Go.Proofs.YtidjfojcifjdjaaDoor.Pm
open Go.Proofs.YtidjfojcifjdjaaDoor.Pl
open Go.Proofs.YtidjfojcifjdjaaDoor.Ph

abbrev txPc0 : E := (.un (.wrap .u8) (.bi (.iop .quo .i64) (.var 0) (.int 256)))
abbrev txPc1 : E := (.un (.wrap .u8) (.bi (.iop .rem .i64) (.var 0) (.int 256)))
abbrev txPc2 : E := (.bi .sub (.int 255) (.bi (.iop .quo .i64) (.var 0) (.int 256)))
abbrev txPc3 : E := (.bi .sub (.int 255) (.bi (.iop .rem .i64) (.var 0) (.int 256)))
abbrev txPc4 : E := (.bi .app (.un .one (.un (.wrap .u8) txPc3)) (.lits []))
abbrev txPc5 : E := (.bi .app (.un .one (.un (.wrap .u8) txPc2)) txPc4)
abbrev txPc6 : E := (.bi .app (.un .one txPc0) (.bi .app (.un .one txPc1) txPc5))
abbrev txPc7 : E := (.bi .pair txPc6 (.bi .pair (.int 0) (.bi .pair (.bi .add (.int 0) (.int 4)) (.int 0))))
def rheadC : CSpec := { args := [.sint .i64 (.var 0)], next := 0, rows := [], pre := [(.le (.int 0) (.var 0), true), (.le (.var 0) (.int 65535), true)], res := .sslice 1 (.int 0) (.int 6) (.int 6) true, frows := [(1, .seq ⟨5, .u8, .int 6, .fn 60 (argsE [.var 0]), true, false⟩)], same := [] }
abbrev asPc0 : Q × Bool := ((.fit .i64 txPc2), true)
abbrev asPc1 : Q × Bool := ((.fit .i64 txPc3), true)
abbrev asPc2 : Q × Bool := ((.le (.bi .add (.int 0) (.int 4)) (.int 4)), true)
def rheadC_t0 : List (Q × Bool) := [asPc0, asPc1, asPc2]
def rheadC_d0 : List Duty := [(false, (.bi .app (.un .one txPc0) (.bi .app (.un .one txPc1) (.bi .app (.un .one (.un (.wrap .u8) txPc2)) (.bi .app (.un .one (.un (.wrap .u8) txPc3)) (.bi .app (.un .one (.un (.wrap .u8) (.fn 45 txPc7))) (.bi .app (.un .one (.un (.wrap .u8) (.bi (.iop .shr .u32) (.fn 45 txPc7) (.int 8)))) (.lits []))))))), (.fn 60 (.bi .pair (.var 0) (.int 0))))]
theorem rheadC_y0 : endC rheadC [(1, 5)] 1000 (callC Tryd.prog (tellA rheadC_t0) [] [(47, refC), (47, refCO)] [] 3000 40 35 rheadC) = some rheadC_d0 := by kernel_rfl
theorem rheadC_holds : CHolds Tryd.prog 35 rheadC F := by
 refine cholds_of sound (tableNil _ _) (specsCons refC_holds (specsCons refCO_holds (specsNil _ _))) (oversNil _ _) (fuel := 3000) (depth := 40) (by kernel_rfl) fun d hp hR hA => ?_
 have hp := allTold'_iff.2 hp
 simp only [rheadC, tl] at hp hR hA
 have hq := quo_ediv (x := (d 0).toInt) (y := 256) (by omega) (by omega) (by omega)
 have hr := rem_emod (x := (d 0).toInt) (y := 256) .i64 (by omega)
 refine ⟨tellA rheadC_t0, _, _, _, tellA_ok (allTold'_iff.1 ?_), rheadC_y0, dutiesTold_ok ?_⟩
 ·simp only [rheadC_t0, hq, hr, tl]
  omega
 ·simp only [rheadC_d0, F60, F45, hq, hr, shr8, tl]
  have e1 := wrapm (n := (d 0).toInt / 256) (by omega)
  have e2 := wrapm (n := (d 0).toInt % 256) (by omega)
  have e3 := wrapm (n := 255 - (d 0).toInt / 256) (by omega)
  have e4 := wrapm (n := 255 - (d 0).toInt % 256) (by omega)
  have m1 : (d 0).toInt / 256 % 256 = (d 0).toInt / 256 := by omega
  have m2 : (d 0).toInt % 256 % 256 = (d 0).toInt % 256 := by omega
  have m3 : (255 - (d 0).toInt / 256) % 256 = 255 - (d 0).toInt / 256 := by omega
  have m4 : (255 - (d 0).toInt % 256) % 256 = 255 - (d 0).toInt % 256 := by omega
  simp only [e1, e2, e3, e4, m1, m2, m3, m4]
  have e : ∀ (a b c e : Int), prt (D.ints (D.list ([D.int a] ++ ([D.int b] ++ ([D.int c] ++ ([D.int e] ++ (D.ofInts []).toList)))))) 0 (0 + 4) = [a, b, c, e] := fun _ _ _ _ => rfl
  have hf : notI (refI 4294967295 (headL (d 0).toInt)) = gsumI (headL (d 0).toInt) := by
   have := ref0 (l := headL (d 0).toInt) (fun c hc => by simp only [headL, List.mem_cons, List.not_mem_nil, or_false] at hc; simp only [inK, u8min, u8max]; omega)
   rw [this]; rfl
  simp only [e]
  unfold headL at hf
  simp only [hf]
  rfl

end Go.Proofs.YtidjfojcifjdjaaDoor.Pc
