/-
 Contracts of this seat: what loops and calls leave, for all inputs. No condition.
-/
import Derived.Test.YtidpndnehbhloaaDoorSycp
import Derived.Test.YtidpndnehbhloaaDoorCo
import Derived.Test.YtidpndnehbhloaaDoorP0
import Derived.Test.YtidpndnehbhloaaDoorPa
import Derived.Test.YtidpndnehbhloaaDoorPm
import Derived.Test.YtidpndnehbhloaaDoorPl
import Derived.Test.YtidpndnehbhloaaDoorPu
import Derived.Test.YtidpndnehbhloaaDoorPq
set_option linter.unusedSimpArgs false
set_option linter.unusedVariables false
namespace Go.Proofs.YtidpndnehbhloaaDoor.Pb
open Go.RowKit Go.Ev Go.Proofs.YtidpndnehbhloaaDoor.Co

open Go.Proofs.YtidpndnehbhloaaDoor.P0
open Go.Proofs.YtidpndnehbhloaaDoor.Pa
open Go.Proofs.YtidpndnehbhloaaDoor.Pm
open Go.Proofs.YtidpndnehbhloaaDoor.Pl

abbrev txPb0 : E := (.un (.wrap .u8) (.bi (.iop .shr .i64) (.var 0) (.int 8)))
abbrev zPb1 : E := (.un (.wrap .u8) (.var 0))
abbrev txPb1 : E := (.bi (.iop .xor .u8) (.int 255) zPb1)
abbrev txPb2 : E := (.un .one (.bi (.iop .xor .u8) (.int 255) txPb0))
abbrev txPb3 : E := (.bi .app txPb2 (.bi .app (.un .one txPb1) (.lits [0, 0])))
abbrev txPb4 : E := (.bi .app (.un .one zPb1) txPb3)
abbrev txPb5 : E := (.bi .pair (.bi .app (.un .one txPb0) txPb4) (.bi .pair (.int 0) (.bi .pair (.bi .add (.int 0) (.int 4)) (.int 0))))
abbrev zPb0 : E := (.fn 60 (.bi .pair (.var 0) (.int 0)))
def headC : CSpec := { args := [.sint .i64 (.var 0)], next := 0, rows := [], pre := [(.le (.int 0) (.var 0), true), (.le (.var 0) (.int 65535), true)], res := .agg [.sint .u8 (.bi .sel (.fn 60 (argsE [.var 0])) (.int 0)), .sint .u8 (.bi .sel (.fn 60 (argsE [.var 0])) (.int 1)), .sint .u8 (.bi .sel (.fn 60 (argsE [.var 0])) (.int 2)), .sint .u8 (.bi .sel (.fn 60 (argsE [.var 0])) (.int 3)), .sint .u8 (.bi .sel (.fn 60 (argsE [.var 0])) (.int 4)), .sint .u8 (.bi .sel (.fn 60 (argsE [.var 0])) (.int 5))], frows := [], same := [] }
abbrev asPb0 : Q × Bool := ((.le (.bi .add (.int 0) (.int 4)) (.int 6)), true)
def headC_t0 : List (Q × Bool) := [asPb0]
def headC_d0 : List Duty := [(true, txPb0, (.bi .sel zPb0 (.int 0))), (true, zPb1, (.bi .sel zPb0 (.int 1))), (true, (.bi (.iop .xor .u8) (.int 255) txPb0), (.bi .sel zPb0 (.int 2))), (true, txPb1, (.bi .sel zPb0 (.int 3))), (true, (.un (.wrap .u8) (.fn 42 (.bi .pair (.int 0) txPb5))), (.bi .sel zPb0 (.int 4))), (true, (.un (.wrap .u8) (.bi (.iop .shr .u32) (.fn 42 (.bi .pair (.int 0) txPb5)) (.int 8))), (.bi .sel zPb0 (.int 5)))]
theorem headC_y0 : endC headC [] 1000 (callC Tryd.prog (tellA headC_t0) [] [(45, tableC), (41, moreC), (41, moreCO)] [] 3000 40 24 headC) = some headC_d0 := by kernel_rfl
theorem headC_holds : CHolds Tryd.prog 24 headC F := by
 refine cholds_of sound (tableNil _ _) (specsCons tableC_holds (specsCons moreC_holds (specsCons moreCO_holds (specsNil _ _)))) (oversNil _ _) (fuel := 3000) (depth := 40) (by kernel_rfl) fun d hp hR hA => ?_
 have hp := allTold'_iff.2 hp
 simp only [headC, tl] at hp hR hA
 have hw := wrapm (n := (d 0).toInt) (by omega)
 have hw2 := wrapm (n := (d 0).toInt / 256) (by omega)
 have x1 := xor255 (c := (d 0).toInt / 256 % 256) (by omega)
 have x2 := xor255 (c := (d 0).toInt % 256) (by omega)
 refine ⟨tellA headC_t0, _, _, _, tellA_ok (allTold'_iff.1 ?_), headC_y0, dutiesTold_ok ?_⟩
 ·simp only [headC_t0, tl]
  omega
 ·simp only [headC_d0, F60, F42, shr8, hw, hw2, x1, x2, tl]
  have e : ∀ (a b c e : Int), prt (D.ints (D.list ([D.int a] ++ ([D.int b] ++ ([D.int c] ++ ([D.int e] ++ (D.ofInts [0, 0]).toList)))))) 0 (0 + 4) = [a, b, c, e] := fun _ _ _ _ => rfl
  have hm : (d 0).toInt / 256 % 256 = (d 0).toInt / 256 := by omega
  simp only [e, hm]
  and_intros <;> rfl

end Go.Proofs.YtidpndnehbhloaaDoor.Pb

set_option linter.unusedSimpArgs false
set_option linter.unusedVariables false
namespace Go.Proofs.YtidpndnehbhloaaDoor.Pdo
open Go.RowKit Go.Ev Go.Proofs.YtidpndnehbhloaaDoor.Co

open Go.Proofs.YtidpndnehbhloaaDoor.P0
open Go.Proofs.YtidpndnehbhloaaDoor.Pa
open Go.Proofs.YtidpndnehbhloaaDoor.Pm
open Go.Proofs.YtidpndnehbhloaaDoor.Pl
open Go.Proofs.YtidpndnehbhloaaDoor.Pn
open Go.Proofs.YtidpndnehbhloaaDoor.Pu
open Go.Proofs.YtidpndnehbhloaaDoor.Puo
open Go.Proofs.YtidpndnehbhloaaDoor.Pq
open Go.Proofs.YtidpndnehbhloaaDoor.Pqo
open Go.Proofs.YtidpndnehbhloaaDoor.Pb

abbrev zPdo1 : E := (.bi .add (.var 2) (.int 16))
abbrev txPdo0 : E := (.bi .add zPdo1 (.int 10))
abbrev txPdo1 : E := (.bi .pair (.var 5) (.bi .pair (.var 1) (.bi .pair (.var 2) (.int 0))))
abbrev zPdo0 : E := (.fn 61 (argsE [.var 5, .var 1, .var 2]))
abbrev zPdo2 : E := (.bi .add (.var 2) (.int 26))
abbrev zPdo3 : E := (.bi .add (.var 1) (.var 2))
def putPO : CSpec := { args := [.sslice 3 (.var 1) (.var 2) (.var 3) true], next := 2, rows := [(3, .eseq ⟨.u8, .var 4, .var 5⟩), (0, .ext cellsG)], pre := [(.le zPdo3 (.var 4), true), (.le (.int 1) (.var 2), true), (.le (.var 2) (.int 1024), true)], res := .tuple [.sslice 5 (.int 0) zPdo2 zPdo2 true, .agg [.sint .u8 (.bi .sel zPdo0 (.int 0)), .sint .u8 (.bi .sel zPdo0 (.int 1)), .sint .u8 (.bi .sel zPdo0 (.int 2)), .sint .u8 (.bi .sel zPdo0 (.int 3)), .sint .u8 (.bi .sel zPdo0 (.int 4)), .sint .u8 (.bi .sel zPdo0 (.int 5)), .sint .u8 (.bi .sel zPdo0 (.int 6)), .sint .u8 (.bi .sel zPdo0 (.int 7)), .sint .u8 (.bi .sel zPdo0 (.int 8)), .sint .u8 (.bi .sel zPdo0 (.int 9)), .sint .u8 (.bi .sel zPdo0 (.int 10)), .sint .u8 (.bi .sel zPdo0 (.int 11)), .sint .u8 (.bi .sel zPdo0 (.int 12)), .sint .u8 (.bi .sel zPdo0 (.int 13)), .sint .u8 (.bi .sel zPdo0 (.int 14)), .sint .u8 (.bi .sel zPdo0 (.int 15))], .int .i64 0], frows := [(5, .seq ⟨5, .u8, .bi .add (.var 2) (.int 26), .fn 62 (argsE [.var 5, .var 1, .var 2]), true, false⟩)], same := [] }
abbrev asPdo0 : Q × Bool := ((.fit .i64 (.var 2)), true)
abbrev asPdo1 : Q × Bool := ((.eq (.var 2) (.int 0)), false)
abbrev asPdo2 : Q × Bool := ((.le (.var 2) (.int 1024)), true)
abbrev asPdo3 : Q × Bool := ((.le (.int 0) (.var 2)), true)
abbrev asPdo4 : Q × Bool := ((.le (.var 2) (.int 65535)), true)
abbrev asPdo5 : Q × Bool := ((.le zPdo3 (.var 4)), true)
abbrev asPdo6 : Q × Bool := ((.le (.int 1) (.var 2)), true)
abbrev asPdo7 : Q × Bool := ((.le (.var 2) (.int 100000)), true)
abbrev asPdo8 : Q × Bool := ((.fit .i64 zPdo1), true)
abbrev asPdo9 : Q × Bool := ((.le (.int 0) zPdo1), true)
abbrev asPdo10 : Q × Bool := ((.le zPdo1 (.int 0)), false)
abbrev asPdo11 : Q × Bool := ((.le (.bi .mul zPdo1 (.int 2)) (.int 281474976710656)), true)
abbrev asPdo12 : Q × Bool := ((.le (.bi .add (.int 0) zPdo1) zPdo1), true)
abbrev asPdo13 : Q × Bool := ((.le zPdo1 (.int 1000000)), true)
abbrev asPdo14 : Q × Bool := ((.fit .i64 (.bi .add zPdo1 (.int 4))), true)
abbrev asPdo15 : Q × Bool := ((.fit .i64 txPdo0), true)
abbrev asPdo16 : Q × Bool := ((.le (.int 0) txPdo0), true)
abbrev asPdo17 : Q × Bool := ((.le txPdo0 (.int 0)), false)
abbrev asPdo18 : Q × Bool := ((.le (.bi .mul txPdo0 (.int 2)) (.int 281474976710656)), true)
def putPO_t0 : List (Q × Bool) := [asPdo0, asPdo1, asPdo2, asPdo3, asPdo4, asPdo5, asPdo6, asPdo7, asPdo8, asPdo9, asPdo10, asPdo11, asPdo12, asPdo13, asPdo14, asPdo15, asPdo16, asPdo17, asPdo18]
def putPO_d0 : List Duty := [(true, txPdo0, zPdo2), (true, txPdo0, zPdo2), (true, txPdo0, zPdo2), (false, (.bi .app (.bi .app (.tr .cut (.bi .rep txPdo0 (.int 0)) (.int 0) (.int 0)) (.tr .seg (.fn 60 (.bi .pair (.var 2) (.int 0))) (.int 0) (.int 6))) (.fn 48 (.bi .pair (.bi .app (.bi .app (.tr .cut (.bi .rep zPdo1 (.int 0)) (.int 0) (.int 0)) (.tr .seg (.fn 61 txPdo1) (.int 0) (.int 16))) (.tr .cut (.var 5) (.var 1) zPdo3)) (.bi .pair (.int 0) (.bi .pair (.bi .add (.int 0) zPdo1) (.int 0)))))), (.fn 62 txPdo1))]
theorem putPO_y0 : endC putPO [(5, 27)] 1000 (callC Tryd.prog (tellA putPO_t0) [] [(25, putC), (25, putCO), (11, idCO), (24, headC)] [] 3000 40 16 putPO) = some putPO_d0 := by kernel_rfl
theorem putPO_holds : CHolds Tryd.prog 16 putPO F := by
 refine cholds_of sound (tableNil _ _) (specsCons putC_holds (specsCons putCO_holds (specsCons idCO_holds (specsCons headC_holds (specsNil _ _))))) (oversNil _ _) (fuel := 3000) (depth := 40) (by kernel_rfl) fun d hp hR hA => ?_
 have hp := allTold'_iff.2 hp
 simp only [putPO, tl] at hp hR hA
 have hl := prt_length (x := (d 5).ints) (o := (d 1).toInt) (t := (d 1).toInt + (d 2).toInt) (by omega) (by omega) (by omega)
 have s6 := seg_ofInts (l := headI (d 2).toInt) (n := 6) rfl
 have s16 := seg_ofInts (l := idI (prt (d 5).ints (d 1).toInt ((d 1).toInt + (d 2).toInt))) (n := 16) idI_len
 have hc := rec_eq (X := prt (d 5).ints (d 1).toInt ((d 1).toInt + (d 2).toInt)) (l := (d 2).toInt) (by omega)
 refine ⟨tellA putPO_t0, _, _, _, tellA_ok (allTold'_iff.1 ?_), putPO_y0, dutiesTold_ok ?_⟩
 ·simp only [putPO_t0, tl]
  omega
 ·simp only [putPO_d0, F62, F60, F61, F48, F49, tl]
  simp only [show Int.toNat 6 = 6 from rfl, show Int.toNat 16 = 16 from rfl, s6, s16, show List.take (Int.toNat 0) = fun (l : List D) => [] from funext fun l => List.take_zero, List.drop_nil, List.nil_append, ints_list, List.map_append, map_ints, List.map_drop, List.map_take, D.ints_ofInts, cutp]
  and_intros <;> first | omega | exact hc

end Go.Proofs.YtidpndnehbhloaaDoor.Pdo
