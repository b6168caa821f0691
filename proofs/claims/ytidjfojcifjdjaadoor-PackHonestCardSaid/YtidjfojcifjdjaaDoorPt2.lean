/-
 Contracts of this seat: what loops and calls leave, for all inputs. No condition.
-/
import Derived.Test.YtidjfojcifjdjaaDoorSycp
import Derived.Test.YtidjfojcifjdjaaDoorCo
import Derived.Test.YtidjfojcifjdjaaDoorP0
import Derived.Test.YtidjfojcifjdjaaDoorPa
import Derived.Test.YtidjfojcifjdjaaDoorPm
import Derived.Test.YtidjfojcifjdjaaDoorPl
import Derived.Test.YtidjfojcifjdjaaDoorPu
import Derived.Test.YtidjfojcifjdjaaDoorPq
import Derived.Test.YtidjfojcifjdjaaDoorPg
import Derived.Test.YtidjfojcifjdjaaDoorPb
import Derived.Test.YtidjfojcifjdjaaDoorPb2
set_option linter.unusedSimpArgs false
set_option linter.unusedVariables false
namespace Go.Proofs.YtidjfojcifjdjaaDoor.Pt2
open Go.RowKit Go.Ev Go.Proofs.YtidjfojcifjdjaaDoor.Co

open Go.Proofs.YtidjfojcifjdjaaDoor.P0
open Go.Proofs.YtidjfojcifjdjaaDoor.Pa
open Go.Proofs.YtidjfojcifjdjaaDoor.Pm
open Go.Proofs.YtidjfojcifjdjaaDoor.Pl
open Go.Proofs.YtidjfojcifjdjaaDoor.Pn
open Go.Proofs.YtidjfojcifjdjaaDoor.Pt3
open Go.Proofs.YtidjfojcifjdjaaDoor.Pu
open Go.Proofs.YtidjfojcifjdjaaDoor.Puo
open Go.Proofs.YtidjfojcifjdjaaDoor.Pq
open Go.Proofs.YtidjfojcifjdjaaDoor.Pqo
open Go.Proofs.YtidjfojcifjdjaaDoor.Pg
open Go.Proofs.YtidjfojcifjdjaaDoor.Pb
open Go.Proofs.YtidjfojcifjdjaaDoor.Pb2

abbrev vu8Pt2 (a : E) (j : Int) : AV := .sint .u8 (.bi .sel a (.int j))
abbrev txPt20 : E := (.bi .add (.var 1) (.bi .add (.var 7) (.int 6)))
abbrev txPt21 : E := (.bi .pair (.var 2) (.bi .pair (.var 7) (.int 0)))
abbrev txPt22 : E := (.bi .pair (.var 5) (.bi .pair (.var 1) txPt21))
abbrev txPt23 : E := (.tr .cut (.var 5) txPt20 (.bi .add txPt20 (.int 16)))
abbrev zPt20 : E := (.bi .add (.fn 63 txPt22) (.int 20))
abbrev txPt24 : E := (.bi .add zPt20 (.int (-4)))
abbrev txPt25 : E := (.bi .add zPt20 (.int (-20)))
abbrev zPt21 : E := (.bi .add (.var 1) (.bi .add (.var 7) (.bi .add (.var 8) (.int 22))))
def getY : CSpec := { args := [.sslice 3 (.var 1) (.var 2) (.var 3) false, .agg [vu8Pt2 (.var 6) 0, vu8Pt2 (.var 6) 1, vu8Pt2 (.var 6) 2, vu8Pt2 (.var 6) 3, vu8Pt2 (.var 6) 4, vu8Pt2 (.var 6) 5, vu8Pt2 (.var 6) 6, vu8Pt2 (.var 6) 7, vu8Pt2 (.var 6) 8, vu8Pt2 (.var 6) 9, vu8Pt2 (.var 6) 10, vu8Pt2 (.var 6) 11, vu8Pt2 (.var 6) 12, vu8Pt2 (.var 6) 13, vu8Pt2 (.var 6) 14, vu8Pt2 (.var 6) 15, .sint .i64 (.var 7), .sint .i64 (.var 8)]], next := 2, rows := [(3, .eseq ⟨.u8, .var 4, .var 5⟩), (0, .ext cellsG)], pre := [(.le (.bi .add (.var 1) (.var 2)) (.var 4), true), (.le (.var 2) (.int 1000000), true), (.eq (.fn 77 (argsE [.var 5, .var 1, .var 2, .var 7, .var 8, .tr .seg (.var 6) (.int 0) (.int 16)])) (.int 0), true)], res := .tuple [.sslice 5 (.int 16) (.var 8) (.var 8) true, .int .i64 0], frows := [(5, .seq ⟨5, .u8, .bi .add (.var 8) (.int 16), .tr .cut (.var 5) txPt20 zPt21, true, false⟩)], same := [3] }
abbrev asPt20 : Q × Bool := ((.le (.int 0) (.var 7)), true)
abbrev asPt21 : Q × Bool := ((.fit .i64 (.var 2)), true)
abbrev asPt22 : Q × Bool := ((.le (.var 7) (.var 2)), true)
abbrev asPt23 : Q × Bool := ((.le (.bi .add (.var 1) (.var 2)) (.var 4)), true)
abbrev asPt24 : Q × Bool := ((.le (.var 2) (.int 1000000)), true)
abbrev asPt25 : Q × Bool := ((.le (.int 6) (.bi .sub (.var 2) (.var 7))), true)
abbrev asPt26 : Q × Bool := ((.eq (.fn 63 txPt22) (.int 0)), false)
abbrev asPt27 : Q × Bool := ((.le (.bi .add (.fn 63 txPt22) (.int 26)) (.bi .sub (.var 2) (.var 7))), true)
abbrev asPt28 : Q × Bool := ((.le (.bi .add txPt20 zPt20) (.var 4)), true)
abbrev asPt29 : Q × Bool := ((.le (.int 0) txPt20), true)
abbrev asPt210 : Q × Bool := ((.le (.int 0) zPt20), true)
abbrev asPt211 : Q × Bool := ((.le zPt20 (.bi .sub (.var 3) (.bi .add (.var 7) (.int 6)))), true)
abbrev asPt212 : Q × Bool := ((.le (.int 21) zPt20), true)
abbrev asPt213 : Q × Bool := ((.le zPt20 (.int 100000)), true)
abbrev asPt214 : Q × Bool := ((.eq (.fn 64 (.bi .pair (.var 5) (.bi .pair txPt20 (.bi .pair zPt20 (.int 0))))) (.int 1)), true)
abbrev asPt215 : Q × Bool := ((.eq (.fn 63 txPt22) (.var 8)), true)
abbrev asPt216 : Q × Bool := ((.eq (.bi .sel txPt23 (.int 0)) (.bi .sel (.var 6) (.int 0))), true)
abbrev asPt217 : Q × Bool := ((.eq (.bi .sel txPt23 (.int 1)) (.bi .sel (.var 6) (.int 1))), true)
abbrev asPt218 : Q × Bool := ((.eq (.bi .sel txPt23 (.int 2)) (.bi .sel (.var 6) (.int 2))), true)
abbrev asPt219 : Q × Bool := ((.eq (.bi .sel txPt23 (.int 3)) (.bi .sel (.var 6) (.int 3))), true)
abbrev asPt220 : Q × Bool := ((.eq (.bi .sel txPt23 (.int 4)) (.bi .sel (.var 6) (.int 4))), true)
abbrev asPt221 : Q × Bool := ((.eq (.bi .sel txPt23 (.int 5)) (.bi .sel (.var 6) (.int 5))), true)
abbrev asPt222 : Q × Bool := ((.eq (.bi .sel txPt23 (.int 6)) (.bi .sel (.var 6) (.int 6))), true)
abbrev asPt223 : Q × Bool := ((.eq (.bi .sel txPt23 (.int 7)) (.bi .sel (.var 6) (.int 7))), true)
abbrev asPt224 : Q × Bool := ((.eq (.bi .sel txPt23 (.int 8)) (.bi .sel (.var 6) (.int 8))), true)
abbrev asPt225 : Q × Bool := ((.eq (.bi .sel txPt23 (.int 9)) (.bi .sel (.var 6) (.int 9))), true)
abbrev asPt226 : Q × Bool := ((.eq (.bi .sel txPt23 (.int 10)) (.bi .sel (.var 6) (.int 10))), true)
abbrev asPt227 : Q × Bool := ((.eq (.bi .sel txPt23 (.int 11)) (.bi .sel (.var 6) (.int 11))), true)
abbrev asPt228 : Q × Bool := ((.eq (.bi .sel txPt23 (.int 12)) (.bi .sel (.var 6) (.int 12))), true)
abbrev asPt229 : Q × Bool := ((.eq (.bi .sel txPt23 (.int 13)) (.bi .sel (.var 6) (.int 13))), true)
abbrev asPt230 : Q × Bool := ((.eq (.bi .sel txPt23 (.int 14)) (.bi .sel (.var 6) (.int 14))), true)
abbrev asPt231 : Q × Bool := ((.eq (.bi .sel txPt23 (.int 15)) (.bi .sel (.var 6) (.int 15))), true)
def getY_t0 : List (Q × Bool) := [asPt20, asPt21, asPt22, asPt23, asPt24, asPt25, asPt26, asPt27, asPt28, asPt29, asPt210, asPt211, asPt212, asPt213, asPt214, asPt215, asPt216, asPt217, asPt218, asPt219, asPt220, asPt221, asPt222, asPt223, asPt224, asPt225, asPt226, asPt227, asPt228, asPt229, asPt230, asPt231]
def getY_d0 : List Duty := [(true, txPt25, (.var 8)), (true, txPt25, (.var 8)), (true, txPt24, (.bi .add (.var 8) (.int 16))), (false, (.tr .cut (.var 5) txPt20 (.bi .add txPt20 txPt24)), (.tr .cut (.var 5) txPt20 zPt21))]
theorem getY_y0 : endC getY [(5, 9), (3, 3)] 1000 (callC Tryd.prog (tellA getY_t0) [] [(41, recT), (41, recB), (41, recS), (41, recY), (38, chunkY), (38, chunkN)] [] 3000 40 22 getY) = some getY_d0 := by kernel_rfl
theorem getY_holds : CHolds Tryd.prog 22 getY F := by
 refine cholds_of sound (tableNil _ _) (specsCons recT_holds (specsCons recB_holds (specsCons recS_holds (specsCons recY_holds (specsCons chunkY_holds (specsCons chunkN_holds (specsNil _ _))))))) (oversNil _ _) (fuel := 3000) (depth := 40) (by kernel_rfl) fun d hp hR hA => ?_
 have hp := allTold'_iff.2 hp
 simp only [getY, tl] at hp hR hA
 simp only [F77, argsE, tl] at hp
 obtain ⟨hl, hx⟩ := hR
 rw [ask_at (by omega) (by omega) (by omega)] at hp
 have hS := seg_len (d 6).ints
 have hA6 := seg_at (d 6).ints
 generalize List.take 16 (segI (d 6).ints (Int.toNat 0) (Int.toNat 16)) = id at hp hS hA6
 have hq := size_in (prt (d 5).ints ((d 1).toInt + (d 7).toInt) ((d 1).toInt + (d 2).toInt))
 have hr := fun (h1 : (d 7).toInt < 0 ∨ (d 2).toInt < (d 7).toInt) => hp.2.2.symm.trans (if_pos h1)
 have c1 : ¬ ((d 7).toInt < 0 ∨ (d 2).toInt < (d 7).toInt) := fun h1 => by
  have := hr h1
  omega
 rw [if_neg c1] at hp
 have c2 : ¬ (sizeI (prt (d 5).ints ((d 1).toInt + (d 7).toInt) ((d 1).toInt + (d 2).toInt)) = 0 ∨ sizeI (prt (d 5).ints ((d 1).toInt + (d 7).toInt) ((d 1).toInt + (d 2).toInt)) ≠ (d 8).toInt ∨ (d 2).toInt - (d 7).toInt < (d 8).toInt + 26) := fun h1 => by
  have := hp.2.2.symm.trans (if_pos h1)
  omega
 rw [if_neg c2] at hp
 have hs : sizeI (prt (d 5).ints ((d 1).toInt + (d 7).toInt) ((d 1).toInt + (d 2).toInt)) = (d 8).toInt := by omega
 have hy := prt_length (x := (d 5).ints) (o := (d 1).toInt + ((d 7).toInt + 6)) (t := (d 1).toInt + ((d 7).toInt + 6) + 16) (by omega) (by omega) (by omega)
 have c3 : bodyI (prt (d 5).ints ((d 1).toInt + ((d 7).toInt + 6)) ((d 1).toInt + ((d 7).toInt + 6) + ((d 8).toInt + 20))) = 1 ∧ prt (d 5).ints ((d 1).toInt + ((d 7).toInt + 6)) ((d 1).toInt + ((d 7).toInt + 6) + 16) = id := by
  by_cases h : bodyI (prt (d 5).ints ((d 1).toInt + ((d 7).toInt + 6)) ((d 1).toInt + ((d 7).toInt + 6) + ((d 8).toInt + 20))) = 1 ∧ prt (d 5).ints ((d 1).toInt + ((d 7).toInt + 6)) ((d 1).toInt + ((d 7).toInt + 6) + 16) = id
  ·exact h
  ·have := hp.2.2.symm.trans (if_neg h)
   omega
 have hi : ∀ j, j < 16 → ((prt (d 5).ints ((d 1).toInt + ((d 7).toInt + 6)) ((d 1).toInt + ((d 7).toInt + 6) + 16))[j]?).getD 0 = ((d 6).ints[j]?).getD 0 := fun j hj => by rw [c3.2]; exact hA6 j hj
 have i0 := hi 0 (by decide)
 have i1 := hi 1 (by decide)
 have i2 := hi 2 (by decide)
 have i3 := hi 3 (by decide)
 have i4 := hi 4 (by decide)
 have i5 := hi 5 (by decide)
 have i6 := hi 6 (by decide)
 have i7 := hi 7 (by decide)
 have i8 := hi 8 (by decide)
 have i9 := hi 9 (by decide)
 have i10 := hi 10 (by decide)
 have i11 := hi 11 (by decide)
 have i12 := hi 12 (by decide)
 have i13 := hi 13 (by decide)
 have i14 := hi 14 (by decide)
 have i15 := hi 15 (by decide)
 refine ⟨tellA getY_t0, _, _, _, tellA_ok (allTold'_iff.1 ?_), getY_y0, dutiesTold_ok ?_⟩
 ·simp only [getY_t0, F63, F64, hs, cut_get, Int.reduceToNat, tl]
  first | omega | (simp only [and_true, true_and]; omega)
 ·simp only [getY_d0, F63, hs, tl]
  refine ⟨by omega, by omega, by omega, ?_⟩
  rw [show (d 1).toInt + ((d 7).toInt + 6) + ((d 8).toInt + 20 + -4) = (d 1).toInt + ((d 7).toInt + ((d 8).toInt + 22)) by omega]

end Go.Proofs.YtidjfojcifjdjaaDoor.Pt2
