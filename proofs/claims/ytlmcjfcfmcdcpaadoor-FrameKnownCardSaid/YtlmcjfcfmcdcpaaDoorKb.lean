/-
  Contracts of this seat: what loops and calls leave, for all inputs. No condition.
-/
import Derived.Test.YtlmcjfcfmcdcpaaDoorSycp
import Derived.Test.YtlmcjfcfmcdcpaaDoorCo
import Derived.Test.YtlmcjfcfmcdcpaaDoorKa
import Derived.Test.YtlmcjfcfmcdcpaaDoorKm
import Derived.Test.YtlmcjfcfmcdcpaaDoorKx
import Derived.Test.YtlmcjfcfmcdcpaaDoorKf
import Derived.Test.YtlmcjfcfmcdcpaaDoorKl
set_option linter.unusedSimpArgs false
set_option linter.unusedVariables false
namespace Go.Proofs.YtlmcjfcfmcdcpaaDoor.Kb
open Go.RowKit Go.Ev Go.Proofs.YtlmcjfcfmcdcpaaDoor.Co

open Go.Proofs.YtlmcjfcfmcdcpaaDoor.Ka
open Go.Proofs.YtlmcjfcfmcdcpaaDoor.Km
open Go.Proofs.YtlmcjfcfmcdcpaaDoor.Kx
open Go.Proofs.YtlmcjfcfmcdcpaaDoor.Kf
open Go.Proofs.YtlmcjfcfmcdcpaaDoor.Kl

def gchkYO : CSpec := { args := [.sslice 3 (.var 1) (.var 2) (.var 3) true], next := 2, rows := [(3, .eseq ⟨.u8, .var 4, .var 5⟩)], pre := [(.le (.bi .add (.var 1) (.var 2)) (.var 4), true), (.le (.int 5) (.var 2), true), (.le (.var 2) (.int 1000000), true), (.eq (.fn 14 (argsE [.var 5, .var 1, .bi .add (.var 1) (.var 2)])) (.int 1), true)], res := .tuple [.sslice 5 (.int 0) (.bi .add (.var 2) (.int (-4))) (.bi .add (.var 2) (.int (-4))) true, .int .i64 0], frows := [(5, .seq ⟨5, .u8, .bi .add (.var 2) (.int (-4)), .tr .cut (.var 5) (.var 1) (.bi .add (.var 1) (.bi .add (.var 2) (.int (-4)))), true, false⟩)], same := [] }
abbrev asKb0 : Q × Bool := ((.fit .i64 (.var 2)), true)
abbrev asKb1 : Q × Bool := ((.fit .i64 (.bi .add (.var 2) (.int (-4)))), true)
abbrev asKb2 : Q × Bool := ((.le (.int 0) (.bi .add (.var 2) (.int (-4)))), true)
abbrev asKb3 : Q × Bool := ((.le (.bi .add (.var 2) (.int (-4))) (.var 3)), true)
abbrev asKb4 : Q × Bool := ((.le (.bi .add (.var 2) (.int (-4))) (.var 2)), true)
abbrev asKb5 : Q × Bool := ((.le (.var 2) (.var 3)), true)
abbrev asKb6 : Q × Bool := ((.le (.int 4) (.bi .sub (.var 2) (.bi .add (.var 2) (.int (-4))))), true)
abbrev asKb7 : Q × Bool := ((.le (.int 0) (.bi .add (.var 1) (.bi .add (.var 2) (.int (-4))))), true)
abbrev asKb8 : Q × Bool := ((.le (.bi .add (.bi .add (.var 1) (.bi .add (.var 2) (.int (-4)))) (.int 4)) (.var 4)), true)
abbrev asKb9 : Q × Bool := ((.le (.bi .add (.var 1) (.bi .add (.var 2) (.int (-4)))) (.var 4)), true)
abbrev asKb10 : Q × Bool := ((.le (.bi .add (.var 2) (.int (-4))) (.int 1000000)), true)
abbrev asKb11 : Q × Bool := ((.eq (.un (.wrap .u8) (.fn 2 (.bi .pair (.int 0) (.bi .pair (.var 5) (.bi .pair (.var 1) (.bi .pair (.bi .add (.var 1) (.bi .add (.var 2) (.int (-4)))) (.int 0))))))) (.bi .sel (.var 5) (.bi .add (.var 1) (.bi .add (.var 2) (.int (-4)))))), true)
abbrev asKb12 : Q × Bool := ((.eq (.un (.wrap .u8) (.bi (.iop .shr .u32) (.fn 2 (.bi .pair (.int 0) (.bi .pair (.var 5) (.bi .pair (.var 1) (.bi .pair (.bi .add (.var 1) (.bi .add (.var 2) (.int (-4)))) (.int 0)))))) (.int 8))) (.bi .sel (.var 5) (.bi .add (.bi .add (.var 1) (.bi .add (.var 2) (.int (-4)))) (.int 1)))), true)
abbrev asKb13 : Q × Bool := ((.eq (.un (.wrap .u8) (.bi (.iop .shr .u32) (.fn 2 (.bi .pair (.int 0) (.bi .pair (.var 5) (.bi .pair (.var 1) (.bi .pair (.bi .add (.var 1) (.bi .add (.var 2) (.int (-4)))) (.int 0)))))) (.int 16))) (.bi .sel (.var 5) (.bi .add (.bi .add (.var 1) (.bi .add (.var 2) (.int (-4)))) (.int 2)))), true)
abbrev asKb14 : Q × Bool := ((.eq (.un (.wrap .u8) (.bi (.iop .shr .u32) (.fn 2 (.bi .pair (.int 0) (.bi .pair (.var 5) (.bi .pair (.var 1) (.bi .pair (.bi .add (.var 1) (.bi .add (.var 2) (.int (-4)))) (.int 0)))))) (.int 24))) (.bi .sel (.var 5) (.bi .add (.bi .add (.var 1) (.bi .add (.var 2) (.int (-4)))) (.int 3)))), true)
abbrev asKb15 : Q × Bool := ((.le (.bi .mul (.bi .add (.var 2) (.int (-4))) (.int 2)) (.int 281474976710656)), true)
def gchkYO_t0 : List (Q × Bool) := [asKb0, asKb1, asKb2, asKb3, asKb4, asKb5, asKb6, asKb7, asKb8, asKb9, asKb10, asKb11, asKb12, asKb13, asKb14, asKb15]
def gchkYO_d0 : List Duty := []
theorem gchkYO_y0 : endC gchkYO [(5, 9)] 1000 (callC Tryd.prog (tellA gchkYO_t0) [⟨50, [4, 1, 0, 1, 1, 1], moreL⟩, ⟨50, [4, 1, 0, 1, 1, 1], moreLO⟩] [(52, tableC), (50, moreC), (50, moreCO)] [] 3000 40 25 gchkYO) = some gchkYO_d0 := by kernel_rfl
theorem gchkYO_holds : CHolds Tryd.prog 25 gchkYO F := by
  refine cholds_of sound (tableCons moreL_holds (tableCons moreLO_holds (tableNil _ _))) (specsCons tableC_holds (specsCons moreC_holds (specsCons moreCO_holds (specsNil _ _)))) (oversNil _ _) (fuel := 3000) (depth := 40) (by kernel_rfl) fun d hp hR hA => ?_
  have hp := allTold'_iff.2 hp
  simp only [gchkYO, allTold', dutiesTold, factsA, factsC, factsP, factsR, AV.facts, RW.facts, inK, and_true, Q.holds', E.i, E.s, E.n, D.nat, E.den, BO.den, UO.den, TO.den, D.toInt_int, D.toList_list, D.ints_ofInts, i64min, i64max, u8min, u8max, u16min, u16max, u32min, u32max, u64min, u64max, i32min, i32max, Om.sub, selI, ints_app, ints_cut, ints_upd, ints_rep, ints_splice, ints_seg, len_ints] at hp hR hA
  simp only [F14, argsE, allTold', dutiesTold, factsA, factsC, factsP, factsR, AV.facts, RW.facts, inK, and_true, Q.holds', E.i, E.s, E.n, D.nat, E.den, BO.den, UO.den, TO.den, D.toInt_int, D.toList_list, D.ints_ofInts, i64min, i64max, u8min, u8max, u16min, u16max, u32min, u32max, u64min, u64max, i32min, i32max, Om.sub, selI, ints_app, ints_cut, ints_upd, ints_rep, ints_splice, ints_seg, len_ints] at hp
  obtain ⟨hl, hx⟩ := hR
  have g := good_iff (x := (d 5).ints) (o := (d 1).toInt) (l := (d 2).toInt) (by omega) (by omega) (by omega)
  obtain ⟨c0, c1, c2, c3⟩ := g.1 hp.2.2.2
  refine ⟨tellA gchkYO_t0, _, _, _, tellA_ok (allTold'_iff.1 ?_), gchkYO_y0, dutiesTold_ok ?_⟩
  · simp only [gchkYO_t0, F2, allTold', dutiesTold, factsA, factsC, factsP, factsR, AV.facts, RW.facts, inK, and_true, Q.holds', E.i, E.s, E.n, D.nat, E.den, BO.den, UO.den, TO.den, D.toInt_int, D.toList_list, D.ints_ofInts, i64min, i64max, u8min, u8max, u16min, u16max, u32min, u32max, u64min, u64max, i32min, i32max, Om.sub, selI, ints_app, ints_cut, ints_upd, ints_rep, ints_splice, ints_seg, len_ints]
    and_intros <;> first | omega | exact c0 | exact c1 | exact c2 | exact c3 | rfl
  · trivial

def gchkNO : CSpec := { args := [.sslice 3 (.var 1) (.var 2) (.var 3) true], next := 2, rows := [(3, .eseq ⟨.u8, .var 4, .var 5⟩)], pre := [(.le (.bi .add (.var 1) (.var 2)) (.var 4), true), (.le (.int 5) (.var 2), true), (.le (.var 2) (.int 1000000), true), (.eq (.fn 14 (argsE [.var 5, .var 1, .bi .add (.var 1) (.var 2)])) (.int 1), false)], res := .tuple [.nilslice, .int .i64 4], frows := [], same := [] }
abbrev asKb16 : Q × Bool := ((.eq (.un (.wrap .u8) (.fn 2 (.bi .pair (.int 0) (.bi .pair (.var 5) (.bi .pair (.var 1) (.bi .pair (.bi .add (.var 1) (.bi .add (.var 2) (.int (-4)))) (.int 0))))))) (.bi .sel (.var 5) (.bi .add (.var 1) (.bi .add (.var 2) (.int (-4)))))), false)
def gchkNO_t0 : List (Q × Bool) := [asKb0, asKb1, asKb2, asKb3, asKb4, asKb5, asKb6, asKb7, asKb8, asKb9, asKb10, asKb16]
def gchkNO_d0 : List Duty := []
theorem gchkNO_y0 : endC gchkNO [] 1000 (callC Tryd.prog (tellA gchkNO_t0) [⟨50, [4, 1, 0, 1, 1, 1], moreL⟩, ⟨50, [4, 1, 0, 1, 1, 1], moreLO⟩] [(52, tableC), (50, moreC), (50, moreCO)] [] 3000 40 25 gchkNO) = some gchkNO_d0 := by kernel_rfl
abbrev asKb17 : Q × Bool := ((.eq (.un (.wrap .u8) (.bi (.iop .shr .u32) (.fn 2 (.bi .pair (.int 0) (.bi .pair (.var 5) (.bi .pair (.var 1) (.bi .pair (.bi .add (.var 1) (.bi .add (.var 2) (.int (-4)))) (.int 0)))))) (.int 8))) (.bi .sel (.var 5) (.bi .add (.bi .add (.var 1) (.bi .add (.var 2) (.int (-4)))) (.int 1)))), false)
def gchkNO_t1 : List (Q × Bool) := [asKb0, asKb1, asKb2, asKb3, asKb4, asKb5, asKb6, asKb7, asKb8, asKb9, asKb10, asKb11, asKb17]
def gchkNO_d1 : List Duty := []
theorem gchkNO_y1 : endC gchkNO [] 1000 (callC Tryd.prog (tellA gchkNO_t1) [⟨50, [4, 1, 0, 1, 1, 1], moreL⟩, ⟨50, [4, 1, 0, 1, 1, 1], moreLO⟩] [(52, tableC), (50, moreC), (50, moreCO)] [] 3000 40 25 gchkNO) = some gchkNO_d1 := by kernel_rfl
abbrev asKb18 : Q × Bool := ((.eq (.un (.wrap .u8) (.bi (.iop .shr .u32) (.fn 2 (.bi .pair (.int 0) (.bi .pair (.var 5) (.bi .pair (.var 1) (.bi .pair (.bi .add (.var 1) (.bi .add (.var 2) (.int (-4)))) (.int 0)))))) (.int 16))) (.bi .sel (.var 5) (.bi .add (.bi .add (.var 1) (.bi .add (.var 2) (.int (-4)))) (.int 2)))), false)
def gchkNO_t2 : List (Q × Bool) := [asKb0, asKb1, asKb2, asKb3, asKb4, asKb5, asKb6, asKb7, asKb8, asKb9, asKb10, asKb11, asKb12, asKb18]
def gchkNO_d2 : List Duty := []
theorem gchkNO_y2 : endC gchkNO [] 1000 (callC Tryd.prog (tellA gchkNO_t2) [⟨50, [4, 1, 0, 1, 1, 1], moreL⟩, ⟨50, [4, 1, 0, 1, 1, 1], moreLO⟩] [(52, tableC), (50, moreC), (50, moreCO)] [] 3000 40 25 gchkNO) = some gchkNO_d2 := by kernel_rfl
abbrev asKb19 : Q × Bool := ((.eq (.un (.wrap .u8) (.bi (.iop .shr .u32) (.fn 2 (.bi .pair (.int 0) (.bi .pair (.var 5) (.bi .pair (.var 1) (.bi .pair (.bi .add (.var 1) (.bi .add (.var 2) (.int (-4)))) (.int 0)))))) (.int 24))) (.bi .sel (.var 5) (.bi .add (.bi .add (.var 1) (.bi .add (.var 2) (.int (-4)))) (.int 3)))), false)
def gchkNO_t3 : List (Q × Bool) := [asKb0, asKb1, asKb2, asKb3, asKb4, asKb5, asKb6, asKb7, asKb8, asKb9, asKb10, asKb11, asKb12, asKb13, asKb19]
def gchkNO_d3 : List Duty := []
theorem gchkNO_y3 : endC gchkNO [] 1000 (callC Tryd.prog (tellA gchkNO_t3) [⟨50, [4, 1, 0, 1, 1, 1], moreL⟩, ⟨50, [4, 1, 0, 1, 1, 1], moreLO⟩] [(52, tableC), (50, moreC), (50, moreCO)] [] 3000 40 25 gchkNO) = some gchkNO_d3 := by kernel_rfl
theorem gchkNO_holds : CHolds Tryd.prog 25 gchkNO F := by
  refine cholds_of sound (tableCons moreL_holds (tableCons moreLO_holds (tableNil _ _))) (specsCons tableC_holds (specsCons moreC_holds (specsCons moreCO_holds (specsNil _ _)))) (oversNil _ _) (fuel := 3000) (depth := 40) (by kernel_rfl) fun d hp hR hA => ?_
  have hp := allTold'_iff.2 hp
  simp only [gchkNO, allTold', dutiesTold, factsA, factsC, factsP, factsR, AV.facts, RW.facts, inK, and_true, Q.holds', E.i, E.s, E.n, D.nat, E.den, BO.den, UO.den, TO.den, D.toInt_int, D.toList_list, D.ints_ofInts, i64min, i64max, u8min, u8max, u16min, u16max, u32min, u32max, u64min, u64max, i32min, i32max, Om.sub, selI, ints_app, ints_cut, ints_upd, ints_rep, ints_splice, ints_seg, len_ints] at hp hR hA
  simp only [F14, argsE, allTold', dutiesTold, factsA, factsC, factsP, factsR, AV.facts, RW.facts, inK, and_true, Q.holds', E.i, E.s, E.n, D.nat, E.den, BO.den, UO.den, TO.den, D.toInt_int, D.toList_list, D.ints_ofInts, i64min, i64max, u8min, u8max, u16min, u16max, u32min, u32max, u64min, u64max, i32min, i32max, Om.sub, selI, ints_app, ints_cut, ints_upd, ints_rep, ints_splice, ints_seg, len_ints] at hp
  obtain ⟨hl, hx⟩ := hR
  have g := good_iff (x := (d 5).ints) (o := (d 1).toInt) (l := (d 2).toInt) (by omega) (by omega) (by omega)
  by_cases c0 : IntKind.u8.wrap (notI (moreI (notI 0) (prt (d 5).ints (d 1).toInt ((d 1).toInt + ((d 2).toInt + -4))))) = ((d 5).ints[((d 1).toInt + ((d 2).toInt + -4)).toNat]?).getD 0
  · by_cases c1 : IntKind.u8.wrap (iopI .shr .u32 (notI (moreI (notI 0) (prt (d 5).ints (d 1).toInt ((d 1).toInt + ((d 2).toInt + -4))))) 8) = ((d 5).ints[((d 1).toInt + ((d 2).toInt + -4) + 1).toNat]?).getD 0
    · by_cases c2 : IntKind.u8.wrap (iopI .shr .u32 (notI (moreI (notI 0) (prt (d 5).ints (d 1).toInt ((d 1).toInt + ((d 2).toInt + -4))))) 16) = ((d 5).ints[((d 1).toInt + ((d 2).toInt + -4) + 2).toNat]?).getD 0
      · by_cases c3 : IntKind.u8.wrap (iopI .shr .u32 (notI (moreI (notI 0) (prt (d 5).ints (d 1).toInt ((d 1).toInt + ((d 2).toInt + -4))))) 24) = ((d 5).ints[((d 1).toInt + ((d 2).toInt + -4) + 3).toNat]?).getD 0
        · exact (hp.2.2.2 (g.2 ⟨c0, c1, c2, c3⟩)).elim
        · refine ⟨tellA gchkNO_t3, _, _, _, tellA_ok (allTold'_iff.1 ?_), gchkNO_y3, dutiesTold_ok ?_⟩
          · simp only [gchkNO_t3, F2, allTold', dutiesTold, factsA, factsC, factsP, factsR, AV.facts, RW.facts, inK, and_true, Q.holds', E.i, E.s, E.n, D.nat, E.den, BO.den, UO.den, TO.den, D.toInt_int, D.toList_list, D.ints_ofInts, i64min, i64max, u8min, u8max, u16min, u16max, u32min, u32max, u64min, u64max, i32min, i32max, Om.sub, selI, ints_app, ints_cut, ints_upd, ints_rep, ints_splice, ints_seg, len_ints]
            and_intros <;> first | omega | exact c0 | exact c1 | exact c2 | exact c3 | rfl
          · trivial
      · refine ⟨tellA gchkNO_t2, _, _, _, tellA_ok (allTold'_iff.1 ?_), gchkNO_y2, dutiesTold_ok ?_⟩
        · simp only [gchkNO_t2, F2, allTold', dutiesTold, factsA, factsC, factsP, factsR, AV.facts, RW.facts, inK, and_true, Q.holds', E.i, E.s, E.n, D.nat, E.den, BO.den, UO.den, TO.den, D.toInt_int, D.toList_list, D.ints_ofInts, i64min, i64max, u8min, u8max, u16min, u16max, u32min, u32max, u64min, u64max, i32min, i32max, Om.sub, selI, ints_app, ints_cut, ints_upd, ints_rep, ints_splice, ints_seg, len_ints]
          and_intros <;> first | omega | exact c0 | exact c1 | exact c2 | exact c3 | rfl
        · trivial
    · refine ⟨tellA gchkNO_t1, _, _, _, tellA_ok (allTold'_iff.1 ?_), gchkNO_y1, dutiesTold_ok ?_⟩
      · simp only [gchkNO_t1, F2, allTold', dutiesTold, factsA, factsC, factsP, factsR, AV.facts, RW.facts, inK, and_true, Q.holds', E.i, E.s, E.n, D.nat, E.den, BO.den, UO.den, TO.den, D.toInt_int, D.toList_list, D.ints_ofInts, i64min, i64max, u8min, u8max, u16min, u16max, u32min, u32max, u64min, u64max, i32min, i32max, Om.sub, selI, ints_app, ints_cut, ints_upd, ints_rep, ints_splice, ints_seg, len_ints]
        and_intros <;> first | omega | exact c0 | exact c1 | exact c2 | exact c3 | rfl
      · trivial
  · refine ⟨tellA gchkNO_t0, _, _, _, tellA_ok (allTold'_iff.1 ?_), gchkNO_y0, dutiesTold_ok ?_⟩
    · simp only [gchkNO_t0, F2, allTold', dutiesTold, factsA, factsC, factsP, factsR, AV.facts, RW.facts, inK, and_true, Q.holds', E.i, E.s, E.n, D.nat, E.den, BO.den, UO.den, TO.den, D.toInt_int, D.toList_list, D.ints_ofInts, i64min, i64max, u8min, u8max, u16min, u16max, u32min, u32max, u64min, u64max, i32min, i32max, Om.sub, selI, ints_app, ints_cut, ints_upd, ints_rep, ints_splice, ints_seg, len_ints]
      and_intros <;> first | omega | exact c0 | exact c1 | exact c2 | exact c3 | rfl
    · trivial

end Go.Proofs.YtlmcjfcfmcdcpaaDoor.Kb
