/-
  Contracts of this seat: what loops and calls leave, for all inputs. No condition.
-/
import Derived.Test.YtlmcjfcfmcdcpaaDoorSycp
import Derived.Test.YtlmcjfcfmcdcpaaDoorCo
import Derived.Test.YtlmcjfcfmcdcpaaDoorKa
import Derived.Test.YtlmcjfcfmcdcpaaDoorKm
import Derived.Test.YtlmcjfcfmcdcpaaDoorKx
import Derived.Test.YtlmcjfcfmcdcpaaDoorKf
import Derived.Test.YtlmcjfcfmcdcpaaDoorKl
set_option linter.unusedSimpArgs false
set_option linter.unusedVariables false
namespace Go.Proofs.YtlmcjfcfmcdcpaaDoor.K3
open Go.RowKit Go.Ev Go.Proofs.YtlmcjfcfmcdcpaaDoor.Co

open Go.Proofs.YtlmcjfcfmcdcpaaDoor.Ka
open Go.Proofs.YtlmcjfcfmcdcpaaDoor.Km
open Go.Proofs.YtlmcjfcfmcdcpaaDoor.Kx
open Go.Proofs.YtlmcjfcfmcdcpaaDoor.Kf
open Go.Proofs.YtlmcjfcfmcdcpaaDoor.Kl

def gchkY : CSpec := { args := [.sslice 3 (.var 1) (.var 2) (.var 3) false], next := 2, rows := [(3, .eseq ⟨.u8, .var 4, .var 5⟩)], pre := [(.le (.bi .add (.var 1) (.var 2)) (.var 4), true), (.le (.int 5) (.var 2), true), (.le (.var 2) (.int 1000000), true), (.eq (.fn 14 (argsE [.var 5, .var 1, .bi .add (.var 1) (.var 2)])) (.int 1), true)], res := .tuple [.sslice 5 (.int 0) (.bi .add (.var 2) (.int (-4))) (.bi .add (.var 2) (.int (-4))) true, .int .i64 0], frows := [(5, .seq ⟨5, .u8, .bi .add (.var 2) (.int (-4)), .tr .cut (.var 5) (.var 1) (.bi .add (.var 1) (.bi .add (.var 2) (.int (-4)))), true, false⟩)], same := [] }
abbrev asK30 : Q × Bool := ((.fit .i64 (.var 2)), true)
abbrev asK31 : Q × Bool := ((.fit .i64 (.bi .add (.var 2) (.int (-4)))), true)
abbrev asK32 : Q × Bool := ((.le (.int 0) (.bi .add (.var 2) (.int (-4)))), true)
abbrev asK33 : Q × Bool := ((.le (.bi .add (.var 2) (.int (-4))) (.var 3)), true)
abbrev asK34 : Q × Bool := ((.le (.bi .add (.var 2) (.int (-4))) (.var 2)), true)
abbrev asK35 : Q × Bool := ((.le (.var 2) (.var 3)), true)
abbrev asK36 : Q × Bool := ((.le (.int 4) (.bi .sub (.var 2) (.bi .add (.var 2) (.int (-4))))), true)
abbrev asK37 : Q × Bool := ((.le (.int 0) (.bi .add (.var 1) (.bi .add (.var 2) (.int (-4))))), true)
abbrev asK38 : Q × Bool := ((.le (.bi .add (.bi .add (.var 1) (.bi .add (.var 2) (.int (-4)))) (.int 4)) (.var 4)), true)
abbrev asK39 : Q × Bool := ((.le (.bi .add (.var 1) (.bi .add (.var 2) (.int (-4)))) (.var 4)), true)
abbrev asK310 : Q × Bool := ((.le (.bi .add (.var 2) (.int (-4))) (.int 1000000)), true)
abbrev asK311 : Q × Bool := ((.eq (.un (.wrap .u8) (.fn 2 (.bi .pair (.int 0) (.bi .pair (.var 5) (.bi .pair (.var 1) (.bi .pair (.bi .add (.var 1) (.bi .add (.var 2) (.int (-4)))) (.int 0))))))) (.bi .sel (.var 5) (.bi .add (.var 1) (.bi .add (.var 2) (.int (-4)))))), true)
abbrev asK312 : Q × Bool := ((.eq (.un (.wrap .u8) (.bi (.iop .shr .u32) (.fn 2 (.bi .pair (.int 0) (.bi .pair (.var 5) (.bi .pair (.var 1) (.bi .pair (.bi .add (.var 1) (.bi .add (.var 2) (.int (-4)))) (.int 0)))))) (.int 8))) (.bi .sel (.var 5) (.bi .add (.bi .add (.var 1) (.bi .add (.var 2) (.int (-4)))) (.int 1)))), true)
abbrev asK313 : Q × Bool := ((.eq (.un (.wrap .u8) (.bi (.iop .shr .u32) (.fn 2 (.bi .pair (.int 0) (.bi .pair (.var 5) (.bi .pair (.var 1) (.bi .pair (.bi .add (.var 1) (.bi .add (.var 2) (.int (-4)))) (.int 0)))))) (.int 16))) (.bi .sel (.var 5) (.bi .add (.bi .add (.var 1) (.bi .add (.var 2) (.int (-4)))) (.int 2)))), true)
abbrev asK314 : Q × Bool := ((.eq (.un (.wrap .u8) (.bi (.iop .shr .u32) (.fn 2 (.bi .pair (.int 0) (.bi .pair (.var 5) (.bi .pair (.var 1) (.bi .pair (.bi .add (.var 1) (.bi .add (.var 2) (.int (-4)))) (.int 0)))))) (.int 24))) (.bi .sel (.var 5) (.bi .add (.bi .add (.var 1) (.bi .add (.var 2) (.int (-4)))) (.int 3)))), true)
abbrev asK315 : Q × Bool := ((.le (.bi .mul (.bi .add (.var 2) (.int (-4))) (.int 2)) (.int 281474976710656)), true)
def gchkY_t0 : List (Q × Bool) := [asK30, asK31, asK32, asK33, asK34, asK35, asK36, asK37, asK38, asK39, asK310, asK311, asK312, asK313, asK314, asK315]
def gchkY_d0 : List Duty := []
theorem gchkY_y0 : endC gchkY [(5, 9)] 1000 (callC Tryd.prog (tellA gchkY_t0) [⟨50, [4, 1, 0, 1, 1, 1], moreL⟩, ⟨50, [4, 1, 0, 1, 1, 1], moreLO⟩] [(52, tableC), (50, moreC), (50, moreCO)] [] 3000 40 25 gchkY) = some gchkY_d0 := by kernel_rfl
theorem gchkY_holds : CHolds Tryd.prog 25 gchkY F := by
  refine cholds_of sound (tableCons moreL_holds (tableCons moreLO_holds (tableNil _ _))) (specsCons tableC_holds (specsCons moreC_holds (specsCons moreCO_holds (specsNil _ _)))) (oversNil _ _) (fuel := 3000) (depth := 40) (by kernel_rfl) fun d hp hR hA => ?_
  have hp := allTold'_iff.2 hp
  simp only [gchkY, allTold', dutiesTold, factsA, factsC, factsP, factsR, AV.facts, RW.facts, inK, and_true, Q.holds', E.i, E.s, E.n, D.nat, E.den, BO.den, UO.den, TO.den, D.toInt_int, D.toList_list, D.ints_ofInts, i64min, i64max, u8min, u8max, u16min, u16max, u32min, u32max, u64min, u64max, i32min, i32max, Om.sub, selI, ints_app, ints_cut, ints_upd, ints_rep, ints_splice, ints_seg, len_ints] at hp hR hA
  simp only [F14, argsE, allTold', dutiesTold, factsA, factsC, factsP, factsR, AV.facts, RW.facts, inK, and_true, Q.holds', E.i, E.s, E.n, D.nat, E.den, BO.den, UO.den, TO.den, D.toInt_int, D.toList_list, D.ints_ofInts, i64min, i64max, u8min, u8max, u16min, u16max, u32min, u32max, u64min, u64max, i32min, i32max, Om.sub, selI, ints_app, ints_cut, ints_upd, ints_rep, ints_splice, ints_seg, len_ints] at hp
  obtain ⟨hl, hx⟩ := hR
  have g := good_iff (x := (d 5).ints) (o := (d 1).toInt) (l := (d 2).toInt) (by omega) (by omega) (by omega)
  obtain ⟨c0, c1, c2, c3⟩ := g.1 hp.2.2.2
  refine ⟨tellA gchkY_t0, _, _, _, tellA_ok (allTold'_iff.1 ?_), gchkY_y0, dutiesTold_ok ?_⟩
  · simp only [gchkY_t0, F2, allTold', dutiesTold, factsA, factsC, factsP, factsR, AV.facts, RW.facts, inK, and_true, Q.holds', E.i, E.s, E.n, D.nat, E.den, BO.den, UO.den, TO.den, D.toInt_int, D.toList_list, D.ints_ofInts, i64min, i64max, u8min, u8max, u16min, u16max, u32min, u32max, u64min, u64max, i32min, i32max, Om.sub, selI, ints_app, ints_cut, ints_upd, ints_rep, ints_splice, ints_seg, len_ints]
    and_intros <;> first | omega | exact c0 | exact c1 | exact c2 | exact c3 | rfl
  · trivial

def gchkN : CSpec := { args := [.sslice 3 (.var 1) (.var 2) (.var 3) false], next := 2, rows := [(3, .eseq ⟨.u8, .var 4, .var 5⟩)], pre := [(.le (.bi .add (.var 1) (.var 2)) (.var 4), true), (.le (.int 5) (.var 2), true), (.le (.var 2) (.int 1000000), true), (.eq (.fn 14 (argsE [.var 5, .var 1, .bi .add (.var 1) (.var 2)])) (.int 1), false)], res := .tuple [.nilslice, .int .i64 4], frows := [], same := [] }
abbrev asK316 : Q × Bool := ((.eq (.un (.wrap .u8) (.fn 2 (.bi .pair (.int 0) (.bi .pair (.var 5) (.bi .pair (.var 1) (.bi .pair (.bi .add (.var 1) (.bi .add (.var 2) (.int (-4)))) (.int 0))))))) (.bi .sel (.var 5) (.bi .add (.var 1) (.bi .add (.var 2) (.int (-4)))))), false)
def gchkN_t0 : List (Q × Bool) := [asK30, asK31, asK32, asK33, asK34, asK35, asK36, asK37, asK38, asK39, asK310, asK316]
def gchkN_d0 : List Duty := []
theorem gchkN_y0 : endC gchkN [] 1000 (callC Tryd.prog (tellA gchkN_t0) [⟨50, [4, 1, 0, 1, 1, 1], moreL⟩, ⟨50, [4, 1, 0, 1, 1, 1], moreLO⟩] [(52, tableC), (50, moreC), (50, moreCO)] [] 3000 40 25 gchkN) = some gchkN_d0 := by kernel_rfl
abbrev asK317 : Q × Bool := ((.eq (.un (.wrap .u8) (.bi (.iop .shr .u32) (.fn 2 (.bi .pair (.int 0) (.bi .pair (.var 5) (.bi .pair (.var 1) (.bi .pair (.bi .add (.var 1) (.bi .add (.var 2) (.int (-4)))) (.int 0)))))) (.int 8))) (.bi .sel (.var 5) (.bi .add (.bi .add (.var 1) (.bi .add (.var 2) (.int (-4)))) (.int 1)))), false)
def gchkN_t1 : List (Q × Bool) := [asK30, asK31, asK32, asK33, asK34, asK35, asK36, asK37, asK38, asK39, asK310, asK311, asK317]
def gchkN_d1 : List Duty := []
theorem gchkN_y1 : endC gchkN [] 1000 (callC Tryd.prog (tellA gchkN_t1) [⟨50, [4, 1, 0, 1, 1, 1], moreL⟩, ⟨50, [4, 1, 0, 1, 1, 1], moreLO⟩] [(52, tableC), (50, moreC), (50, moreCO)] [] 3000 40 25 gchkN) = some gchkN_d1 := by kernel_rfl
abbrev asK318 : Q × Bool := ((.eq (.un (.wrap .u8) (.bi (.iop .shr .u32) (.fn 2 (.bi .pair (.int 0) (.bi .pair (.var 5) (.bi .pair (.var 1) (.bi .pair (.bi .add (.var 1) (.bi .add (.var 2) (.int (-4)))) (.int 0)))))) (.int 16))) (.bi .sel (.var 5) (.bi .add (.bi .add (.var 1) (.bi .add (.var 2) (.int (-4)))) (.int 2)))), false)
def gchkN_t2 : List (Q × Bool) := [asK30, asK31, asK32, asK33, asK34, asK35, asK36, asK37, asK38, asK39, asK310, asK311, asK312, asK318]
def gchkN_d2 : List Duty := []
theorem gchkN_y2 : endC gchkN [] 1000 (callC Tryd.prog (tellA gchkN_t2) [⟨50, [4, 1, 0, 1, 1, 1], moreL⟩, ⟨50, [4, 1, 0, 1, 1, 1], moreLO⟩] [(52, tableC), (50, moreC), (50, moreCO)] [] 3000 40 25 gchkN) = some gchkN_d2 := by kernel_rfl
abbrev asK319 : Q × Bool := ((.eq (.un (.wrap .u8) (.bi (.iop .shr .u32) (.fn 2 (.bi .pair (.int 0) (.bi .pair (.var 5) (.bi .pair (.var 1) (.bi .pair (.bi .add (.var 1) (.bi .add (.var 2) (.int (-4)))) (.int 0)))))) (.int 24))) (.bi .sel (.var 5) (.bi .add (.bi .add (.var 1) (.bi .add (.var 2) (.int (-4)))) (.int 3)))), false)
def gchkN_t3 : List (Q × Bool) := [asK30, asK31, asK32, asK33, asK34, asK35, asK36, asK37, asK38, asK39, asK310, asK311, asK312, asK313, asK319]
def gchkN_d3 : List Duty := []
theorem gchkN_y3 : endC gchkN [] 1000 (callC Tryd.prog (tellA gchkN_t3) [⟨50, [4, 1, 0, 1, 1, 1], moreL⟩, ⟨50, [4, 1, 0, 1, 1, 1], moreLO⟩] [(52, tableC), (50, moreC), (50, moreCO)] [] 3000 40 25 gchkN) = some gchkN_d3 := by kernel_rfl
theorem gchkN_holds : CHolds Tryd.prog 25 gchkN F := by
  refine cholds_of sound (tableCons moreL_holds (tableCons moreLO_holds (tableNil _ _))) (specsCons tableC_holds (specsCons moreC_holds (specsCons moreCO_holds (specsNil _ _)))) (oversNil _ _) (fuel := 3000) (depth := 40) (by kernel_rfl) fun d hp hR hA => ?_
  have hp := allTold'_iff.2 hp
  simp only [gchkN, allTold', dutiesTold, factsA, factsC, factsP, factsR, AV.facts, RW.facts, inK, and_true, Q.holds', E.i, E.s, E.n, D.nat, E.den, BO.den, UO.den, TO.den, D.toInt_int, D.toList_list, D.ints_ofInts, i64min, i64max, u8min, u8max, u16min, u16max, u32min, u32max, u64min, u64max, i32min, i32max, Om.sub, selI, ints_app, ints_cut, ints_upd, ints_rep, ints_splice, ints_seg, len_ints] at hp hR hA
  simp only [F14, argsE, allTold', dutiesTold, factsA, factsC, factsP, factsR, AV.facts, RW.facts, inK, and_true, Q.holds', E.i, E.s, E.n, D.nat, E.den, BO.den, UO.den, TO.den, D.toInt_int, D.toList_list, D.ints_ofInts, i64min, i64max, u8min, u8max, u16min, u16max, u32min, u32max, u64min, u64max, i32min, i32max, Om.sub, selI, ints_app, ints_cut, ints_upd, ints_rep, ints_splice, ints_seg, len_ints] at hp
  obtain ⟨hl, hx⟩ := hR
  have g := good_iff (x := (d 5).ints) (o := (d 1).toInt) (l := (d 2).toInt) (by omega) (by omega) (by omega)
  by_cases c0 : IntKind.u8.wrap (notI (moreI (notI 0) (prt (d 5).ints (d 1).toInt ((d 1).toInt + ((d 2).toInt + -4))))) = ((d 5).ints[((d 1).toInt + ((d 2).toInt + -4)).toNat]?).getD 0
  · by_cases c1 : IntKind.u8.wrap (iopI .shr .u32 (notI (moreI (notI 0) (prt (d 5).ints (d 1).toInt ((d 1).toInt + ((d 2).toInt + -4))))) 8) = ((d 5).ints[((d 1).toInt + ((d 2).toInt + -4) + 1).toNat]?).getD 0
    · by_cases c2 : IntKind.u8.wrap (iopI .shr .u32 (notI (moreI (notI 0) (prt (d 5).ints (d 1).toInt ((d 1).toInt + ((d 2).toInt + -4))))) 16) = ((d 5).ints[((d 1).toInt + ((d 2).toInt + -4) + 2).toNat]?).getD 0
      · by_cases c3 : IntKind.u8.wrap (iopI .shr .u32 (notI (moreI (notI 0) (prt (d 5).ints (d 1).toInt ((d 1).toInt + ((d 2).toInt + -4))))) 24) = ((d 5).ints[((d 1).toInt + ((d 2).toInt + -4) + 3).toNat]?).getD 0
        · exact (hp.2.2.2 (g.2 ⟨c0, c1, c2, c3⟩)).elim
        · refine ⟨tellA gchkN_t3, _, _, _, tellA_ok (allTold'_iff.1 ?_), gchkN_y3, dutiesTold_ok ?_⟩
          · simp only [gchkN_t3, F2, allTold', dutiesTold, factsA, factsC, factsP, factsR, AV.facts, RW.facts, inK, and_true, Q.holds', E.i, E.s, E.n, D.nat, E.den, BO.den, UO.den, TO.den, D.toInt_int, D.toList_list, D.ints_ofInts, i64min, i64max, u8min, u8max, u16min, u16max, u32min, u32max, u64min, u64max, i32min, i32max, Om.sub, selI, ints_app, ints_cut, ints_upd, ints_rep, ints_splice, ints_seg, len_ints]
            and_intros <;> first | omega | exact c0 | exact c1 | exact c2 | exact c3 | rfl
          · trivial
      · refine ⟨tellA gchkN_t2, _, _, _, tellA_ok (allTold'_iff.1 ?_), gchkN_y2, dutiesTold_ok ?_⟩
        · simp only [gchkN_t2, F2, allTold', dutiesTold, factsA, factsC, factsP, factsR, AV.facts, RW.facts, inK, and_true, Q.holds', E.i, E.s, E.n, D.nat, E.den, BO.den, UO.den, TO.den, D.toInt_int, D.toList_list, D.ints_ofInts, i64min, i64max, u8min, u8max, u16min, u16max, u32min, u32max, u64min, u64max, i32min, i32max, Om.sub, selI, ints_app, ints_cut, ints_upd, ints_rep, ints_splice, ints_seg, len_ints]
          and_intros <;> first | omega | exact c0 | exact c1 | exact c2 | exact c3 | rfl
        · trivial
    · refine ⟨tellA gchkN_t1, _, _, _, tellA_ok (allTold'_iff.1 ?_), gchkN_y1, dutiesTold_ok ?_⟩
      · simp only [gchkN_t1, F2, allTold', dutiesTold, factsA, factsC, factsP, factsR, AV.facts, RW.facts, inK, and_true, Q.holds', E.i, E.s, E.n, D.nat, E.den, BO.den, UO.den, TO.den, D.toInt_int, D.toList_list, D.ints_ofInts, i64min, i64max, u8min, u8max, u16min, u16max, u32min, u32max, u64min, u64max, i32min, i32max, Om.sub, selI, ints_app, ints_cut, ints_upd, ints_rep, ints_splice, ints_seg, len_ints]
        and_intros <;> first | omega | exact c0 | exact c1 | exact c2 | exact c3 | rfl
      · trivial
  · refine ⟨tellA gchkN_t0, _, _, _, tellA_ok (allTold'_iff.1 ?_), gchkN_y0, dutiesTold_ok ?_⟩
    · simp only [gchkN_t0, F2, allTold', dutiesTold, factsA, factsC, factsP, factsR, AV.facts, RW.facts, inK, and_true, Q.holds', E.i, E.s, E.n, D.nat, E.den, BO.den, UO.den, TO.den, D.toInt_int, D.toList_list, D.ints_ofInts, i64min, i64max, u8min, u8max, u16min, u16max, u32min, u32max, u64min, u64max, i32min, i32max, Om.sub, selI, ints_app, ints_cut, ints_upd, ints_rep, ints_splice, ints_seg, len_ints]
      and_intros <;> first | omega | exact c0 | exact c1 | exact c2 | exact c3 | rfl
    · trivial

end Go.Proofs.YtlmcjfcfmcdcpaaDoor.K3
