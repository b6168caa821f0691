/-
  Contracts of this seat: what loops and calls leave, for all inputs. No condition.
-/
import Derived.Test.YtlmcjfcfmcdcpaaDoorSycp
import Derived.Test.YtlmcjfcfmcdcpaaDoorCo
import Derived.Test.YtlmcjfcfmcdcpaaDoorGa
import Derived.Test.YtlmcjfcfmcdcpaaDoorGm
import Derived.Test.YtlmcjfcfmcdcpaaDoorFl
import Derived.Test.YtlmcjfcfmcdcpaaDoorFb
import Derived.Test.YtlmcjfcfmcdcpaaDoorFc
set_option linter.unusedSimpArgs false
set_option linter.unusedVariables false
namespace Go.Proofs.YtlmcjfcfmcdcpaaDoor.Fd
open Go.RowKit Go.Ev Go.Proofs.YtlmcjfcfmcdcpaaDoor.Co

open Go.Proofs.YtlmcjfcfmcdcpaaDoor.Ga
open Go.Proofs.YtlmcjfcfmcdcpaaDoor.Gm
open Go.Proofs.YtlmcjfcfmcdcpaaDoor.Fl
open Go.Proofs.YtlmcjfcfmcdcpaaDoor.Fb
open Go.Proofs.YtlmcjfcfmcdcpaaDoor.Fc

def readYO : CSpec := { args := [.sslice 3 (.var 1) (.var 2) (.var 3) true], next := 2, rows := [(3, .eseq ⟨.u8, .var 4, .var 5⟩), (0, .ext cellsG)], pre := [(.le (.bi .add (.var 1) (.var 2)) (.var 4), true), (.le (.var 2) (.int 1000000), true), (.eq (.fn 16 (argsE [.var 5, .var 1, .bi .add (.var 1) (.var 2)])) (.int 0), true)], res := .tuple [.agg [.sint .i64 (.fn 15 (argsE [.var 5, .bi .add (.var 1) (.int 3), .bi .add (.var 1) (.int 4)])), .sint .i64 (.fn 15 (argsE [.var 5, .bi .add (.var 1) (.int 4), .bi .add (.var 1) (.int 8)])), .sint .i64 (.fn 15 (argsE [.var 5, .bi .add (.var 1) (.int 8), .bi .add (.var 1) (.int 12)])), .sint .i64 (.fn 15 (argsE [.var 5, .bi .add (.var 1) (.int 12), .bi .add (.var 1) (.int 16)])), .sint .i64 (.fn 15 (argsE [.var 5, .bi .add (.var 1) (.int 16), .bi .add (.var 1) (.int 20)])), .sslice 5 (.int 22) (.bi .add (.var 2) (.int (-26))) (.bi .add (.var 2) (.int (-26))) true], .int .i64 0], frows := [(5, .seq ⟨5, .u8, .bi .add (.var 2) (.int (-4)), .tr .cut (.var 5) (.var 1) (.bi .add (.var 1) (.bi .add (.var 2) (.int (-4)))), true, false⟩)], same := [] }
abbrev asFd0 : Q × Bool := ((.fit .i64 (.var 2)), true)
abbrev asFd1 : Q × Bool := ((.le (.var 2) (.int 1426)), true)
abbrev asFd2 : Q × Bool := ((.le (.int 26) (.var 2)), true)
abbrev asFd3 : Q × Bool := ((.le (.bi .add (.var 1) (.var 2)) (.var 4)), true)
abbrev asFd4 : Q × Bool := ((.le (.int 5) (.var 2)), true)
abbrev asFd5 : Q × Bool := ((.le (.var 2) (.int 1000000)), true)
abbrev asFd6 : Q × Bool := ((.eq (.fn 14 (.bi .pair (.var 5) (.bi .pair (.var 1) (.bi .pair (.bi .add (.var 1) (.var 2)) (.int 0))))) (.int 1)), true)
abbrev asFd7 : Q × Bool := ((.le (.bi .add (.int 0) (.bi .add (.var 2) (.int (-4)))) (.bi .add (.var 2) (.int (-4)))), true)
abbrev asFd8 : Q × Bool := ((.le (.int 22) (.bi .add (.var 2) (.int (-4)))), true)
abbrev asFd9 : Q × Bool := ((.le (.bi .add (.var 2) (.int (-4))) (.int 1000000)), true)
abbrev asFd10 : Q × Bool := ((.le (.int 0) (.bi .add (.bi .add (.var 2) (.int (-4))) (.int (-22)))), true)
abbrev asFd11 : Q × Bool := ((.le (.bi .add (.bi .add (.var 2) (.int (-4))) (.int (-22))) (.int 1000000)), true)
abbrev asFd12 : Q × Bool := ((.eq (.fn 13 (.bi .pair (.fn 15 (.bi .pair (.tr .cut (.var 5) (.var 1) (.bi .add (.var 1) (.bi .add (.var 2) (.int (-4))))) (.bi .pair (.int 0) (.bi .pair (.bi .add (.int 0) (.int 2)) (.int 0))))) (.bi .pair (.fn 15 (.bi .pair (.tr .cut (.var 5) (.var 1) (.bi .add (.var 1) (.bi .add (.var 2) (.int (-4))))) (.bi .pair (.bi .add (.int 0) (.int 2)) (.bi .pair (.bi .add (.int 0) (.int 3)) (.int 0))))) (.bi .pair (.fn 15 (.bi .pair (.tr .cut (.var 5) (.var 1) (.bi .add (.var 1) (.bi .add (.var 2) (.int (-4))))) (.bi .pair (.bi .add (.int 0) (.int 3)) (.bi .pair (.bi .add (.int 0) (.int 4)) (.int 0))))) (.bi .pair (.fn 15 (.bi .pair (.tr .cut (.var 5) (.var 1) (.bi .add (.var 1) (.bi .add (.var 2) (.int (-4))))) (.bi .pair (.bi .add (.int 0) (.int 4)) (.bi .pair (.bi .add (.int 0) (.int 8)) (.int 0))))) (.bi .pair (.fn 15 (.bi .pair (.tr .cut (.var 5) (.var 1) (.bi .add (.var 1) (.bi .add (.var 2) (.int (-4))))) (.bi .pair (.bi .add (.int 0) (.int 8)) (.bi .pair (.bi .add (.int 0) (.int 12)) (.int 0))))) (.bi .pair (.fn 15 (.bi .pair (.tr .cut (.var 5) (.var 1) (.bi .add (.var 1) (.bi .add (.var 2) (.int (-4))))) (.bi .pair (.bi .add (.int 0) (.int 12)) (.bi .pair (.bi .add (.int 0) (.int 16)) (.int 0))))) (.bi .pair (.fn 15 (.bi .pair (.tr .cut (.var 5) (.var 1) (.bi .add (.var 1) (.bi .add (.var 2) (.int (-4))))) (.bi .pair (.bi .add (.int 0) (.int 16)) (.bi .pair (.bi .add (.int 0) (.int 20)) (.int 0))))) (.bi .pair (.fn 15 (.bi .pair (.tr .cut (.var 5) (.var 1) (.bi .add (.var 1) (.bi .add (.var 2) (.int (-4))))) (.bi .pair (.bi .add (.int 0) (.int 20)) (.bi .pair (.bi .add (.int 0) (.int 22)) (.int 0))))) (.bi .pair (.bi .add (.bi .add (.var 2) (.int (-4))) (.int (-22))) (.int 0))))))))))) (.int 0)), true)
def readYO_t0 : List (Q × Bool) := [asFd0, asFd1, asFd2, asFd3, asFd4, asFd5, asFd6, asFd7, asFd8, asFd9, asFd10, asFd11, asFd12]
abbrev teFd0 : E := (.tr .cut (.var 5) (.var 1) (.bi .add (.var 1) (.bi .add (.var 2) (.int (-4)))))
def readYO_d0 : List Duty := [(true, (.fn 15 (.bi .pair teFd0 (.bi .pair (.bi .add (.int 0) (.int 3)) (.bi .pair (.bi .add (.int 0) (.int 4)) (.int 0))))), (.fn 15 (.bi .pair (.var 5) (.bi .pair (.bi .add (.var 1) (.int 3)) (.bi .pair (.bi .add (.var 1) (.int 4)) (.int 0)))))), (true, (.fn 15 (.bi .pair teFd0 (.bi .pair (.bi .add (.int 0) (.int 4)) (.bi .pair (.bi .add (.int 0) (.int 8)) (.int 0))))), (.fn 15 (.bi .pair (.var 5) (.bi .pair (.bi .add (.var 1) (.int 4)) (.bi .pair (.bi .add (.var 1) (.int 8)) (.int 0)))))), (true, (.fn 15 (.bi .pair teFd0 (.bi .pair (.bi .add (.int 0) (.int 8)) (.bi .pair (.bi .add (.int 0) (.int 12)) (.int 0))))), (.fn 15 (.bi .pair (.var 5) (.bi .pair (.bi .add (.var 1) (.int 8)) (.bi .pair (.bi .add (.var 1) (.int 12)) (.int 0)))))), (true, (.fn 15 (.bi .pair teFd0 (.bi .pair (.bi .add (.int 0) (.int 12)) (.bi .pair (.bi .add (.int 0) (.int 16)) (.int 0))))), (.fn 15 (.bi .pair (.var 5) (.bi .pair (.bi .add (.var 1) (.int 12)) (.bi .pair (.bi .add (.var 1) (.int 16)) (.int 0)))))), (true, (.fn 15 (.bi .pair teFd0 (.bi .pair (.bi .add (.int 0) (.int 16)) (.bi .pair (.bi .add (.int 0) (.int 20)) (.int 0))))), (.fn 15 (.bi .pair (.var 5) (.bi .pair (.bi .add (.var 1) (.int 16)) (.bi .pair (.bi .add (.var 1) (.int 20)) (.int 0)))))), (true, (.bi .add (.int 0) (.int 22)), (.int 22)), (true, (.bi .add (.bi .add (.var 2) (.int (-4))) (.int (-22))), (.bi .add (.var 2) (.int (-26)))), (true, (.bi .add (.bi .add (.var 2) (.int (-4))) (.int (-22))), (.bi .add (.var 2) (.int (-26))))]
theorem readYO_y0 : endC readYO [(5, 7)] 1000 (callC Tryd.prog (tellA readYO_t0) [] [(37, takenCO), (25, gchkYO), (25, gchkNO), (38, scheckCO)] [] 3000 40 19 readYO) = some readYO_d0 := by kernel_rfl
def readYO_t1 : List (Q × Bool) := [asFd0, asFd1, asFd2, asFd3, asFd4, asFd5, asFd6, asFd7, asFd8, asFd9, asFd10, asFd11, asFd12]
def readYO_d1 : List Duty := [(true, (.fn 15 (.bi .pair teFd0 (.bi .pair (.bi .add (.int 0) (.int 3)) (.bi .pair (.bi .add (.int 0) (.int 4)) (.int 0))))), (.fn 15 (.bi .pair (.var 5) (.bi .pair (.bi .add (.var 1) (.int 3)) (.bi .pair (.bi .add (.var 1) (.int 4)) (.int 0)))))), (true, (.fn 15 (.bi .pair teFd0 (.bi .pair (.bi .add (.int 0) (.int 4)) (.bi .pair (.bi .add (.int 0) (.int 8)) (.int 0))))), (.fn 15 (.bi .pair (.var 5) (.bi .pair (.bi .add (.var 1) (.int 4)) (.bi .pair (.bi .add (.var 1) (.int 8)) (.int 0)))))), (true, (.fn 15 (.bi .pair teFd0 (.bi .pair (.bi .add (.int 0) (.int 8)) (.bi .pair (.bi .add (.int 0) (.int 12)) (.int 0))))), (.fn 15 (.bi .pair (.var 5) (.bi .pair (.bi .add (.var 1) (.int 8)) (.bi .pair (.bi .add (.var 1) (.int 12)) (.int 0)))))), (true, (.fn 15 (.bi .pair teFd0 (.bi .pair (.bi .add (.int 0) (.int 12)) (.bi .pair (.bi .add (.int 0) (.int 16)) (.int 0))))), (.fn 15 (.bi .pair (.var 5) (.bi .pair (.bi .add (.var 1) (.int 12)) (.bi .pair (.bi .add (.var 1) (.int 16)) (.int 0)))))), (true, (.fn 15 (.bi .pair teFd0 (.bi .pair (.bi .add (.int 0) (.int 16)) (.bi .pair (.bi .add (.int 0) (.int 20)) (.int 0))))), (.fn 15 (.bi .pair (.var 5) (.bi .pair (.bi .add (.var 1) (.int 16)) (.bi .pair (.bi .add (.var 1) (.int 20)) (.int 0)))))), (true, (.bi .add (.int 0) (.int 22)), (.int 22)), (true, (.bi .add (.bi .add (.var 2) (.int (-4))) (.int (-22))), (.bi .add (.var 2) (.int (-26)))), (true, (.bi .add (.bi .add (.var 2) (.int (-4))) (.int (-22))), (.bi .add (.var 2) (.int (-26))))]
theorem readYO_y1 : endC readYO [(5, 7)] 1000 (callC Tryd.prog (tellA readYO_t1) [] [(37, takenCO), (25, gchkYO), (25, gchkNO), (38, scheckCO)] [] 3000 40 19 readYO) = some readYO_d1 := by kernel_rfl
theorem readYO_holds : CHolds Tryd.prog 19 readYO F := by
  refine cholds_of sound (tableNil _ _) (specsCons takenCO_holds (specsCons gchkYO_holds (specsCons gchkNO_holds (specsCons scheckCO_holds (specsNil _ _))))) (oversNil _ _) (fuel := 3000) (depth := 40) (by kernel_rfl) fun d hp hR hA => ?_
  have hp := allTold'_iff.2 hp
  simp only [readYO, allTold', dutiesTold, factsA, factsC, factsP, factsR, AV.facts, RW.facts, inK, and_true, Q.holds', E.i, E.s, E.n, D.nat, E.den, BO.den, UO.den, TO.den, D.toInt_int, D.toList_list, D.ints_ofInts, i64min, i64max, u8min, u8max, u16min, u16max, u32min, u32max, u64min, u64max, i32min, i32max, Om.sub, selI, ints_app, ints_cut, ints_upd, ints_rep, ints_splice, ints_seg, len_ints] at hp hR hA
  simp only [F16, argsE, allTold', dutiesTold, factsA, factsC, factsP, factsR, AV.facts, RW.facts, inK, and_true, Q.holds', E.i, E.s, E.n, D.nat, E.den, BO.den, UO.den, TO.den, D.toInt_int, D.toList_list, D.ints_ofInts, i64min, i64max, u8min, u8max, u16min, u16max, u32min, u32max, u64min, u64max, i32min, i32max, Om.sub, selI, ints_app, ints_cut, ints_upd, ints_rep, ints_splice, ints_seg, len_ints] at hp
  obtain ⟨hl, hx⟩ := hR
  have hr := read_at (x := (d 5).ints) (o := (d 1).toInt) (l := (d 2).toInt) (by omega) (by omega) (by omega)
  rw [hr] at hp
  have hi := hp.2.2
  split at hi
  · omega
  split at hi
  · omega
  split at hi
  · omega
  rename_i h1 h2 hg
  have hg := Decidable.not_not.1 hg
  have hs := hi
  have e : ∀ a b : Int, 0 ≤ a → a ≤ b → b ≤ 22 → prt (prt (d 5).ints (d 1).toInt ((d 1).toInt + ((d 2).toInt + -4))) (0 + a) (0 + b) = prt (d 5).ints ((d 1).toInt + a) ((d 1).toInt + b) := fun a b ha hb hc => by rw [Int.zero_add, Int.zero_add]; exact prt_prt (by omega) ha hb (by omega)
  have e0 : prt (prt (d 5).ints (d 1).toInt ((d 1).toInt + ((d 2).toInt + -4))) 0 (0 + 2) = prt (d 5).ints (d 1).toInt ((d 1).toInt + 2) := by have := e 0 2 (by omega) (by omega) (by omega); rw [Int.zero_add, Int.add_zero] at this; exact this
  have e1 := e 2 3 (by omega) (by omega) (by omega)
  have e2 := e 3 4 (by omega) (by omega) (by omega)
  have e3 := e 4 8 (by omega) (by omega) (by omega)
  have e4 := e 8 12 (by omega) (by omega) (by omega)
  have e5 := e 12 16 (by omega) (by omega) (by omega)
  have e6 := e 16 20 (by omega) (by omega) (by omega)
  have e7 := e 20 22 (by omega) (by omega) (by omega)
  have hs' : sayI (be (prt (d 5).ints (d 1).toInt ((d 1).toInt + 2))) (be (prt (d 5).ints ((d 1).toInt + 2) ((d 1).toInt + 3))) (be (prt (d 5).ints ((d 1).toInt + 3) ((d 1).toInt + 4))) (be (prt (d 5).ints ((d 1).toInt + 4) ((d 1).toInt + 8))) (be (prt (d 5).ints ((d 1).toInt + 8) ((d 1).toInt + 12))) (be (prt (d 5).ints ((d 1).toInt + 12) ((d 1).toInt + 16))) (be (prt (d 5).ints ((d 1).toInt + 16) ((d 1).toInt + 20))) (be (prt (d 5).ints ((d 1).toInt + 20) ((d 1).toInt + 22))) ((d 2).toInt + -4 + -22) = 0 := by
    rw [show (d 2).toInt + -4 + -22 = (d 2).toInt - 26 by omega]; exact hs
  refine ⟨tellA readYO_t0, _, _, _, tellA_ok (allTold'_iff.1 ?_), readYO_y0, dutiesTold_ok ?_⟩
  · simp only [readYO_t0, F13, F14, F15, allTold', dutiesTold, factsA, factsC, factsP, factsR, AV.facts, RW.facts, inK, and_true, Q.holds', E.i, E.s, E.n, D.nat, E.den, BO.den, UO.den, TO.den, D.toInt_int, D.toList_list, D.ints_ofInts, i64min, i64max, u8min, u8max, u16min, u16max, u32min, u32max, u64min, u64max, i32min, i32max, Om.sub, selI, ints_app, ints_cut, ints_upd, ints_rep, ints_splice, ints_seg, len_ints]
    simp only [cut_prt, e0, e1, e2, e3, e4, e5, e6, e7]
    all_goals (and_intros <;> first | omega | trivial | exact hs' | exact hg)
  · simp only [readYO_d0, F15, allTold', dutiesTold, factsA, factsC, factsP, factsR, AV.facts, RW.facts, inK, and_true, Q.holds', E.i, E.s, E.n, D.nat, E.den, BO.den, UO.den, TO.den, D.toInt_int, D.toList_list, D.ints_ofInts, i64min, i64max, u8min, u8max, u16min, u16max, u32min, u32max, u64min, u64max, i32min, i32max, Om.sub, selI, ints_app, ints_cut, ints_upd, ints_rep, ints_splice, ints_seg, len_ints]
    simp only [cut_prt, e0, e1, e2, e3, e4, e5, e6, e7]
    all_goals (and_intros <;> first | omega | trivial | rfl)

def readNO : CSpec := { args := [.sslice 3 (.var 1) (.var 2) (.var 3) true], next := 2, rows := [(3, .eseq ⟨.u8, .var 4, .var 5⟩), (0, .ext cellsG)], pre := [(.le (.bi .add (.var 1) (.var 2)) (.var 4), true), (.le (.var 2) (.int 1000000), true), (.eq (.fn 16 (argsE [.var 5, .var 1, .bi .add (.var 1) (.var 2)])) (.int 0), false)], res := .tuple [.agg [.int .i64 0, .int .i64 0, .int .i64 0, .int .i64 0, .int .i64 0, .nilslice], .sint .i64 (.fn 16 (argsE [.var 5, .var 1, .bi .add (.var 1) (.var 2)]))], frows := [], same := [] }
abbrev asFd13 : Q × Bool := ((.le (.var 2) (.int 1426)), false)
def readNO_t0 : List (Q × Bool) := [asFd0, asFd13]
def readNO_d0 : List Duty := [(true, (.int 3), (.fn 16 (.bi .pair (.var 5) (.bi .pair (.var 1) (.bi .pair (.bi .add (.var 1) (.var 2)) (.int 0))))))]
theorem readNO_y0 : endC readNO [] 1000 (callC Tryd.prog (tellA readNO_t0) [] [(37, takenCO), (25, gchkYO), (25, gchkNO), (38, scheckCO)] [] 3000 40 19 readNO) = some readNO_d0 := by kernel_rfl
abbrev asFd14 : Q × Bool := ((.le (.int 26) (.var 2)), false)
def readNO_t1 : List (Q × Bool) := [asFd0, asFd1, asFd14]
def readNO_d1 : List Duty := [(true, (.int 4), (.fn 16 (.bi .pair (.var 5) (.bi .pair (.var 1) (.bi .pair (.bi .add (.var 1) (.var 2)) (.int 0))))))]
theorem readNO_y1 : endC readNO [] 1000 (callC Tryd.prog (tellA readNO_t1) [] [(37, takenCO), (25, gchkYO), (25, gchkNO), (38, scheckCO)] [] 3000 40 19 readNO) = some readNO_d1 := by kernel_rfl
abbrev asFd15 : Q × Bool := ((.eq (.fn 14 (.bi .pair (.var 5) (.bi .pair (.var 1) (.bi .pair (.bi .add (.var 1) (.var 2)) (.int 0))))) (.int 1)), false)
def readNO_t2 : List (Q × Bool) := [asFd0, asFd1, asFd2, asFd3, asFd4, asFd5, asFd15]
def readNO_d2 : List Duty := [(true, (.int 210), (.fn 16 (.bi .pair (.var 5) (.bi .pair (.var 1) (.bi .pair (.bi .add (.var 1) (.var 2)) (.int 0))))))]
theorem readNO_y2 : endC readNO [] 1000 (callC Tryd.prog (tellA readNO_t2) [] [(37, takenCO), (25, gchkYO), (25, gchkNO), (38, scheckCO)] [] 3000 40 19 readNO) = some readNO_d2 := by kernel_rfl
abbrev asFd16 : Q × Bool := ((.eq (.fn 13 (.bi .pair (.fn 15 (.bi .pair (.tr .cut (.var 5) (.var 1) (.bi .add (.var 1) (.bi .add (.var 2) (.int (-4))))) (.bi .pair (.int 0) (.bi .pair (.bi .add (.int 0) (.int 2)) (.int 0))))) (.bi .pair (.fn 15 (.bi .pair (.tr .cut (.var 5) (.var 1) (.bi .add (.var 1) (.bi .add (.var 2) (.int (-4))))) (.bi .pair (.bi .add (.int 0) (.int 2)) (.bi .pair (.bi .add (.int 0) (.int 3)) (.int 0))))) (.bi .pair (.fn 15 (.bi .pair (.tr .cut (.var 5) (.var 1) (.bi .add (.var 1) (.bi .add (.var 2) (.int (-4))))) (.bi .pair (.bi .add (.int 0) (.int 3)) (.bi .pair (.bi .add (.int 0) (.int 4)) (.int 0))))) (.bi .pair (.fn 15 (.bi .pair (.tr .cut (.var 5) (.var 1) (.bi .add (.var 1) (.bi .add (.var 2) (.int (-4))))) (.bi .pair (.bi .add (.int 0) (.int 4)) (.bi .pair (.bi .add (.int 0) (.int 8)) (.int 0))))) (.bi .pair (.fn 15 (.bi .pair (.tr .cut (.var 5) (.var 1) (.bi .add (.var 1) (.bi .add (.var 2) (.int (-4))))) (.bi .pair (.bi .add (.int 0) (.int 8)) (.bi .pair (.bi .add (.int 0) (.int 12)) (.int 0))))) (.bi .pair (.fn 15 (.bi .pair (.tr .cut (.var 5) (.var 1) (.bi .add (.var 1) (.bi .add (.var 2) (.int (-4))))) (.bi .pair (.bi .add (.int 0) (.int 12)) (.bi .pair (.bi .add (.int 0) (.int 16)) (.int 0))))) (.bi .pair (.fn 15 (.bi .pair (.tr .cut (.var 5) (.var 1) (.bi .add (.var 1) (.bi .add (.var 2) (.int (-4))))) (.bi .pair (.bi .add (.int 0) (.int 16)) (.bi .pair (.bi .add (.int 0) (.int 20)) (.int 0))))) (.bi .pair (.fn 15 (.bi .pair (.tr .cut (.var 5) (.var 1) (.bi .add (.var 1) (.bi .add (.var 2) (.int (-4))))) (.bi .pair (.bi .add (.int 0) (.int 20)) (.bi .pair (.bi .add (.int 0) (.int 22)) (.int 0))))) (.bi .pair (.bi .add (.bi .add (.var 2) (.int (-4))) (.int (-22))) (.int 0))))))))))) (.int 0)), false)
def readNO_t3 : List (Q × Bool) := [asFd0, asFd1, asFd2, asFd3, asFd4, asFd5, asFd6, asFd7, asFd8, asFd9, asFd10, asFd11, asFd16]
def readNO_d3 : List Duty := [(true, (.fn 13 (.bi .pair (.fn 15 (.bi .pair teFd0 (.bi .pair (.int 0) (.bi .pair (.bi .add (.int 0) (.int 2)) (.int 0))))) (.bi .pair (.fn 15 (.bi .pair teFd0 (.bi .pair (.bi .add (.int 0) (.int 2)) (.bi .pair (.bi .add (.int 0) (.int 3)) (.int 0))))) (.bi .pair (.fn 15 (.bi .pair teFd0 (.bi .pair (.bi .add (.int 0) (.int 3)) (.bi .pair (.bi .add (.int 0) (.int 4)) (.int 0))))) (.bi .pair (.fn 15 (.bi .pair teFd0 (.bi .pair (.bi .add (.int 0) (.int 4)) (.bi .pair (.bi .add (.int 0) (.int 8)) (.int 0))))) (.bi .pair (.fn 15 (.bi .pair teFd0 (.bi .pair (.bi .add (.int 0) (.int 8)) (.bi .pair (.bi .add (.int 0) (.int 12)) (.int 0))))) (.bi .pair (.fn 15 (.bi .pair teFd0 (.bi .pair (.bi .add (.int 0) (.int 12)) (.bi .pair (.bi .add (.int 0) (.int 16)) (.int 0))))) (.bi .pair (.fn 15 (.bi .pair teFd0 (.bi .pair (.bi .add (.int 0) (.int 16)) (.bi .pair (.bi .add (.int 0) (.int 20)) (.int 0))))) (.bi .pair (.fn 15 (.bi .pair teFd0 (.bi .pair (.bi .add (.int 0) (.int 20)) (.bi .pair (.bi .add (.int 0) (.int 22)) (.int 0))))) (.bi .pair (.bi .add (.bi .add (.var 2) (.int (-4))) (.int (-22))) (.int 0))))))))))), (.fn 16 (.bi .pair (.var 5) (.bi .pair (.var 1) (.bi .pair (.bi .add (.var 1) (.var 2)) (.int 0))))))]
theorem readNO_y3 : endC readNO [] 1000 (callC Tryd.prog (tellA readNO_t3) [] [(37, takenCO), (25, gchkYO), (25, gchkNO), (38, scheckCO)] [] 3000 40 19 readNO) = some readNO_d3 := by kernel_rfl
theorem readNO_holds : CHolds Tryd.prog 19 readNO F := by
  refine cholds_of sound (tableNil _ _) (specsCons takenCO_holds (specsCons gchkYO_holds (specsCons gchkNO_holds (specsCons scheckCO_holds (specsNil _ _))))) (oversNil _ _) (fuel := 3000) (depth := 40) (by kernel_rfl) fun d hp hR hA => ?_
  have hp := allTold'_iff.2 hp
  simp only [readNO, allTold', dutiesTold, factsA, factsC, factsP, factsR, AV.facts, RW.facts, inK, and_true, Q.holds', E.i, E.s, E.n, D.nat, E.den, BO.den, UO.den, TO.den, D.toInt_int, D.toList_list, D.ints_ofInts, i64min, i64max, u8min, u8max, u16min, u16max, u32min, u32max, u64min, u64max, i32min, i32max, Om.sub, selI, ints_app, ints_cut, ints_upd, ints_rep, ints_splice, ints_seg, len_ints] at hp hR hA
  simp only [F16, argsE, allTold', dutiesTold, factsA, factsC, factsP, factsR, AV.facts, RW.facts, inK, and_true, Q.holds', E.i, E.s, E.n, D.nat, E.den, BO.den, UO.den, TO.den, D.toInt_int, D.toList_list, D.ints_ofInts, i64min, i64max, u8min, u8max, u16min, u16max, u32min, u32max, u64min, u64max, i32min, i32max, Om.sub, selI, ints_app, ints_cut, ints_upd, ints_rep, ints_splice, ints_seg, len_ints] at hp
  obtain ⟨hl, hx⟩ := hR
  have hr := read_at (x := (d 5).ints) (o := (d 1).toInt) (l := (d 2).toInt) (by omega) (by omega) (by omega)
  rw [hr] at hp
  by_cases h1 : 1426 < (d 2).toInt
  · rw [if_pos h1] at hr
    refine ⟨tellA readNO_t0, _, _, _, tellA_ok (allTold'_iff.1 ?_), readNO_y0, dutiesTold_ok ?_⟩
    · simp only [readNO_t0, allTold', dutiesTold, factsA, factsC, factsP, factsR, AV.facts, RW.facts, inK, and_true, Q.holds', E.i, E.s, E.n, D.nat, E.den, BO.den, UO.den, TO.den, D.toInt_int, D.toList_list, D.ints_ofInts, i64min, i64max, u8min, u8max, u16min, u16max, u32min, u32max, u64min, u64max, i32min, i32max, Om.sub, selI, ints_app, ints_cut, ints_upd, ints_rep, ints_splice, ints_seg, len_ints]
      omega
    · simp only [readNO_d0, F16, allTold', dutiesTold, factsA, factsC, factsP, factsR, AV.facts, RW.facts, inK, and_true, Q.holds', E.i, E.s, E.n, D.nat, E.den, BO.den, UO.den, TO.den, D.toInt_int, D.toList_list, D.ints_ofInts, i64min, i64max, u8min, u8max, u16min, u16max, u32min, u32max, u64min, u64max, i32min, i32max, Om.sub, selI, ints_app, ints_cut, ints_upd, ints_rep, ints_splice, ints_seg, len_ints]
      rw [hr]
      all_goals (and_intros <;> first | omega | trivial | rfl)
  rw [if_neg h1] at hr hp
  by_cases h2 : (d 2).toInt < 26
  · rw [if_pos h2] at hr
    refine ⟨tellA readNO_t1, _, _, _, tellA_ok (allTold'_iff.1 ?_), readNO_y1, dutiesTold_ok ?_⟩
    · simp only [readNO_t1, allTold', dutiesTold, factsA, factsC, factsP, factsR, AV.facts, RW.facts, inK, and_true, Q.holds', E.i, E.s, E.n, D.nat, E.den, BO.den, UO.den, TO.den, D.toInt_int, D.toList_list, D.ints_ofInts, i64min, i64max, u8min, u8max, u16min, u16max, u32min, u32max, u64min, u64max, i32min, i32max, Om.sub, selI, ints_app, ints_cut, ints_upd, ints_rep, ints_splice, ints_seg, len_ints]
      omega
    · simp only [readNO_d1, F16, allTold', dutiesTold, factsA, factsC, factsP, factsR, AV.facts, RW.facts, inK, and_true, Q.holds', E.i, E.s, E.n, D.nat, E.den, BO.den, UO.den, TO.den, D.toInt_int, D.toList_list, D.ints_ofInts, i64min, i64max, u8min, u8max, u16min, u16max, u32min, u32max, u64min, u64max, i32min, i32max, Om.sub, selI, ints_app, ints_cut, ints_upd, ints_rep, ints_splice, ints_seg, len_ints]
      rw [hr]
      all_goals (and_intros <;> first | omega | trivial | rfl)
  rw [if_neg h2] at hr hp
  by_cases hg : goodI (prt (d 5).ints (d 1).toInt ((d 1).toInt + (d 2).toInt)) = 1
  · rw [if_neg (by omega)] at hr hp
    have e : ∀ a b : Int, 0 ≤ a → a ≤ b → b ≤ 22 → prt (prt (d 5).ints (d 1).toInt ((d 1).toInt + ((d 2).toInt + -4))) (0 + a) (0 + b) = prt (d 5).ints ((d 1).toInt + a) ((d 1).toInt + b) := fun a b ha hb hc => by rw [Int.zero_add, Int.zero_add]; exact prt_prt (by omega) ha hb (by omega)
    have e0 : prt (prt (d 5).ints (d 1).toInt ((d 1).toInt + ((d 2).toInt + -4))) 0 (0 + 2) = prt (d 5).ints (d 1).toInt ((d 1).toInt + 2) := by have := e 0 2 (by omega) (by omega) (by omega); rw [Int.zero_add, Int.add_zero] at this; exact this
    have e1 := e 2 3 (by omega) (by omega) (by omega)
    have e2 := e 3 4 (by omega) (by omega) (by omega)
    have e3 := e 4 8 (by omega) (by omega) (by omega)
    have e4 := e 8 12 (by omega) (by omega) (by omega)
    have e5 := e 12 16 (by omega) (by omega) (by omega)
    have e6 := e 16 20 (by omega) (by omega) (by omega)
    have e7 := e 20 22 (by omega) (by omega) (by omega)
    have hs := hp.2.2
    rw [show (d 2).toInt - 26 = (d 2).toInt + -4 + -22 by omega] at hs hr
    refine ⟨tellA readNO_t3, _, _, _, tellA_ok (allTold'_iff.1 ?_), readNO_y3, dutiesTold_ok ?_⟩
    · simp only [readNO_t3, F13, F14, F15, allTold', dutiesTold, factsA, factsC, factsP, factsR, AV.facts, RW.facts, inK, and_true, Q.holds', E.i, E.s, E.n, D.nat, E.den, BO.den, UO.den, TO.den, D.toInt_int, D.toList_list, D.ints_ofInts, i64min, i64max, u8min, u8max, u16min, u16max, u32min, u32max, u64min, u64max, i32min, i32max, Om.sub, selI, ints_app, ints_cut, ints_upd, ints_rep, ints_splice, ints_seg, len_ints]
      simp only [cut_prt, e0, e1, e2, e3, e4, e5, e6, e7]
      all_goals (and_intros <;> first | omega | trivial | exact hs | exact hg)
    · simp only [readNO_d3, F13, F15, F16, allTold', dutiesTold, factsA, factsC, factsP, factsR, AV.facts, RW.facts, inK, and_true, Q.holds', E.i, E.s, E.n, D.nat, E.den, BO.den, UO.den, TO.den, D.toInt_int, D.toList_list, D.ints_ofInts, i64min, i64max, u8min, u8max, u16min, u16max, u32min, u32max, u64min, u64max, i32min, i32max, Om.sub, selI, ints_app, ints_cut, ints_upd, ints_rep, ints_splice, ints_seg, len_ints]
      simp only [cut_prt, e0, e1, e2, e3, e4, e5, e6, e7]
      rw [hr]
      all_goals (and_intros <;> first | omega | trivial | rfl)
  · rw [if_pos (by omega)] at hr
    refine ⟨tellA readNO_t2, _, _, _, tellA_ok (allTold'_iff.1 ?_), readNO_y2, dutiesTold_ok ?_⟩
    · simp only [readNO_t2, F14, allTold', dutiesTold, factsA, factsC, factsP, factsR, AV.facts, RW.facts, inK, and_true, Q.holds', E.i, E.s, E.n, D.nat, E.den, BO.den, UO.den, TO.den, D.toInt_int, D.toList_list, D.ints_ofInts, i64min, i64max, u8min, u8max, u16min, u16max, u32min, u32max, u64min, u64max, i32min, i32max, Om.sub, selI, ints_app, ints_cut, ints_upd, ints_rep, ints_splice, ints_seg, len_ints]
      all_goals (and_intros <;> first | omega | trivial | exact hg)
    · simp only [readNO_d2, F16, allTold', dutiesTold, factsA, factsC, factsP, factsR, AV.facts, RW.facts, inK, and_true, Q.holds', E.i, E.s, E.n, D.nat, E.den, BO.den, UO.den, TO.den, D.toInt_int, D.toList_list, D.ints_ofInts, i64min, i64max, u8min, u8max, u16min, u16max, u32min, u32max, u64min, u64max, i32min, i32max, Om.sub, selI, ints_app, ints_cut, ints_upd, ints_rep, ints_splice, ints_seg, len_ints]
      rw [hr]
      all_goals (and_intros <;> first | omega | trivial | rfl)

end Go.Proofs.YtlmcjfcfmcdcpaaDoor.Fd
