/-
  Contracts of this seat: what loops and calls leave, for all inputs. No condition.
-/
import Derived.Test.YtlmcjfcfmcdcpaaDoorSycp
import Derived.Test.YtlmcjfcfmcdcpaaDoorCo
import Derived.Test.YtlmcjfcfmcdcpaaDoorGa
import Derived.Test.YtlmcjfcfmcdcpaaDoorG2
import Derived.Test.YtlmcjfcfmcdcpaaDoorGm
import Derived.Test.YtlmcjfcfmcdcpaaDoorFl
import Derived.Test.YtlmcjfcfmcdcpaaDoorF9
import Derived.Test.YtlmcjfcfmcdcpaaDoorF4
set_option linter.unusedSimpArgs false
set_option linter.unusedVariables false
namespace Go.Proofs.YtlmcjfcfmcdcpaaDoor.Fo
open Go.RowKit Go.Ev Go.Proofs.YtlmcjfcfmcdcpaaDoor.Co

open Go.Proofs.YtlmcjfcfmcdcpaaDoor.Ga
open Go.Proofs.YtlmcjfcfmcdcpaaDoor.G2
open Go.Proofs.YtlmcjfcfmcdcpaaDoor.Gm
open Go.Proofs.YtlmcjfcfmcdcpaaDoor.Fl
open Go.Proofs.YtlmcjfcfmcdcpaaDoor.F9
open Go.Proofs.YtlmcjfcfmcdcpaaDoor.F4

theorem selC (x : D) (a b j : Nat) : (((List.drop a (List.take b x.toList))[j]?).getD (D.int 0)).toInt = ((List.drop a (List.take b x.ints))[j]?).getD 0 := by
  have h := selI (.list (List.drop a (List.take b x.toList))) j
  rw [ints_list, List.map_drop, List.map_take, map_ints] at h
  exact h
theorem be4_in {x : List Int} (hx : ∀ c ∈ x, 0 ≤ c ∧ c ≤ 255) {o t : Int} (h0 : 0 ≤ o) (ht : t = o + 4) (hl : t ≤ x.length) : 0 ≤ be (prt x o t) ∧ be (prt x o t) ≤ 4294967295 := by
  rw [be_4 (o1 := o + 1) (o2 := o + 2) (o3 := o + 3) h0 rfl rfl rfl ht hl]
  have h1 := sel_in hx o.toNat
  have h2 := sel_in hx (o + 1).toNat
  have h3 := sel_in hx (o + 2).toNat
  have h4 := sel_in hx (o + 3).toNat
  omega
theorem read_y {x : List Int} {o l : Int} (h0 : 0 ≤ o) (h1 : 0 ≤ l) (hl : o + l ≤ x.length) : readI (prt x o (o + l)) = if 1426 < l then 3 else if l < 26 then 4 else if goodI (prt x o (o + l)) ≠ 1 then 210 else
    sayI (((prt x o (o + (l + -4)))[0]?).getD 0 * 256 + ((prt x o (o + (l + -4)))[1]?).getD 0) (((prt x o (o + (l + -4)))[2]?).getD 0) (((prt x o (o + (l + -4)))[3]?).getD 0) (be (prt (prt x o (o + (l + -4))) 4 8)) (be (prt (prt x o (o + (l + -4))) 8 12)) (be (prt (prt x o (o + (l + -4))) 12 16)) (be (prt (prt x o (o + (l + -4))) 16 20)) (((prt x o (o + (l + -4)))[20]?).getD 0 * 256 + ((prt x o (o + (l + -4)))[21]?).getD 0) (l + -26) := by
  rw [read_at h0 h1 hl]
  by_cases h : l < 26
  · rw [if_pos h, if_pos h]
  · have hY : ((prt x o (o + (l + -4))).length : Int) = l + -4 := by rw [prt_length (by omega) (by omega) (by omega)]; omega
    have e : ∀ a b : Int, 0 ≤ a → a ≤ b → b ≤ 22 → prt x (o + a) (o + b) = prt (prt x o (o + (l + -4))) a b := fun a b ha hb hc => (prt_prt h0 ha hb (by omega)).symm
    have e0 := e 0 2 (by omega) (by omega) (by omega)
    rw [Int.add_zero] at e0
    rw [e0, e 2 3 (by omega) (by omega) (by omega), e 3 4 (by omega) (by omega) (by omega), e 4 8 (by omega) (by omega) (by omega), e 8 12 (by omega) (by omega) (by omega), e 12 16 (by omega) (by omega) (by omega), e 16 20 (by omega) (by omega) (by omega), e 20 22 (by omega) (by omega) (by omega)]
    generalize prt x o (o + (l + -4)) = Y at *
    rw [be_2 (x := Y) (o := 0) (o1 := 1) (t := 2) (by omega) (by omega) (by omega) (by omega), be_1 (x := Y) (o := 2) (t := 3) (by omega) (by omega) (by omega), be_1 (x := Y) (o := 3) (t := 4) (by omega) (by omega) (by omega), be_2 (x := Y) (o := 20) (o1 := 21) (t := 22) (by omega) (by omega) (by omega) (by omega)]
    rfl

def rreadYO : CSpec := { args := [.sslice 3 (.var 1) (.var 2) (.var 3) true], next := 2, rows := [(3, .eseq ⟨.u8, .var 4, .var 5⟩)], pre := [(.le (.bi .add (.var 1) (.var 2)) (.var 4), true), (.le (.var 2) (.int 1000000), true), (.eq (.fn 16 (argsE [.var 5, .var 1, .bi .add (.var 1) (.var 2)])) (.int 0), true)], res := .tuple [.agg [.sint .i64 (.fn 15 (argsE [.var 5, .bi .add (.var 1) (.int 3), .bi .add (.var 1) (.int 4)])), .sint .i64 (.fn 15 (argsE [.var 5, .bi .add (.var 1) (.int 4), .bi .add (.var 1) (.int 8)])), .sint .i64 (.fn 15 (argsE [.var 5, .bi .add (.var 1) (.int 8), .bi .add (.var 1) (.int 12)])), .sint .i64 (.fn 15 (argsE [.var 5, .bi .add (.var 1) (.int 12), .bi .add (.var 1) (.int 16)])), .sint .i64 (.fn 15 (argsE [.var 5, .bi .add (.var 1) (.int 16), .bi .add (.var 1) (.int 20)])), .sslice 5 (.int 0) (.bi .add (.var 2) (.int (-26))) (.bi .add (.var 2) (.int (-26))) true], .int .i64 0], frows := [(5, .seq ⟨5, .u8, .bi .add (.var 2) (.int (-26)), .tr .cut (.var 5) (.bi .add (.var 1) (.int 22)) (.bi .add (.var 1) (.bi .add (.var 2) (.int (-4)))), true, false⟩)], same := [] }
abbrev asFo0 : Q × Bool := ((.fit .i64 (.var 2)), true)
abbrev asFo1 : Q × Bool := ((.le (.var 2) (.int 1426)), true)
abbrev asFo2 : Q × Bool := ((.le (.int 26) (.var 2)), true)
abbrev asFo3 : Q × Bool := ((.le (.bi .add (.var 1) (.var 2)) (.var 4)), true)
abbrev asFo4 : Q × Bool := ((.le (.int 5) (.var 2)), true)
abbrev asFo5 : Q × Bool := ((.le (.var 2) (.int 1000000)), true)
abbrev asFo6 : Q × Bool := ((.eq (.fn 14 (.bi .pair (.var 5) (.bi .pair (.var 1) (.bi .pair (.bi .add (.var 1) (.var 2)) (.int 0))))) (.int 1)), true)
abbrev asFo7 : Q × Bool := ((.le (.bi .add (.var 2) (.int (-4))) (.int 3)), false)
abbrev asFo8 : Q × Bool := ((.le (.int 4) (.bi .add (.var 2) (.int (-4)))), true)
abbrev asFo9 : Q × Bool := ((.le (.int 8) (.bi .add (.var 2) (.int (-4)))), true)
abbrev asFo10 : Q × Bool := ((.le (.int 12) (.bi .add (.var 2) (.int (-4)))), true)
abbrev asFo11 : Q × Bool := ((.le (.int 16) (.bi .add (.var 2) (.int (-4)))), true)
abbrev asFo12 : Q × Bool := ((.le (.int 22) (.bi .add (.var 2) (.int (-4)))), true)
abbrev asFo13 : Q × Bool := ((.le (.bi .add (.int 4) (.bi .add (.var 2) (.int (-8)))) (.bi .add (.var 2) (.int (-4)))), true)
abbrev asFo14 : Q × Bool := ((.le (.int 4) (.bi .add (.var 2) (.int (-8)))), true)
abbrev asFo15 : Q × Bool := ((.le (.bi .add (.int 8) (.bi .add (.var 2) (.int (-12)))) (.bi .add (.var 2) (.int (-4)))), true)
abbrev asFo16 : Q × Bool := ((.le (.int 4) (.bi .add (.var 2) (.int (-12)))), true)
abbrev asFo17 : Q × Bool := ((.le (.bi .add (.int 12) (.bi .add (.var 2) (.int (-16)))) (.bi .add (.var 2) (.int (-4)))), true)
abbrev asFo18 : Q × Bool := ((.le (.int 4) (.bi .add (.var 2) (.int (-16)))), true)
abbrev asFo19 : Q × Bool := ((.le (.bi .add (.int 16) (.bi .add (.var 2) (.int (-20)))) (.bi .add (.var 2) (.int (-4)))), true)
abbrev asFo20 : Q × Bool := ((.le (.int 4) (.bi .add (.var 2) (.int (-20)))), true)
abbrev asFo21 : Q × Bool := ((.le (.bi .mul (.bi .add (.var 2) (.int (-26))) (.int 2)) (.int 281474976710656)), true)
abbrev asFo22 : Q × Bool := ((.le (.bi .add (.var 2) (.int (-4))) (.int 0)), false)
abbrev asFo23 : Q × Bool := ((.eq (.bi .sel (.tr .cut (.var 5) (.var 1) (.bi .add (.var 1) (.bi .add (.var 2) (.int (-4))))) (.int 0)) (.int 83)), true)
abbrev asFo24 : Q × Bool := ((.le (.bi .add (.var 2) (.int (-4))) (.int 1)), false)
abbrev asFo25 : Q × Bool := ((.eq (.bi .sel (.tr .cut (.var 5) (.var 1) (.bi .add (.var 1) (.bi .add (.var 2) (.int (-4))))) (.int 1)) (.int 75)), true)
abbrev asFo26 : Q × Bool := ((.le (.bi .add (.var 2) (.int (-4))) (.int 2)), false)
abbrev asFo27 : Q × Bool := ((.eq (.bi .sel (.tr .cut (.var 5) (.var 1) (.bi .add (.var 1) (.bi .add (.var 2) (.int (-4))))) (.int 2)) (.int 1)), true)
abbrev asFo28 : Q × Bool := ((.le (.int 1) (.bi .sel (.tr .cut (.var 5) (.var 1) (.bi .add (.var 1) (.bi .add (.var 2) (.int (-4))))) (.int 3))), true)
abbrev asFo29 : Q × Bool := ((.le (.bi .sel (.tr .cut (.var 5) (.var 1) (.bi .add (.var 1) (.bi .add (.var 2) (.int (-4))))) (.int 3)) (.int 5)), true)
abbrev asFo30 : Q × Bool := ((.le (.int 0) (.fn 15 (.bi .pair (.tr .cut (.var 5) (.var 1) (.bi .add (.var 1) (.bi .add (.var 2) (.int (-4))))) (.bi .pair (.int 4) (.bi .pair (.bi .add (.int 4) (.int 4)) (.int 0)))))), true)
abbrev asFo31 : Q × Bool := ((.le (.fn 15 (.bi .pair (.tr .cut (.var 5) (.var 1) (.bi .add (.var 1) (.bi .add (.var 2) (.int (-4))))) (.bi .pair (.int 4) (.bi .pair (.bi .add (.int 4) (.int 4)) (.int 0))))) (.int 2147483647)), true)
abbrev asFo32 : Q × Bool := ((.le (.int 0) (.fn 15 (.bi .pair (.tr .cut (.var 5) (.var 1) (.bi .add (.var 1) (.bi .add (.var 2) (.int (-4))))) (.bi .pair (.int 8) (.bi .pair (.bi .add (.int 8) (.int 4)) (.int 0)))))), true)
abbrev asFo33 : Q × Bool := ((.le (.fn 15 (.bi .pair (.tr .cut (.var 5) (.var 1) (.bi .add (.var 1) (.bi .add (.var 2) (.int (-4))))) (.bi .pair (.int 8) (.bi .pair (.bi .add (.int 8) (.int 4)) (.int 0))))) (.int 2147483647)), true)
abbrev asFo34 : Q × Bool := ((.le (.int 0) (.fn 15 (.bi .pair (.tr .cut (.var 5) (.var 1) (.bi .add (.var 1) (.bi .add (.var 2) (.int (-4))))) (.bi .pair (.int 12) (.bi .pair (.bi .add (.int 12) (.int 4)) (.int 0)))))), true)
abbrev asFo35 : Q × Bool := ((.le (.fn 15 (.bi .pair (.tr .cut (.var 5) (.var 1) (.bi .add (.var 1) (.bi .add (.var 2) (.int (-4))))) (.bi .pair (.int 12) (.bi .pair (.bi .add (.int 12) (.int 4)) (.int 0))))) (.int 2147483647)), true)
abbrev asFo36 : Q × Bool := ((.le (.int 0) (.fn 15 (.bi .pair (.tr .cut (.var 5) (.var 1) (.bi .add (.var 1) (.bi .add (.var 2) (.int (-4))))) (.bi .pair (.int 16) (.bi .pair (.bi .add (.int 16) (.int 4)) (.int 0)))))), true)
abbrev asFo37 : Q × Bool := ((.le (.fn 15 (.bi .pair (.tr .cut (.var 5) (.var 1) (.bi .add (.var 1) (.bi .add (.var 2) (.int (-4))))) (.bi .pair (.int 16) (.bi .pair (.bi .add (.int 16) (.int 4)) (.int 0))))) (.int 2147483647)), true)
abbrev asFo38 : Q × Bool := ((.fit .i64 (.bi .add (.var 2) (.int (-26)))), true)
abbrev asFo39 : Q × Bool := ((.le (.bi .add (.var 2) (.int (-4))) (.int 20)), false)
abbrev asFo40 : Q × Bool := ((.le (.bi .add (.var 2) (.int (-4))) (.int 21)), false)
abbrev asFo41 : Q × Bool := ((.eq (.bi .add (.var 2) (.int (-26))) (.bi (.iop .or .i64) (.bi (.iop .shl .i64) (.bi .sel (.tr .cut (.var 5) (.var 1) (.bi .add (.var 1) (.bi .add (.var 2) (.int (-4))))) (.int 20)) (.int 8)) (.bi .sel (.tr .cut (.var 5) (.var 1) (.bi .add (.var 1) (.bi .add (.var 2) (.int (-4))))) (.int 21)))), true)
abbrev asFo42 : Q × Bool := ((.le (.int 0) (.bi .add (.var 2) (.int (-26)))), true)
abbrev asFo43 : Q × Bool := ((.le (.bi .add (.var 2) (.int (-26))) (.int 1000000)), true)
abbrev asFo44 : Q × Bool := ((.eq (.fn 17 (.bi .pair (.bi .sel (.tr .cut (.var 5) (.var 1) (.bi .add (.var 1) (.bi .add (.var 2) (.int (-4))))) (.int 3)) (.bi .pair (.fn 15 (.bi .pair (.tr .cut (.var 5) (.var 1) (.bi .add (.var 1) (.bi .add (.var 2) (.int (-4))))) (.bi .pair (.int 4) (.bi .pair (.bi .add (.int 4) (.int 4)) (.int 0))))) (.bi .pair (.fn 15 (.bi .pair (.tr .cut (.var 5) (.var 1) (.bi .add (.var 1) (.bi .add (.var 2) (.int (-4))))) (.bi .pair (.int 8) (.bi .pair (.bi .add (.int 8) (.int 4)) (.int 0))))) (.bi .pair (.fn 15 (.bi .pair (.tr .cut (.var 5) (.var 1) (.bi .add (.var 1) (.bi .add (.var 2) (.int (-4))))) (.bi .pair (.int 12) (.bi .pair (.bi .add (.int 12) (.int 4)) (.int 0))))) (.bi .pair (.fn 15 (.bi .pair (.tr .cut (.var 5) (.var 1) (.bi .add (.var 1) (.bi .add (.var 2) (.int (-4))))) (.bi .pair (.int 16) (.bi .pair (.bi .add (.int 16) (.int 4)) (.int 0))))) (.bi .pair (.bi .add (.var 2) (.int (-26))) (.int 0)))))))) (.int 1)), true)
def rreadYO_t0 : List (Q × Bool) := [asFo0, asFo1, asFo2, asFo3, asFo4, asFo5, asFo6, asFo7, asFo8, asFo9, asFo10, asFo11, asFo12, asFo13, asFo14, asFo15, asFo16, asFo17, asFo18, asFo19, asFo20, asFo21, asFo22, asFo23, asFo24, asFo25, asFo26, asFo27, asFo28, asFo29, asFo30, asFo31, asFo32, asFo33, asFo34, asFo35, asFo36, asFo37, asFo38, asFo39, asFo40, asFo41, asFo42, asFo43, asFo44]
abbrev teFo0 : E := (.tr .cut (.var 5) (.var 1) (.bi .add (.var 1) (.bi .add (.var 2) (.int (-4)))))
def rreadYO_d0 : List Duty := [(true, (.bi .sel teFo0 (.int 3)), (.fn 15 (.bi .pair (.var 5) (.bi .pair (.bi .add (.var 1) (.int 3)) (.bi .pair (.bi .add (.var 1) (.int 4)) (.int 0)))))), (true, (.fn 15 (.bi .pair teFo0 (.bi .pair (.int 4) (.bi .pair (.bi .add (.int 4) (.int 4)) (.int 0))))), (.fn 15 (.bi .pair (.var 5) (.bi .pair (.bi .add (.var 1) (.int 4)) (.bi .pair (.bi .add (.var 1) (.int 8)) (.int 0)))))), (true, (.fn 15 (.bi .pair teFo0 (.bi .pair (.int 8) (.bi .pair (.bi .add (.int 8) (.int 4)) (.int 0))))), (.fn 15 (.bi .pair (.var 5) (.bi .pair (.bi .add (.var 1) (.int 8)) (.bi .pair (.bi .add (.var 1) (.int 12)) (.int 0)))))), (true, (.fn 15 (.bi .pair teFo0 (.bi .pair (.int 12) (.bi .pair (.bi .add (.int 12) (.int 4)) (.int 0))))), (.fn 15 (.bi .pair (.var 5) (.bi .pair (.bi .add (.var 1) (.int 12)) (.bi .pair (.bi .add (.var 1) (.int 16)) (.int 0)))))), (true, (.fn 15 (.bi .pair teFo0 (.bi .pair (.int 16) (.bi .pair (.bi .add (.int 16) (.int 4)) (.int 0))))), (.fn 15 (.bi .pair (.var 5) (.bi .pair (.bi .add (.var 1) (.int 16)) (.bi .pair (.bi .add (.var 1) (.int 20)) (.int 0)))))), (false, (.tr .cut teFo0 (.int 22) (.bi .add (.var 2) (.int (-4)))), (.tr .cut (.var 5) (.bi .add (.var 1) (.int 22)) (.bi .add (.var 1) (.bi .add (.var 2) (.int (-4))))))]
theorem rreadYO_y0 : endC rreadYO [(5, 11)] 1000 (callC Tryd.prog (tellA rreadYO_t0) [] [(40, numCO), (39, rgchkY), (39, rgchkYO), (39, rgchkN), (39, rgchkNO), (35, saysYO), (35, saysNO)] [] 3000 40 20 rreadYO) = some rreadYO_d0 := by kernel_rfl
theorem rreadYO_holds : CHolds Tryd.prog 20 rreadYO F := by
  refine cholds_of sound (tableNil _ _) (specsCons numCO_holds (specsCons rgchkY_holds (specsCons rgchkYO_holds (specsCons rgchkN_holds (specsCons rgchkNO_holds (specsCons saysYO_holds (specsCons saysNO_holds (specsNil _ _)))))))) (oversNil _ _) (fuel := 3000) (depth := 40) (by kernel_rfl) fun d hp hR hA => ?_
  have hp := allTold'_iff.2 hp
  simp only [rreadYO, allTold', dutiesTold, factsA, factsC, factsP, factsR, AV.facts, RW.facts, inK, and_true, Q.holds', E.i, E.s, E.n, D.nat, E.den, BO.den, UO.den, TO.den, D.toInt_int, D.toList_list, D.ints_ofInts, i64min, i64max, u8min, u8max, u16min, u16max, u32min, u32max, u64min, u64max, i32min, i32max, Om.sub, selI, ints_app, ints_cut, ints_upd, ints_rep, ints_splice, ints_seg, len_ints] at hp hR hA
  simp only [F16, argsE, allTold', dutiesTold, factsA, factsC, factsP, factsR, AV.facts, RW.facts, inK, and_true, Q.holds', E.i, E.s, E.n, D.nat, E.den, BO.den, UO.den, TO.den, D.toInt_int, D.toList_list, D.ints_ofInts, i64min, i64max, u8min, u8max, u16min, u16max, u32min, u32max, u64min, u64max, i32min, i32max, Om.sub, selI, ints_app, ints_cut, ints_upd, ints_rep, ints_splice, ints_seg, len_ints] at hp
  obtain ⟨hl, hx⟩ := hR
  have hr := read_y (x := (d 5).ints) (o := (d 1).toInt) (l := (d 2).toInt) (by omega) (by omega) (by omega)
  have hi := hp.2.2
  rw [hr] at hi
  split at hi
  · omega
  split at hi
  · omega
  split at hi
  · omega
  rename_i h1 h2 hg
  have hg := Decidable.not_not.1 hg
  have hY : (((prt (d 5).ints (d 1).toInt ((d 1).toInt + ((d 2).toInt + -4)))).length : Int) = (d 2).toInt + -4 := by rw [prt_length (by omega) (by omega) (by omega)]; omega
  have yb : ∀ c ∈ (prt (d 5).ints (d 1).toInt ((d 1).toInt + ((d 2).toInt + -4))), 0 ≤ c ∧ c ≤ 255 := fun c hc => hx c (List.mem_of_mem_take (List.mem_of_mem_drop hc))
  have a1 := be4_in yb (o := 4) (t := 8) (by omega) (by omega) (by omega)
  have a2 := be4_in yb (o := 8) (t := 12) (by omega) (by omega) (by omega)
  have a3 := be4_in yb (o := 12) (t := 16) (by omega) (by omega) (by omega)
  have a4 := be4_in yb (o := 16) (t := 20) (by omega) (by omega) (by omega)
  have y0 := sel_in yb 0
  have y1 := sel_in yb 1
  have y2 := sel_in yb 2
  have y3 := sel_in yb 3
  have y20 := sel_in yb 20
  have y21 := sel_in yb 21
  have o8 := or8 (n := (((prt (d 5).ints (d 1).toInt ((d 1).toInt + ((d 2).toInt + -4))))[20]?).getD 0) (c := (((prt (d 5).ints (d 1).toInt ((d 1).toInt + ((d 2).toInt + -4))))[21]?).getD 0) y20.1 (by omega) y21.1 y21.2
  have cc : List.drop (d 1).toInt.toNat (List.take ((d 1).toInt + ((d 2).toInt + -4)).toNat (d 5).ints) = (prt (d 5).ints (d 1).toInt ((d 1).toInt + ((d 2).toInt + -4))) := rfl
  have e15 : ∀ a b : Int, 0 ≤ a → a ≤ b → b ≤ 22 → prt (d 5).ints ((d 1).toInt + a) ((d 1).toInt + b) = prt ((prt (d 5).ints (d 1).toInt ((d 1).toInt + ((d 2).toInt + -4)))) a b := fun a b ha hb hc => (prt_prt (by omega) ha hb (by omega)).symm
  have e3 := e15 3 4 (by omega) (by omega) (by omega)
  have e4 := e15 4 8 (by omega) (by omega) (by omega)
  have e8 := e15 8 12 (by omega) (by omega) (by omega)
  have e12 := e15 12 16 (by omega) (by omega) (by omega)
  have e16 := e15 16 20 (by omega) (by omega) (by omega)
  have b3 : be (prt ((prt (d 5).ints (d 1).toInt ((d 1).toInt + ((d 2).toInt + -4)))) 3 4) = (((prt (d 5).ints (d 1).toInt ((d 1).toInt + ((d 2).toInt + -4))))[3]?).getD 0 := be_1 (x := (prt (d 5).ints (d 1).toInt ((d 1).toInt + ((d 2).toInt + -4)))) (o := 3) (t := 4) (by omega) (by omega) (by omega)
  have ebd : prt ((prt (d 5).ints (d 1).toInt ((d 1).toInt + ((d 2).toInt + -4)))) 22 ((d 2).toInt + -4) = prt (d 5).ints ((d 1).toInt + 22) ((d 1).toInt + ((d 2).toInt + -4)) := prt_prt (by omega) (by omega) (by omega) (by omega)
  clear hl hx e15
  generalize hv0_ : (((prt (d 5).ints (d 1).toInt ((d 1).toInt + ((d 2).toInt + -4))))[0]?).getD 0 = v0 at *
  generalize hv1_ : (((prt (d 5).ints (d 1).toInt ((d 1).toInt + ((d 2).toInt + -4))))[1]?).getD 0 = v1 at *
  generalize hv2_ : (((prt (d 5).ints (d 1).toInt ((d 1).toInt + ((d 2).toInt + -4))))[2]?).getD 0 = v2 at *
  generalize hv3_ : (((prt (d 5).ints (d 1).toInt ((d 1).toInt + ((d 2).toInt + -4))))[3]?).getD 0 = v3 at *
  generalize hv20_ : (((prt (d 5).ints (d 1).toInt ((d 1).toInt + ((d 2).toInt + -4))))[20]?).getD 0 = v20 at *
  generalize hv21_ : (((prt (d 5).ints (d 1).toInt ((d 1).toInt + ((d 2).toInt + -4))))[21]?).getD 0 = v21 at *
  generalize hw1_ : be (prt (prt (d 5).ints (d 1).toInt ((d 1).toInt + ((d 2).toInt + -4))) 4 8) = w1 at *
  generalize hw2_ : be (prt (prt (d 5).ints (d 1).toInt ((d 1).toInt + ((d 2).toInt + -4))) 8 12) = w2 at *
  generalize hw3_ : be (prt (prt (d 5).ints (d 1).toInt ((d 1).toInt + ((d 2).toInt + -4))) 12 16) = w3 at *
  generalize hw4_ : be (prt (prt (d 5).ints (d 1).toInt ((d 1).toInt + ((d 2).toInt + -4))) 16 20) = w4 at *
  unfold sayI rangeP at hi
  repeat' split at hi
  all_goals try omega
  rename_i s1 s2 s3 s4 s5 s6
  have hs : (if saysP v3 w1 w2 w3 w4 ((d 2).toInt + -26) then (1 : Int) else 0) = 1 := by rw [if_pos s6]
  refine ⟨tellA rreadYO_t0, _, _, _, tellA_ok (allTold'_iff.1 ?_), rreadYO_y0, dutiesTold_ok ?_⟩
  · simp only [rreadYO_t0, F14, F15, F17, ints_list, List.map_drop, List.map_take, map_ints, allTold', dutiesTold, factsA, factsC, factsP, factsR, AV.facts, RW.facts, inK, and_true, Q.holds', E.i, E.s, E.n, D.nat, E.den, BO.den, UO.den, TO.den, D.toInt_int, D.toList_list, D.ints_ofInts, i64min, i64max, u8min, u8max, u16min, u16max, u32min, u32max, u64min, u64max, i32min, i32max, Om.sub, selI, ints_app, ints_cut, ints_upd, ints_rep, ints_splice, ints_seg, len_ints]
    simp only [selC, cc, Int.reduceToNat, Int.reduceAdd, o8, cut_prt, hv0_, hv1_, hv2_, hv3_, hv20_, hv21_, hw1_, hw2_, hw3_, hw4_]
    all_goals (and_intros <;> first | omega | exact hg | exact hs | trivial)
  · simp only [rreadYO_d0, F15, F16, ints_list, List.map_drop, List.map_take, map_ints, allTold', dutiesTold, factsA, factsC, factsP, factsR, AV.facts, RW.facts, inK, and_true, Q.holds', E.i, E.s, E.n, D.nat, E.den, BO.den, UO.den, TO.den, D.toInt_int, D.toList_list, D.ints_ofInts, i64min, i64max, u8min, u8max, u16min, u16max, u32min, u32max, u64min, u64max, i32min, i32max, Om.sub, selI, ints_app, ints_cut, ints_upd, ints_rep, ints_splice, ints_seg, len_ints]
    simp only [selC, hr, cc, e3, e4, e8, e12, e16, b3, ebd, cut_prt, Int.reduceToNat, Int.reduceAdd, hv0_, hv1_, hv2_, hv3_, hv20_, hv21_, hw1_, hw2_, hw3_, hw4_]
    all_goals (and_intros <;> first | omega | rfl | (exact hv.symm) | exact hv | trivial)

def rreadNO : CSpec := { args := [.sslice 3 (.var 1) (.var 2) (.var 3) true], next := 2, rows := [(3, .eseq ⟨.u8, .var 4, .var 5⟩)], pre := [(.le (.bi .add (.var 1) (.var 2)) (.var 4), true), (.le (.var 2) (.int 1000000), true), (.eq (.fn 16 (argsE [.var 5, .var 1, .bi .add (.var 1) (.var 2)])) (.int 0), false)], res := .tuple [.agg [.int .i64 0, .int .i64 0, .int .i64 0, .int .i64 0, .int .i64 0, .nilslice], .sint .i64 (.fn 16 (argsE [.var 5, .var 1, .bi .add (.var 1) (.var 2)]))], frows := [], same := [] }
abbrev asFo45 : Q × Bool := ((.le (.var 2) (.int 1426)), false)
def rreadNO_t0 : List (Q × Bool) := [asFo0, asFo45]
def rreadNO_d0 : List Duty := [(true, (.int 3), (.fn 16 (.bi .pair (.var 5) (.bi .pair (.var 1) (.bi .pair (.bi .add (.var 1) (.var 2)) (.int 0))))))]
theorem rreadNO_y0 : endC rreadNO [] 1000 (callC Tryd.prog (tellA rreadNO_t0) [] [(40, numCO), (39, rgchkY), (39, rgchkYO), (39, rgchkN), (39, rgchkNO), (35, saysYO), (35, saysNO)] [] 3000 40 20 rreadNO) = some rreadNO_d0 := by kernel_rfl
abbrev asFo46 : Q × Bool := ((.le (.int 26) (.var 2)), false)
def rreadNO_t1 : List (Q × Bool) := [asFo0, asFo1, asFo46]
def rreadNO_d1 : List Duty := [(true, (.int 4), (.fn 16 (.bi .pair (.var 5) (.bi .pair (.var 1) (.bi .pair (.bi .add (.var 1) (.var 2)) (.int 0))))))]
theorem rreadNO_y1 : endC rreadNO [] 1000 (callC Tryd.prog (tellA rreadNO_t1) [] [(40, numCO), (39, rgchkY), (39, rgchkYO), (39, rgchkN), (39, rgchkNO), (35, saysYO), (35, saysNO)] [] 3000 40 20 rreadNO) = some rreadNO_d1 := by kernel_rfl
abbrev asFo47 : Q × Bool := ((.eq (.fn 14 (.bi .pair (.var 5) (.bi .pair (.var 1) (.bi .pair (.bi .add (.var 1) (.var 2)) (.int 0))))) (.int 1)), false)
def rreadNO_t2 : List (Q × Bool) := [asFo0, asFo1, asFo2, asFo3, asFo4, asFo5, asFo47]
def rreadNO_d2 : List Duty := [(true, (.int 210), (.fn 16 (.bi .pair (.var 5) (.bi .pair (.var 1) (.bi .pair (.bi .add (.var 1) (.var 2)) (.int 0))))))]
theorem rreadNO_y2 : endC rreadNO [] 1000 (callC Tryd.prog (tellA rreadNO_t2) [] [(40, numCO), (39, rgchkY), (39, rgchkYO), (39, rgchkN), (39, rgchkNO), (35, saysYO), (35, saysNO)] [] 3000 40 20 rreadNO) = some rreadNO_d2 := by kernel_rfl
abbrev asFo48 : Q × Bool := ((.eq (.bi .sel (.tr .cut (.var 5) (.var 1) (.bi .add (.var 1) (.bi .add (.var 2) (.int (-4))))) (.int 0)) (.int 83)), false)
def rreadNO_t3 : List (Q × Bool) := [asFo0, asFo1, asFo2, asFo3, asFo4, asFo5, asFo6, asFo7, asFo8, asFo9, asFo10, asFo11, asFo12, asFo13, asFo14, asFo15, asFo16, asFo17, asFo18, asFo19, asFo20, asFo21, asFo22, asFo48]
def rreadNO_d3 : List Duty := [(true, (.int 211), (.fn 16 (.bi .pair (.var 5) (.bi .pair (.var 1) (.bi .pair (.bi .add (.var 1) (.var 2)) (.int 0))))))]
theorem rreadNO_y3 : endC rreadNO [] 1000 (callC Tryd.prog (tellA rreadNO_t3) [] [(40, numCO), (39, rgchkY), (39, rgchkYO), (39, rgchkN), (39, rgchkNO), (35, saysYO), (35, saysNO)] [] 3000 40 20 rreadNO) = some rreadNO_d3 := by kernel_rfl
abbrev asFo49 : Q × Bool := ((.eq (.bi .sel (.tr .cut (.var 5) (.var 1) (.bi .add (.var 1) (.bi .add (.var 2) (.int (-4))))) (.int 1)) (.int 75)), false)
def rreadNO_t4 : List (Q × Bool) := [asFo0, asFo1, asFo2, asFo3, asFo4, asFo5, asFo6, asFo7, asFo8, asFo9, asFo10, asFo11, asFo12, asFo13, asFo14, asFo15, asFo16, asFo17, asFo18, asFo19, asFo20, asFo21, asFo22, asFo23, asFo24, asFo49]
def rreadNO_d4 : List Duty := [(true, (.int 211), (.fn 16 (.bi .pair (.var 5) (.bi .pair (.var 1) (.bi .pair (.bi .add (.var 1) (.var 2)) (.int 0))))))]
theorem rreadNO_y4 : endC rreadNO [] 1000 (callC Tryd.prog (tellA rreadNO_t4) [] [(40, numCO), (39, rgchkY), (39, rgchkYO), (39, rgchkN), (39, rgchkNO), (35, saysYO), (35, saysNO)] [] 3000 40 20 rreadNO) = some rreadNO_d4 := by kernel_rfl
abbrev asFo50 : Q × Bool := ((.eq (.bi .sel (.tr .cut (.var 5) (.var 1) (.bi .add (.var 1) (.bi .add (.var 2) (.int (-4))))) (.int 2)) (.int 1)), false)
def rreadNO_t5 : List (Q × Bool) := [asFo0, asFo1, asFo2, asFo3, asFo4, asFo5, asFo6, asFo7, asFo8, asFo9, asFo10, asFo11, asFo12, asFo13, asFo14, asFo15, asFo16, asFo17, asFo18, asFo19, asFo20, asFo21, asFo22, asFo23, asFo24, asFo25, asFo26, asFo50]
def rreadNO_d5 : List Duty := [(true, (.int 212), (.fn 16 (.bi .pair (.var 5) (.bi .pair (.var 1) (.bi .pair (.bi .add (.var 1) (.var 2)) (.int 0))))))]
theorem rreadNO_y5 : endC rreadNO [] 1000 (callC Tryd.prog (tellA rreadNO_t5) [] [(40, numCO), (39, rgchkY), (39, rgchkYO), (39, rgchkN), (39, rgchkNO), (35, saysYO), (35, saysNO)] [] 3000 40 20 rreadNO) = some rreadNO_d5 := by kernel_rfl
abbrev asFo51 : Q × Bool := ((.le (.int 1) (.bi .sel (.tr .cut (.var 5) (.var 1) (.bi .add (.var 1) (.bi .add (.var 2) (.int (-4))))) (.int 3))), false)
def rreadNO_t6 : List (Q × Bool) := [asFo0, asFo1, asFo2, asFo3, asFo4, asFo5, asFo6, asFo7, asFo8, asFo9, asFo10, asFo11, asFo12, asFo13, asFo14, asFo15, asFo16, asFo17, asFo18, asFo19, asFo20, asFo21, asFo22, asFo23, asFo24, asFo25, asFo26, asFo27, asFo51]
def rreadNO_d6 : List Duty := [(true, (.int 213), (.fn 16 (.bi .pair (.var 5) (.bi .pair (.var 1) (.bi .pair (.bi .add (.var 1) (.var 2)) (.int 0))))))]
theorem rreadNO_y6 : endC rreadNO [] 1000 (callC Tryd.prog (tellA rreadNO_t6) [] [(40, numCO), (39, rgchkY), (39, rgchkYO), (39, rgchkN), (39, rgchkNO), (35, saysYO), (35, saysNO)] [] 3000 40 20 rreadNO) = some rreadNO_d6 := by kernel_rfl
abbrev asFo52 : Q × Bool := ((.le (.bi .sel (.tr .cut (.var 5) (.var 1) (.bi .add (.var 1) (.bi .add (.var 2) (.int (-4))))) (.int 3)) (.int 5)), false)
def rreadNO_t7 : List (Q × Bool) := [asFo0, asFo1, asFo2, asFo3, asFo4, asFo5, asFo6, asFo7, asFo8, asFo9, asFo10, asFo11, asFo12, asFo13, asFo14, asFo15, asFo16, asFo17, asFo18, asFo19, asFo20, asFo21, asFo22, asFo23, asFo24, asFo25, asFo26, asFo27, asFo28, asFo52]
def rreadNO_d7 : List Duty := [(true, (.int 213), (.fn 16 (.bi .pair (.var 5) (.bi .pair (.var 1) (.bi .pair (.bi .add (.var 1) (.var 2)) (.int 0))))))]
theorem rreadNO_y7 : endC rreadNO [] 1000 (callC Tryd.prog (tellA rreadNO_t7) [] [(40, numCO), (39, rgchkY), (39, rgchkYO), (39, rgchkN), (39, rgchkNO), (35, saysYO), (35, saysNO)] [] 3000 40 20 rreadNO) = some rreadNO_d7 := by kernel_rfl
abbrev asFo53 : Q × Bool := ((.le (.fn 15 (.bi .pair (.tr .cut (.var 5) (.var 1) (.bi .add (.var 1) (.bi .add (.var 2) (.int (-4))))) (.bi .pair (.int 4) (.bi .pair (.bi .add (.int 4) (.int 4)) (.int 0))))) (.int 2147483647)), false)
def rreadNO_t8 : List (Q × Bool) := [asFo0, asFo1, asFo2, asFo3, asFo4, asFo5, asFo6, asFo7, asFo8, asFo9, asFo10, asFo11, asFo12, asFo13, asFo14, asFo15, asFo16, asFo17, asFo18, asFo19, asFo20, asFo21, asFo22, asFo23, asFo24, asFo25, asFo26, asFo27, asFo28, asFo29, asFo30, asFo53]
def rreadNO_d8 : List Duty := [(true, (.int 5), (.fn 16 (.bi .pair (.var 5) (.bi .pair (.var 1) (.bi .pair (.bi .add (.var 1) (.var 2)) (.int 0))))))]
theorem rreadNO_y8 : endC rreadNO [] 1000 (callC Tryd.prog (tellA rreadNO_t8) [] [(40, numCO), (39, rgchkY), (39, rgchkYO), (39, rgchkN), (39, rgchkNO), (35, saysYO), (35, saysNO)] [] 3000 40 20 rreadNO) = some rreadNO_d8 := by kernel_rfl
abbrev asFo54 : Q × Bool := ((.le (.fn 15 (.bi .pair (.tr .cut (.var 5) (.var 1) (.bi .add (.var 1) (.bi .add (.var 2) (.int (-4))))) (.bi .pair (.int 8) (.bi .pair (.bi .add (.int 8) (.int 4)) (.int 0))))) (.int 2147483647)), false)
def rreadNO_t9 : List (Q × Bool) := [asFo0, asFo1, asFo2, asFo3, asFo4, asFo5, asFo6, asFo7, asFo8, asFo9, asFo10, asFo11, asFo12, asFo13, asFo14, asFo15, asFo16, asFo17, asFo18, asFo19, asFo20, asFo21, asFo22, asFo23, asFo24, asFo25, asFo26, asFo27, asFo28, asFo29, asFo30, asFo31, asFo32, asFo54]
def rreadNO_d9 : List Duty := [(true, (.int 5), (.fn 16 (.bi .pair (.var 5) (.bi .pair (.var 1) (.bi .pair (.bi .add (.var 1) (.var 2)) (.int 0))))))]
theorem rreadNO_y9 : endC rreadNO [] 1000 (callC Tryd.prog (tellA rreadNO_t9) [] [(40, numCO), (39, rgchkY), (39, rgchkYO), (39, rgchkN), (39, rgchkNO), (35, saysYO), (35, saysNO)] [] 3000 40 20 rreadNO) = some rreadNO_d9 := by kernel_rfl
abbrev asFo55 : Q × Bool := ((.le (.fn 15 (.bi .pair (.tr .cut (.var 5) (.var 1) (.bi .add (.var 1) (.bi .add (.var 2) (.int (-4))))) (.bi .pair (.int 12) (.bi .pair (.bi .add (.int 12) (.int 4)) (.int 0))))) (.int 2147483647)), false)
def rreadNO_t10 : List (Q × Bool) := [asFo0, asFo1, asFo2, asFo3, asFo4, asFo5, asFo6, asFo7, asFo8, asFo9, asFo10, asFo11, asFo12, asFo13, asFo14, asFo15, asFo16, asFo17, asFo18, asFo19, asFo20, asFo21, asFo22, asFo23, asFo24, asFo25, asFo26, asFo27, asFo28, asFo29, asFo30, asFo31, asFo32, asFo33, asFo34, asFo55]
def rreadNO_d10 : List Duty := [(true, (.int 5), (.fn 16 (.bi .pair (.var 5) (.bi .pair (.var 1) (.bi .pair (.bi .add (.var 1) (.var 2)) (.int 0))))))]
theorem rreadNO_y10 : endC rreadNO [] 1000 (callC Tryd.prog (tellA rreadNO_t10) [] [(40, numCO), (39, rgchkY), (39, rgchkYO), (39, rgchkN), (39, rgchkNO), (35, saysYO), (35, saysNO)] [] 3000 40 20 rreadNO) = some rreadNO_d10 := by kernel_rfl
abbrev asFo56 : Q × Bool := ((.le (.fn 15 (.bi .pair (.tr .cut (.var 5) (.var 1) (.bi .add (.var 1) (.bi .add (.var 2) (.int (-4))))) (.bi .pair (.int 16) (.bi .pair (.bi .add (.int 16) (.int 4)) (.int 0))))) (.int 2147483647)), false)
def rreadNO_t11 : List (Q × Bool) := [asFo0, asFo1, asFo2, asFo3, asFo4, asFo5, asFo6, asFo7, asFo8, asFo9, asFo10, asFo11, asFo12, asFo13, asFo14, asFo15, asFo16, asFo17, asFo18, asFo19, asFo20, asFo21, asFo22, asFo23, asFo24, asFo25, asFo26, asFo27, asFo28, asFo29, asFo30, asFo31, asFo32, asFo33, asFo34, asFo35, asFo36, asFo56]
def rreadNO_d11 : List Duty := [(true, (.int 5), (.fn 16 (.bi .pair (.var 5) (.bi .pair (.var 1) (.bi .pair (.bi .add (.var 1) (.var 2)) (.int 0))))))]
theorem rreadNO_y11 : endC rreadNO [] 1000 (callC Tryd.prog (tellA rreadNO_t11) [] [(40, numCO), (39, rgchkY), (39, rgchkYO), (39, rgchkN), (39, rgchkNO), (35, saysYO), (35, saysNO)] [] 3000 40 20 rreadNO) = some rreadNO_d11 := by kernel_rfl
abbrev asFo57 : Q × Bool := ((.eq (.bi .add (.var 2) (.int (-26))) (.bi (.iop .or .i64) (.bi (.iop .shl .i64) (.bi .sel (.tr .cut (.var 5) (.var 1) (.bi .add (.var 1) (.bi .add (.var 2) (.int (-4))))) (.int 20)) (.int 8)) (.bi .sel (.tr .cut (.var 5) (.var 1) (.bi .add (.var 1) (.bi .add (.var 2) (.int (-4))))) (.int 21)))), false)
def rreadNO_t12 : List (Q × Bool) := [asFo0, asFo1, asFo2, asFo3, asFo4, asFo5, asFo6, asFo7, asFo8, asFo9, asFo10, asFo11, asFo12, asFo13, asFo14, asFo15, asFo16, asFo17, asFo18, asFo19, asFo20, asFo21, asFo22, asFo23, asFo24, asFo25, asFo26, asFo27, asFo28, asFo29, asFo30, asFo31, asFo32, asFo33, asFo34, asFo35, asFo36, asFo37, asFo38, asFo39, asFo40, asFo57]
def rreadNO_d12 : List Duty := [(true, (.int 214), (.fn 16 (.bi .pair (.var 5) (.bi .pair (.var 1) (.bi .pair (.bi .add (.var 1) (.var 2)) (.int 0))))))]
theorem rreadNO_y12 : endC rreadNO [] 1000 (callC Tryd.prog (tellA rreadNO_t12) [] [(40, numCO), (39, rgchkY), (39, rgchkYO), (39, rgchkN), (39, rgchkNO), (35, saysYO), (35, saysNO)] [] 3000 40 20 rreadNO) = some rreadNO_d12 := by kernel_rfl
abbrev asFo58 : Q × Bool := ((.eq (.fn 17 (.bi .pair (.bi .sel (.tr .cut (.var 5) (.var 1) (.bi .add (.var 1) (.bi .add (.var 2) (.int (-4))))) (.int 3)) (.bi .pair (.fn 15 (.bi .pair (.tr .cut (.var 5) (.var 1) (.bi .add (.var 1) (.bi .add (.var 2) (.int (-4))))) (.bi .pair (.int 4) (.bi .pair (.bi .add (.int 4) (.int 4)) (.int 0))))) (.bi .pair (.fn 15 (.bi .pair (.tr .cut (.var 5) (.var 1) (.bi .add (.var 1) (.bi .add (.var 2) (.int (-4))))) (.bi .pair (.int 8) (.bi .pair (.bi .add (.int 8) (.int 4)) (.int 0))))) (.bi .pair (.fn 15 (.bi .pair (.tr .cut (.var 5) (.var 1) (.bi .add (.var 1) (.bi .add (.var 2) (.int (-4))))) (.bi .pair (.int 12) (.bi .pair (.bi .add (.int 12) (.int 4)) (.int 0))))) (.bi .pair (.fn 15 (.bi .pair (.tr .cut (.var 5) (.var 1) (.bi .add (.var 1) (.bi .add (.var 2) (.int (-4))))) (.bi .pair (.int 16) (.bi .pair (.bi .add (.int 16) (.int 4)) (.int 0))))) (.bi .pair (.bi .add (.var 2) (.int (-26))) (.int 0)))))))) (.int 1)), false)
def rreadNO_t13 : List (Q × Bool) := [asFo0, asFo1, asFo2, asFo3, asFo4, asFo5, asFo6, asFo7, asFo8, asFo9, asFo10, asFo11, asFo12, asFo13, asFo14, asFo15, asFo16, asFo17, asFo18, asFo19, asFo20, asFo21, asFo22, asFo23, asFo24, asFo25, asFo26, asFo27, asFo28, asFo29, asFo30, asFo31, asFo32, asFo33, asFo34, asFo35, asFo36, asFo37, asFo38, asFo39, asFo40, asFo41, asFo42, asFo43, asFo58]
def rreadNO_d13 : List Duty := [(true, (.int 2), (.fn 16 (.bi .pair (.var 5) (.bi .pair (.var 1) (.bi .pair (.bi .add (.var 1) (.var 2)) (.int 0))))))]
theorem rreadNO_y13 : endC rreadNO [] 1000 (callC Tryd.prog (tellA rreadNO_t13) [] [(40, numCO), (39, rgchkY), (39, rgchkYO), (39, rgchkN), (39, rgchkNO), (35, saysYO), (35, saysNO)] [] 3000 40 20 rreadNO) = some rreadNO_d13 := by kernel_rfl
set_option maxHeartbeats 16000000 in
theorem rreadNO_holds : CHolds Tryd.prog 20 rreadNO F := by
  refine cholds_of sound (tableNil _ _) (specsCons numCO_holds (specsCons rgchkY_holds (specsCons rgchkYO_holds (specsCons rgchkN_holds (specsCons rgchkNO_holds (specsCons saysYO_holds (specsCons saysNO_holds (specsNil _ _)))))))) (oversNil _ _) (fuel := 3000) (depth := 40) (by kernel_rfl) fun d hp hR hA => ?_
  have hp := allTold'_iff.2 hp
  simp only [rreadNO, allTold', dutiesTold, factsA, factsC, factsP, factsR, AV.facts, RW.facts, inK, and_true, Q.holds', E.i, E.s, E.n, D.nat, E.den, BO.den, UO.den, TO.den, D.toInt_int, D.toList_list, D.ints_ofInts, i64min, i64max, u8min, u8max, u16min, u16max, u32min, u32max, u64min, u64max, i32min, i32max, Om.sub, selI, ints_app, ints_cut, ints_upd, ints_rep, ints_splice, ints_seg, len_ints] at hp hR hA
  simp only [F16, argsE, allTold', dutiesTold, factsA, factsC, factsP, factsR, AV.facts, RW.facts, inK, and_true, Q.holds', E.i, E.s, E.n, D.nat, E.den, BO.den, UO.den, TO.den, D.toInt_int, D.toList_list, D.ints_ofInts, i64min, i64max, u8min, u8max, u16min, u16max, u32min, u32max, u64min, u64max, i32min, i32max, Om.sub, selI, ints_app, ints_cut, ints_upd, ints_rep, ints_splice, ints_seg, len_ints] at hp
  obtain ⟨hl, hx⟩ := hR
  have hr := read_y (x := (d 5).ints) (o := (d 1).toInt) (l := (d 2).toInt) (by omega) (by omega) (by omega)
  by_cases h1 : 1426 < (d 2).toInt
  · rw [if_pos h1] at hr
    refine ⟨tellA rreadNO_t0, _, _, _, tellA_ok (allTold'_iff.1 ?_), rreadNO_y0, dutiesTold_ok ?_⟩
    · simp only [rreadNO_t0, allTold', dutiesTold, factsA, factsC, factsP, factsR, AV.facts, RW.facts, inK, and_true, Q.holds', E.i, E.s, E.n, D.nat, E.den, BO.den, UO.den, TO.den, D.toInt_int, D.toList_list, D.ints_ofInts, i64min, i64max, u8min, u8max, u16min, u16max, u32min, u32max, u64min, u64max, i32min, i32max, Om.sub, selI, ints_app, ints_cut, ints_upd, ints_rep, ints_splice, ints_seg, len_ints]
      omega
    · simp only [rreadNO_d0, F16, allTold', dutiesTold, factsA, factsC, factsP, factsR, AV.facts, RW.facts, inK, and_true, Q.holds', E.i, E.s, E.n, D.nat, E.den, BO.den, UO.den, TO.den, D.toInt_int, D.toList_list, D.ints_ofInts, i64min, i64max, u8min, u8max, u16min, u16max, u32min, u32max, u64min, u64max, i32min, i32max, Om.sub, selI, ints_app, ints_cut, ints_upd, ints_rep, ints_splice, ints_seg, len_ints]
      rw [hr]
      all_goals (and_intros <;> first | omega | rfl | trivial)
  rw [if_neg h1] at hr
  by_cases h2 : (d 2).toInt < 26
  · rw [if_pos h2] at hr
    refine ⟨tellA rreadNO_t1, _, _, _, tellA_ok (allTold'_iff.1 ?_), rreadNO_y1, dutiesTold_ok ?_⟩
    · simp only [rreadNO_t1, allTold', dutiesTold, factsA, factsC, factsP, factsR, AV.facts, RW.facts, inK, and_true, Q.holds', E.i, E.s, E.n, D.nat, E.den, BO.den, UO.den, TO.den, D.toInt_int, D.toList_list, D.ints_ofInts, i64min, i64max, u8min, u8max, u16min, u16max, u32min, u32max, u64min, u64max, i32min, i32max, Om.sub, selI, ints_app, ints_cut, ints_upd, ints_rep, ints_splice, ints_seg, len_ints]
      omega
    · simp only [rreadNO_d1, F16, allTold', dutiesTold, factsA, factsC, factsP, factsR, AV.facts, RW.facts, inK, and_true, Q.holds', E.i, E.s, E.n, D.nat, E.den, BO.den, UO.den, TO.den, D.toInt_int, D.toList_list, D.ints_ofInts, i64min, i64max, u8min, u8max, u16min, u16max, u32min, u32max, u64min, u64max, i32min, i32max, Om.sub, selI, ints_app, ints_cut, ints_upd, ints_rep, ints_splice, ints_seg, len_ints]
      rw [hr]
      all_goals (and_intros <;> first | omega | rfl | trivial)
  rw [if_neg h2] at hr
  by_cases hg : goodI (prt (d 5).ints (d 1).toInt ((d 1).toInt + (d 2).toInt)) = 1
  · rw [if_neg (by omega)] at hr
    have hY : (((prt (d 5).ints (d 1).toInt ((d 1).toInt + ((d 2).toInt + -4)))).length : Int) = (d 2).toInt + -4 := by rw [prt_length (by omega) (by omega) (by omega)]; omega
    have yb : ∀ c ∈ (prt (d 5).ints (d 1).toInt ((d 1).toInt + ((d 2).toInt + -4))), 0 ≤ c ∧ c ≤ 255 := fun c hc => hx c (List.mem_of_mem_take (List.mem_of_mem_drop hc))
    have a1 := be4_in yb (o := 4) (t := 8) (by omega) (by omega) (by omega)
    have a2 := be4_in yb (o := 8) (t := 12) (by omega) (by omega) (by omega)
    have a3 := be4_in yb (o := 12) (t := 16) (by omega) (by omega) (by omega)
    have a4 := be4_in yb (o := 16) (t := 20) (by omega) (by omega) (by omega)
    have y0 := sel_in yb 0
    have y1 := sel_in yb 1
    have y2 := sel_in yb 2
    have y3 := sel_in yb 3
    have y20 := sel_in yb 20
    have y21 := sel_in yb 21
    have o8 := or8 (n := (((prt (d 5).ints (d 1).toInt ((d 1).toInt + ((d 2).toInt + -4))))[20]?).getD 0) (c := (((prt (d 5).ints (d 1).toInt ((d 1).toInt + ((d 2).toInt + -4))))[21]?).getD 0) y20.1 (by omega) y21.1 y21.2
    have cc : List.drop (d 1).toInt.toNat (List.take ((d 1).toInt + ((d 2).toInt + -4)).toNat (d 5).ints) = (prt (d 5).ints (d 1).toInt ((d 1).toInt + ((d 2).toInt + -4))) := rfl
    have e15 : ∀ a b : Int, 0 ≤ a → a ≤ b → b ≤ 22 → prt (d 5).ints ((d 1).toInt + a) ((d 1).toInt + b) = prt ((prt (d 5).ints (d 1).toInt ((d 1).toInt + ((d 2).toInt + -4)))) a b := fun a b ha hb hc => (prt_prt (by omega) ha hb (by omega)).symm
    have e3 := e15 3 4 (by omega) (by omega) (by omega)
    have e4 := e15 4 8 (by omega) (by omega) (by omega)
    have e8 := e15 8 12 (by omega) (by omega) (by omega)
    have e12 := e15 12 16 (by omega) (by omega) (by omega)
    have e16 := e15 16 20 (by omega) (by omega) (by omega)
    have b3 : be (prt ((prt (d 5).ints (d 1).toInt ((d 1).toInt + ((d 2).toInt + -4)))) 3 4) = (((prt (d 5).ints (d 1).toInt ((d 1).toInt + ((d 2).toInt + -4))))[3]?).getD 0 := be_1 (x := (prt (d 5).ints (d 1).toInt ((d 1).toInt + ((d 2).toInt + -4)))) (o := 3) (t := 4) (by omega) (by omega) (by omega)
    have ebd : prt ((prt (d 5).ints (d 1).toInt ((d 1).toInt + ((d 2).toInt + -4)))) 22 ((d 2).toInt + -4) = prt (d 5).ints ((d 1).toInt + 22) ((d 1).toInt + ((d 2).toInt + -4)) := prt_prt (by omega) (by omega) (by omega) (by omega)
    clear hl hx e15
    generalize hv0_ : (((prt (d 5).ints (d 1).toInt ((d 1).toInt + ((d 2).toInt + -4))))[0]?).getD 0 = v0 at *
    generalize hv1_ : (((prt (d 5).ints (d 1).toInt ((d 1).toInt + ((d 2).toInt + -4))))[1]?).getD 0 = v1 at *
    generalize hv2_ : (((prt (d 5).ints (d 1).toInt ((d 1).toInt + ((d 2).toInt + -4))))[2]?).getD 0 = v2 at *
    generalize hv3_ : (((prt (d 5).ints (d 1).toInt ((d 1).toInt + ((d 2).toInt + -4))))[3]?).getD 0 = v3 at *
    generalize hv20_ : (((prt (d 5).ints (d 1).toInt ((d 1).toInt + ((d 2).toInt + -4))))[20]?).getD 0 = v20 at *
    generalize hv21_ : (((prt (d 5).ints (d 1).toInt ((d 1).toInt + ((d 2).toInt + -4))))[21]?).getD 0 = v21 at *
    generalize hw1_ : be (prt (prt (d 5).ints (d 1).toInt ((d 1).toInt + ((d 2).toInt + -4))) 4 8) = w1 at *
    generalize hw2_ : be (prt (prt (d 5).ints (d 1).toInt ((d 1).toInt + ((d 2).toInt + -4))) 8 12) = w2 at *
    generalize hw3_ : be (prt (prt (d 5).ints (d 1).toInt ((d 1).toInt + ((d 2).toInt + -4))) 12 16) = w3 at *
    generalize hw4_ : be (prt (prt (d 5).ints (d 1).toInt ((d 1).toInt + ((d 2).toInt + -4))) 16 20) = w4 at *
    by_cases c3 : v0 ≠ 83
    · have hv : sayI (v0 * 256 + v1) v2 v3 w1 w2 w3 w4 (v20 * 256 + v21) ((d 2).toInt + -26) = 211 := by
        unfold sayI rangeP
        repeat' split
        all_goals first | omega | contradiction
      rw [hv] at hr
      refine ⟨tellA rreadNO_t3, _, _, _, tellA_ok (allTold'_iff.1 ?_), rreadNO_y3, dutiesTold_ok ?_⟩
      · simp only [rreadNO_t3, F14, F15, F17, ints_list, List.map_drop, List.map_take, map_ints, allTold', dutiesTold, factsA, factsC, factsP, factsR, AV.facts, RW.facts, inK, and_true, Q.holds', E.i, E.s, E.n, D.nat, E.den, BO.den, UO.den, TO.den, D.toInt_int, D.toList_list, D.ints_ofInts, i64min, i64max, u8min, u8max, u16min, u16max, u32min, u32max, u64min, u64max, i32min, i32max, Om.sub, selI, ints_app, ints_cut, ints_upd, ints_rep, ints_splice, ints_seg, len_ints]
        simp only [selC, cc, Int.reduceToNat, Int.reduceAdd, o8, cut_prt, hv0_, hv1_, hv2_, hv3_, hv20_, hv21_, hw1_, hw2_, hw3_, hw4_]
        all_goals (and_intros <;> first | omega | exact hg | exact hs | trivial)
      · simp only [rreadNO_d3, F15, F16, ints_list, List.map_drop, List.map_take, map_ints, allTold', dutiesTold, factsA, factsC, factsP, factsR, AV.facts, RW.facts, inK, and_true, Q.holds', E.i, E.s, E.n, D.nat, E.den, BO.den, UO.den, TO.den, D.toInt_int, D.toList_list, D.ints_ofInts, i64min, i64max, u8min, u8max, u16min, u16max, u32min, u32max, u64min, u64max, i32min, i32max, Om.sub, selI, ints_app, ints_cut, ints_upd, ints_rep, ints_splice, ints_seg, len_ints]
        simp only [selC, hr, cc, e3, e4, e8, e12, e16, b3, ebd, cut_prt, Int.reduceToNat, Int.reduceAdd, hv0_, hv1_, hv2_, hv3_, hv20_, hv21_, hw1_, hw2_, hw3_, hw4_]
        all_goals (and_intros <;> first | omega | rfl | (exact hv.symm) | exact hv | trivial)
    by_cases c4 : v1 ≠ 75
    · have hv : sayI (v0 * 256 + v1) v2 v3 w1 w2 w3 w4 (v20 * 256 + v21) ((d 2).toInt + -26) = 211 := by
        unfold sayI rangeP
        repeat' split
        all_goals first | omega | contradiction
      rw [hv] at hr
      refine ⟨tellA rreadNO_t4, _, _, _, tellA_ok (allTold'_iff.1 ?_), rreadNO_y4, dutiesTold_ok ?_⟩
      · simp only [rreadNO_t4, F14, F15, F17, ints_list, List.map_drop, List.map_take, map_ints, allTold', dutiesTold, factsA, factsC, factsP, factsR, AV.facts, RW.facts, inK, and_true, Q.holds', E.i, E.s, E.n, D.nat, E.den, BO.den, UO.den, TO.den, D.toInt_int, D.toList_list, D.ints_ofInts, i64min, i64max, u8min, u8max, u16min, u16max, u32min, u32max, u64min, u64max, i32min, i32max, Om.sub, selI, ints_app, ints_cut, ints_upd, ints_rep, ints_splice, ints_seg, len_ints]
        simp only [selC, cc, Int.reduceToNat, Int.reduceAdd, o8, cut_prt, hv0_, hv1_, hv2_, hv3_, hv20_, hv21_, hw1_, hw2_, hw3_, hw4_]
        all_goals (and_intros <;> first | omega | exact hg | exact hs | trivial)
      · simp only [rreadNO_d4, F15, F16, ints_list, List.map_drop, List.map_take, map_ints, allTold', dutiesTold, factsA, factsC, factsP, factsR, AV.facts, RW.facts, inK, and_true, Q.holds', E.i, E.s, E.n, D.nat, E.den, BO.den, UO.den, TO.den, D.toInt_int, D.toList_list, D.ints_ofInts, i64min, i64max, u8min, u8max, u16min, u16max, u32min, u32max, u64min, u64max, i32min, i32max, Om.sub, selI, ints_app, ints_cut, ints_upd, ints_rep, ints_splice, ints_seg, len_ints]
        simp only [selC, hr, cc, e3, e4, e8, e12, e16, b3, ebd, cut_prt, Int.reduceToNat, Int.reduceAdd, hv0_, hv1_, hv2_, hv3_, hv20_, hv21_, hw1_, hw2_, hw3_, hw4_]
        all_goals (and_intros <;> first | omega | rfl | (exact hv.symm) | exact hv | trivial)
    by_cases c5 : v2 ≠ 1
    · have hv : sayI (v0 * 256 + v1) v2 v3 w1 w2 w3 w4 (v20 * 256 + v21) ((d 2).toInt + -26) = 212 := by
        unfold sayI rangeP
        repeat' split
        all_goals first | omega | contradiction
      rw [hv] at hr
      refine ⟨tellA rreadNO_t5, _, _, _, tellA_ok (allTold'_iff.1 ?_), rreadNO_y5, dutiesTold_ok ?_⟩
      · simp only [rreadNO_t5, F14, F15, F17, ints_list, List.map_drop, List.map_take, map_ints, allTold', dutiesTold, factsA, factsC, factsP, factsR, AV.facts, RW.facts, inK, and_true, Q.holds', E.i, E.s, E.n, D.nat, E.den, BO.den, UO.den, TO.den, D.toInt_int, D.toList_list, D.ints_ofInts, i64min, i64max, u8min, u8max, u16min, u16max, u32min, u32max, u64min, u64max, i32min, i32max, Om.sub, selI, ints_app, ints_cut, ints_upd, ints_rep, ints_splice, ints_seg, len_ints]
        simp only [selC, cc, Int.reduceToNat, Int.reduceAdd, o8, cut_prt, hv0_, hv1_, hv2_, hv3_, hv20_, hv21_, hw1_, hw2_, hw3_, hw4_]
        all_goals (and_intros <;> first | omega | exact hg | exact hs | trivial)
      · simp only [rreadNO_d5, F15, F16, ints_list, List.map_drop, List.map_take, map_ints, allTold', dutiesTold, factsA, factsC, factsP, factsR, AV.facts, RW.facts, inK, and_true, Q.holds', E.i, E.s, E.n, D.nat, E.den, BO.den, UO.den, TO.den, D.toInt_int, D.toList_list, D.ints_ofInts, i64min, i64max, u8min, u8max, u16min, u16max, u32min, u32max, u64min, u64max, i32min, i32max, Om.sub, selI, ints_app, ints_cut, ints_upd, ints_rep, ints_splice, ints_seg, len_ints]
        simp only [selC, hr, cc, e3, e4, e8, e12, e16, b3, ebd, cut_prt, Int.reduceToNat, Int.reduceAdd, hv0_, hv1_, hv2_, hv3_, hv20_, hv21_, hw1_, hw2_, hw3_, hw4_]
        all_goals (and_intros <;> first | omega | rfl | (exact hv.symm) | exact hv | trivial)
    by_cases c6 : v3 < 1
    · have hv : sayI (v0 * 256 + v1) v2 v3 w1 w2 w3 w4 (v20 * 256 + v21) ((d 2).toInt + -26) = 213 := by
        unfold sayI rangeP
        repeat' split
        all_goals first | omega | contradiction
      rw [hv] at hr
      refine ⟨tellA rreadNO_t6, _, _, _, tellA_ok (allTold'_iff.1 ?_), rreadNO_y6, dutiesTold_ok ?_⟩
      · simp only [rreadNO_t6, F14, F15, F17, ints_list, List.map_drop, List.map_take, map_ints, allTold', dutiesTold, factsA, factsC, factsP, factsR, AV.facts, RW.facts, inK, and_true, Q.holds', E.i, E.s, E.n, D.nat, E.den, BO.den, UO.den, TO.den, D.toInt_int, D.toList_list, D.ints_ofInts, i64min, i64max, u8min, u8max, u16min, u16max, u32min, u32max, u64min, u64max, i32min, i32max, Om.sub, selI, ints_app, ints_cut, ints_upd, ints_rep, ints_splice, ints_seg, len_ints]
        simp only [selC, cc, Int.reduceToNat, Int.reduceAdd, o8, cut_prt, hv0_, hv1_, hv2_, hv3_, hv20_, hv21_, hw1_, hw2_, hw3_, hw4_]
        all_goals (and_intros <;> first | omega | exact hg | exact hs | trivial)
      · simp only [rreadNO_d6, F15, F16, ints_list, List.map_drop, List.map_take, map_ints, allTold', dutiesTold, factsA, factsC, factsP, factsR, AV.facts, RW.facts, inK, and_true, Q.holds', E.i, E.s, E.n, D.nat, E.den, BO.den, UO.den, TO.den, D.toInt_int, D.toList_list, D.ints_ofInts, i64min, i64max, u8min, u8max, u16min, u16max, u32min, u32max, u64min, u64max, i32min, i32max, Om.sub, selI, ints_app, ints_cut, ints_upd, ints_rep, ints_splice, ints_seg, len_ints]
        simp only [selC, hr, cc, e3, e4, e8, e12, e16, b3, ebd, cut_prt, Int.reduceToNat, Int.reduceAdd, hv0_, hv1_, hv2_, hv3_, hv20_, hv21_, hw1_, hw2_, hw3_, hw4_]
        all_goals (and_intros <;> first | omega | rfl | (exact hv.symm) | exact hv | trivial)
    by_cases c7 : 5 < v3
    · have hv : sayI (v0 * 256 + v1) v2 v3 w1 w2 w3 w4 (v20 * 256 + v21) ((d 2).toInt + -26) = 213 := by
        unfold sayI rangeP
        repeat' split
        all_goals first | omega | contradiction
      rw [hv] at hr
      refine ⟨tellA rreadNO_t7, _, _, _, tellA_ok (allTold'_iff.1 ?_), rreadNO_y7, dutiesTold_ok ?_⟩
      · simp only [rreadNO_t7, F14, F15, F17, ints_list, List.map_drop, List.map_take, map_ints, allTold', dutiesTold, factsA, factsC, factsP, factsR, AV.facts, RW.facts, inK, and_true, Q.holds', E.i, E.s, E.n, D.nat, E.den, BO.den, UO.den, TO.den, D.toInt_int, D.toList_list, D.ints_ofInts, i64min, i64max, u8min, u8max, u16min, u16max, u32min, u32max, u64min, u64max, i32min, i32max, Om.sub, selI, ints_app, ints_cut, ints_upd, ints_rep, ints_splice, ints_seg, len_ints]
        simp only [selC, cc, Int.reduceToNat, Int.reduceAdd, o8, cut_prt, hv0_, hv1_, hv2_, hv3_, hv20_, hv21_, hw1_, hw2_, hw3_, hw4_]
        all_goals (and_intros <;> first | omega | exact hg | exact hs | trivial)
      · simp only [rreadNO_d7, F15, F16, ints_list, List.map_drop, List.map_take, map_ints, allTold', dutiesTold, factsA, factsC, factsP, factsR, AV.facts, RW.facts, inK, and_true, Q.holds', E.i, E.s, E.n, D.nat, E.den, BO.den, UO.den, TO.den, D.toInt_int, D.toList_list, D.ints_ofInts, i64min, i64max, u8min, u8max, u16min, u16max, u32min, u32max, u64min, u64max, i32min, i32max, Om.sub, selI, ints_app, ints_cut, ints_upd, ints_rep, ints_splice, ints_seg, len_ints]
        simp only [selC, hr, cc, e3, e4, e8, e12, e16, b3, ebd, cut_prt, Int.reduceToNat, Int.reduceAdd, hv0_, hv1_, hv2_, hv3_, hv20_, hv21_, hw1_, hw2_, hw3_, hw4_]
        all_goals (and_intros <;> first | omega | rfl | (exact hv.symm) | exact hv | trivial)
    by_cases c8 : 2147483647 < w1
    · have hv : sayI (v0 * 256 + v1) v2 v3 w1 w2 w3 w4 (v20 * 256 + v21) ((d 2).toInt + -26) = 5 := by
        unfold sayI rangeP
        repeat' split
        all_goals first | omega | contradiction
      rw [hv] at hr
      refine ⟨tellA rreadNO_t8, _, _, _, tellA_ok (allTold'_iff.1 ?_), rreadNO_y8, dutiesTold_ok ?_⟩
      · simp only [rreadNO_t8, F14, F15, F17, ints_list, List.map_drop, List.map_take, map_ints, allTold', dutiesTold, factsA, factsC, factsP, factsR, AV.facts, RW.facts, inK, and_true, Q.holds', E.i, E.s, E.n, D.nat, E.den, BO.den, UO.den, TO.den, D.toInt_int, D.toList_list, D.ints_ofInts, i64min, i64max, u8min, u8max, u16min, u16max, u32min, u32max, u64min, u64max, i32min, i32max, Om.sub, selI, ints_app, ints_cut, ints_upd, ints_rep, ints_splice, ints_seg, len_ints]
        simp only [selC, cc, Int.reduceToNat, Int.reduceAdd, o8, cut_prt, hv0_, hv1_, hv2_, hv3_, hv20_, hv21_, hw1_, hw2_, hw3_, hw4_]
        all_goals (and_intros <;> first | omega | exact hg | exact hs | trivial)
      · simp only [rreadNO_d8, F15, F16, ints_list, List.map_drop, List.map_take, map_ints, allTold', dutiesTold, factsA, factsC, factsP, factsR, AV.facts, RW.facts, inK, and_true, Q.holds', E.i, E.s, E.n, D.nat, E.den, BO.den, UO.den, TO.den, D.toInt_int, D.toList_list, D.ints_ofInts, i64min, i64max, u8min, u8max, u16min, u16max, u32min, u32max, u64min, u64max, i32min, i32max, Om.sub, selI, ints_app, ints_cut, ints_upd, ints_rep, ints_splice, ints_seg, len_ints]
        simp only [selC, hr, cc, e3, e4, e8, e12, e16, b3, ebd, cut_prt, Int.reduceToNat, Int.reduceAdd, hv0_, hv1_, hv2_, hv3_, hv20_, hv21_, hw1_, hw2_, hw3_, hw4_]
        all_goals (and_intros <;> first | omega | rfl | (exact hv.symm) | exact hv | trivial)
    by_cases c9 : 2147483647 < w2
    · have hv : sayI (v0 * 256 + v1) v2 v3 w1 w2 w3 w4 (v20 * 256 + v21) ((d 2).toInt + -26) = 5 := by
        unfold sayI rangeP
        repeat' split
        all_goals first | omega | contradiction
      rw [hv] at hr
      refine ⟨tellA rreadNO_t9, _, _, _, tellA_ok (allTold'_iff.1 ?_), rreadNO_y9, dutiesTold_ok ?_⟩
      · simp only [rreadNO_t9, F14, F15, F17, ints_list, List.map_drop, List.map_take, map_ints, allTold', dutiesTold, factsA, factsC, factsP, factsR, AV.facts, RW.facts, inK, and_true, Q.holds', E.i, E.s, E.n, D.nat, E.den, BO.den, UO.den, TO.den, D.toInt_int, D.toList_list, D.ints_ofInts, i64min, i64max, u8min, u8max, u16min, u16max, u32min, u32max, u64min, u64max, i32min, i32max, Om.sub, selI, ints_app, ints_cut, ints_upd, ints_rep, ints_splice, ints_seg, len_ints]
        simp only [selC, cc, Int.reduceToNat, Int.reduceAdd, o8, cut_prt, hv0_, hv1_, hv2_, hv3_, hv20_, hv21_, hw1_, hw2_, hw3_, hw4_]
        all_goals (and_intros <;> first | omega | exact hg | exact hs | trivial)
      · simp only [rreadNO_d9, F15, F16, ints_list, List.map_drop, List.map_take, map_ints, allTold', dutiesTold, factsA, factsC, factsP, factsR, AV.facts, RW.facts, inK, and_true, Q.holds', E.i, E.s, E.n, D.nat, E.den, BO.den, UO.den, TO.den, D.toInt_int, D.toList_list, D.ints_ofInts, i64min, i64max, u8min, u8max, u16min, u16max, u32min, u32max, u64min, u64max, i32min, i32max, Om.sub, selI, ints_app, ints_cut, ints_upd, ints_rep, ints_splice, ints_seg, len_ints]
        simp only [selC, hr, cc, e3, e4, e8, e12, e16, b3, ebd, cut_prt, Int.reduceToNat, Int.reduceAdd, hv0_, hv1_, hv2_, hv3_, hv20_, hv21_, hw1_, hw2_, hw3_, hw4_]
        all_goals (and_intros <;> first | omega | rfl | (exact hv.symm) | exact hv | trivial)
    by_cases c10 : 2147483647 < w3
    · have hv : sayI (v0 * 256 + v1) v2 v3 w1 w2 w3 w4 (v20 * 256 + v21) ((d 2).toInt + -26) = 5 := by
        unfold sayI rangeP
        repeat' split
        all_goals first | omega | contradiction
      rw [hv] at hr
      refine ⟨tellA rreadNO_t10, _, _, _, tellA_ok (allTold'_iff.1 ?_), rreadNO_y10, dutiesTold_ok ?_⟩
      · simp only [rreadNO_t10, F14, F15, F17, ints_list, List.map_drop, List.map_take, map_ints, allTold', dutiesTold, factsA, factsC, factsP, factsR, AV.facts, RW.facts, inK, and_true, Q.holds', E.i, E.s, E.n, D.nat, E.den, BO.den, UO.den, TO.den, D.toInt_int, D.toList_list, D.ints_ofInts, i64min, i64max, u8min, u8max, u16min, u16max, u32min, u32max, u64min, u64max, i32min, i32max, Om.sub, selI, ints_app, ints_cut, ints_upd, ints_rep, ints_splice, ints_seg, len_ints]
        simp only [selC, cc, Int.reduceToNat, Int.reduceAdd, o8, cut_prt, hv0_, hv1_, hv2_, hv3_, hv20_, hv21_, hw1_, hw2_, hw3_, hw4_]
        all_goals (and_intros <;> first | omega | exact hg | exact hs | trivial)
      · simp only [rreadNO_d10, F15, F16, ints_list, List.map_drop, List.map_take, map_ints, allTold', dutiesTold, factsA, factsC, factsP, factsR, AV.facts, RW.facts, inK, and_true, Q.holds', E.i, E.s, E.n, D.nat, E.den, BO.den, UO.den, TO.den, D.toInt_int, D.toList_list, D.ints_ofInts, i64min, i64max, u8min, u8max, u16min, u16max, u32min, u32max, u64min, u64max, i32min, i32max, Om.sub, selI, ints_app, ints_cut, ints_upd, ints_rep, ints_splice, ints_seg, len_ints]
        simp only [selC, hr, cc, e3, e4, e8, e12, e16, b3, ebd, cut_prt, Int.reduceToNat, Int.reduceAdd, hv0_, hv1_, hv2_, hv3_, hv20_, hv21_, hw1_, hw2_, hw3_, hw4_]
        all_goals (and_intros <;> first | omega | rfl | (exact hv.symm) | exact hv | trivial)
    by_cases c11 : 2147483647 < w4
    · have hv : sayI (v0 * 256 + v1) v2 v3 w1 w2 w3 w4 (v20 * 256 + v21) ((d 2).toInt + -26) = 5 := by
        unfold sayI rangeP
        repeat' split
        all_goals first | omega | contradiction
      rw [hv] at hr
      refine ⟨tellA rreadNO_t11, _, _, _, tellA_ok (allTold'_iff.1 ?_), rreadNO_y11, dutiesTold_ok ?_⟩
      · simp only [rreadNO_t11, F14, F15, F17, ints_list, List.map_drop, List.map_take, map_ints, allTold', dutiesTold, factsA, factsC, factsP, factsR, AV.facts, RW.facts, inK, and_true, Q.holds', E.i, E.s, E.n, D.nat, E.den, BO.den, UO.den, TO.den, D.toInt_int, D.toList_list, D.ints_ofInts, i64min, i64max, u8min, u8max, u16min, u16max, u32min, u32max, u64min, u64max, i32min, i32max, Om.sub, selI, ints_app, ints_cut, ints_upd, ints_rep, ints_splice, ints_seg, len_ints]
        simp only [selC, cc, Int.reduceToNat, Int.reduceAdd, o8, cut_prt, hv0_, hv1_, hv2_, hv3_, hv20_, hv21_, hw1_, hw2_, hw3_, hw4_]
        all_goals (and_intros <;> first | omega | exact hg | exact hs | trivial)
      · simp only [rreadNO_d11, F15, F16, ints_list, List.map_drop, List.map_take, map_ints, allTold', dutiesTold, factsA, factsC, factsP, factsR, AV.facts, RW.facts, inK, and_true, Q.holds', E.i, E.s, E.n, D.nat, E.den, BO.den, UO.den, TO.den, D.toInt_int, D.toList_list, D.ints_ofInts, i64min, i64max, u8min, u8max, u16min, u16max, u32min, u32max, u64min, u64max, i32min, i32max, Om.sub, selI, ints_app, ints_cut, ints_upd, ints_rep, ints_splice, ints_seg, len_ints]
        simp only [selC, hr, cc, e3, e4, e8, e12, e16, b3, ebd, cut_prt, Int.reduceToNat, Int.reduceAdd, hv0_, hv1_, hv2_, hv3_, hv20_, hv21_, hw1_, hw2_, hw3_, hw4_]
        all_goals (and_intros <;> first | omega | rfl | (exact hv.symm) | exact hv | trivial)
    by_cases c12 : v20 * 256 + v21 ≠ (d 2).toInt + -26
    · have hv : sayI (v0 * 256 + v1) v2 v3 w1 w2 w3 w4 (v20 * 256 + v21) ((d 2).toInt + -26) = 214 := by
        unfold sayI rangeP
        repeat' split
        all_goals first | omega | contradiction
      rw [hv] at hr
      refine ⟨tellA rreadNO_t12, _, _, _, tellA_ok (allTold'_iff.1 ?_), rreadNO_y12, dutiesTold_ok ?_⟩
      · simp only [rreadNO_t12, F14, F15, F17, ints_list, List.map_drop, List.map_take, map_ints, allTold', dutiesTold, factsA, factsC, factsP, factsR, AV.facts, RW.facts, inK, and_true, Q.holds', E.i, E.s, E.n, D.nat, E.den, BO.den, UO.den, TO.den, D.toInt_int, D.toList_list, D.ints_ofInts, i64min, i64max, u8min, u8max, u16min, u16max, u32min, u32max, u64min, u64max, i32min, i32max, Om.sub, selI, ints_app, ints_cut, ints_upd, ints_rep, ints_splice, ints_seg, len_ints]
        simp only [selC, cc, Int.reduceToNat, Int.reduceAdd, o8, cut_prt, hv0_, hv1_, hv2_, hv3_, hv20_, hv21_, hw1_, hw2_, hw3_, hw4_]
        all_goals (and_intros <;> first | omega | exact hg | exact hs | trivial)
      · simp only [rreadNO_d12, F15, F16, ints_list, List.map_drop, List.map_take, map_ints, allTold', dutiesTold, factsA, factsC, factsP, factsR, AV.facts, RW.facts, inK, and_true, Q.holds', E.i, E.s, E.n, D.nat, E.den, BO.den, UO.den, TO.den, D.toInt_int, D.toList_list, D.ints_ofInts, i64min, i64max, u8min, u8max, u16min, u16max, u32min, u32max, u64min, u64max, i32min, i32max, Om.sub, selI, ints_app, ints_cut, ints_upd, ints_rep, ints_splice, ints_seg, len_ints]
        simp only [selC, hr, cc, e3, e4, e8, e12, e16, b3, ebd, cut_prt, Int.reduceToNat, Int.reduceAdd, hv0_, hv1_, hv2_, hv3_, hv20_, hv21_, hw1_, hw2_, hw3_, hw4_]
        all_goals (and_intros <;> first | omega | rfl | (exact hv.symm) | exact hv | trivial)
    by_cases hs2 : saysP v3 w1 w2 w3 w4 ((d 2).toInt + -26)
    · have hv : sayI (v0 * 256 + v1) v2 v3 w1 w2 w3 w4 (v20 * 256 + v21) ((d 2).toInt + -26) = 0 := by
        unfold sayI rangeP
        repeat' split
        all_goals first | omega | contradiction
      rw [hv] at hr
      exact (hp.2.2 hr).elim
    · have hs : ¬ ((if saysP v3 w1 w2 w3 w4 ((d 2).toInt + -26) then (1 : Int) else 0) = 1) := by rw [if_neg hs2]; omega
      have hv : sayI (v0 * 256 + v1) v2 v3 w1 w2 w3 w4 (v20 * 256 + v21) ((d 2).toInt + -26) = 2 := by
        unfold sayI rangeP
        repeat' split
        all_goals first | omega | contradiction
      rw [hv] at hr
      refine ⟨tellA rreadNO_t13, _, _, _, tellA_ok (allTold'_iff.1 ?_), rreadNO_y13, dutiesTold_ok ?_⟩
      · simp only [rreadNO_t13, F14, F15, F17, ints_list, List.map_drop, List.map_take, map_ints, allTold', dutiesTold, factsA, factsC, factsP, factsR, AV.facts, RW.facts, inK, and_true, Q.holds', E.i, E.s, E.n, D.nat, E.den, BO.den, UO.den, TO.den, D.toInt_int, D.toList_list, D.ints_ofInts, i64min, i64max, u8min, u8max, u16min, u16max, u32min, u32max, u64min, u64max, i32min, i32max, Om.sub, selI, ints_app, ints_cut, ints_upd, ints_rep, ints_splice, ints_seg, len_ints]
        simp only [selC, cc, Int.reduceToNat, Int.reduceAdd, o8, cut_prt, hv0_, hv1_, hv2_, hv3_, hv20_, hv21_, hw1_, hw2_, hw3_, hw4_]
        all_goals (and_intros <;> first | omega | exact hg | exact hs | trivial)
      · simp only [rreadNO_d13, F15, F16, ints_list, List.map_drop, List.map_take, map_ints, allTold', dutiesTold, factsA, factsC, factsP, factsR, AV.facts, RW.facts, inK, and_true, Q.holds', E.i, E.s, E.n, D.nat, E.den, BO.den, UO.den, TO.den, D.toInt_int, D.toList_list, D.ints_ofInts, i64min, i64max, u8min, u8max, u16min, u16max, u32min, u32max, u64min, u64max, i32min, i32max, Om.sub, selI, ints_app, ints_cut, ints_upd, ints_rep, ints_splice, ints_seg, len_ints]
        simp only [selC, hr, cc, e3, e4, e8, e12, e16, b3, ebd, cut_prt, Int.reduceToNat, Int.reduceAdd, hv0_, hv1_, hv2_, hv3_, hv20_, hv21_, hw1_, hw2_, hw3_, hw4_]
        all_goals (and_intros <;> first | omega | rfl | (exact hv.symm) | exact hv | trivial)
  · rw [if_pos (by omega)] at hr
    refine ⟨tellA rreadNO_t2, _, _, _, tellA_ok (allTold'_iff.1 ?_), rreadNO_y2, dutiesTold_ok ?_⟩
    · simp only [rreadNO_t2, F14, allTold', dutiesTold, factsA, factsC, factsP, factsR, AV.facts, RW.facts, inK, and_true, Q.holds', E.i, E.s, E.n, D.nat, E.den, BO.den, UO.den, TO.den, D.toInt_int, D.toList_list, D.ints_ofInts, i64min, i64max, u8min, u8max, u16min, u16max, u32min, u32max, u64min, u64max, i32min, i32max, Om.sub, selI, ints_app, ints_cut, ints_upd, ints_rep, ints_splice, ints_seg, len_ints]
      all_goals (and_intros <;> first | omega | exact hg | trivial)
    · simp only [rreadNO_d2, F16, allTold', dutiesTold, factsA, factsC, factsP, factsR, AV.facts, RW.facts, inK, and_true, Q.holds', E.i, E.s, E.n, D.nat, E.den, BO.den, UO.den, TO.den, D.toInt_int, D.toList_list, D.ints_ofInts, i64min, i64max, u8min, u8max, u16min, u16max, u32min, u32max, u64min, u64max, i32min, i32max, Om.sub, selI, ints_app, ints_cut, ints_upd, ints_rep, ints_splice, ints_seg, len_ints]
      rw [hr]
      all_goals (and_intros <;> first | omega | rfl | trivial)

end Go.Proofs.YtlmcjfcfmcdcpaaDoor.Fo
