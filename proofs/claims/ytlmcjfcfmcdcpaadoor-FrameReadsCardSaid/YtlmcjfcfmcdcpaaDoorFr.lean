/-
  Contracts of this seat: what loops and calls leave, for all inputs. No condition.
-/
import Derived.Test.YtlmcjfcfmcdcpaaDoorSycp
import Derived.Test.YtlmcjfcfmcdcpaaDoorCo
import Derived.Test.YtlmcjfcfmcdcpaaDoorGa
import Derived.Test.YtlmcjfcfmcdcpaaDoorG2
import Derived.Test.YtlmcjfcfmcdcpaaDoorGm
import Derived.Test.YtlmcjfcfmcdcpaaDoorFl
import Derived.Test.YtlmcjfcfmcdcpaaDoorF9
import Derived.Test.YtlmcjfcfmcdcpaaDoorF4
set_option linter.unusedSimpArgs false
set_option linter.unusedVariables false
namespace Go.Proofs.YtlmcjfcfmcdcpaaDoor.Fr
open Go.RowKit Go.Ev Go.Proofs.YtlmcjfcfmcdcpaaDoor.Co

open Go.Proofs.YtlmcjfcfmcdcpaaDoor.Ga
open Go.Proofs.YtlmcjfcfmcdcpaaDoor.G2
open Go.Proofs.YtlmcjfcfmcdcpaaDoor.Gm
open Go.Proofs.YtlmcjfcfmcdcpaaDoor.Fl
open Go.Proofs.YtlmcjfcfmcdcpaaDoor.F9
open Go.Proofs.YtlmcjfcfmcdcpaaDoor.F4

theorem selC (x : D) (a b j : Nat) : (((List.drop a (List.take b x.toList))[j]?).getD (D.int 0)).toInt = ((List.drop a (List.take b x.ints))[j]?).getD 0 := by
  have h := selI (.list (List.drop a (List.take b x.toList))) j
  rw [ints_list, List.map_drop, List.map_take, map_ints] at h
  exact h
theorem be4_in {x : List Int} (hx : ∀ c ∈ x, 0 ≤ c ∧ c ≤ 255) {o t : Int} (h0 : 0 ≤ o) (ht : t = o + 4) (hl : t ≤ x.length) : 0 ≤ be (prt x o t) ∧ be (prt x o t) ≤ 4294967295 := by
  rw [be_4 (o1 := o + 1) (o2 := o + 2) (o3 := o + 3) h0 rfl rfl rfl ht hl]
  have h1 := sel_in hx o.toNat
  have h2 := sel_in hx (o + 1).toNat
  have h3 := sel_in hx (o + 2).toNat
  have h4 := sel_in hx (o + 3).toNat
  omega
theorem read_y {x : List Int} {o l : Int} (h0 : 0 ≤ o) (h1 : 0 ≤ l) (hl : o + l ≤ x.length) : readI (prt x o (o + l)) = if 1426 < l then 3 else if l < 26 then 4 else if goodI (prt x o (o + l)) ≠ 1 then 210 else
    sayI (((prt x o (o + (l + -4)))[0]?).getD 0 * 256 + ((prt x o (o + (l + -4)))[1]?).getD 0) (((prt x o (o + (l + -4)))[2]?).getD 0) (((prt x o (o + (l + -4)))[3]?).getD 0) (be (prt (prt x o (o + (l + -4))) 4 8)) (be (prt (prt x o (o + (l + -4))) 8 12)) (be (prt (prt x o (o + (l + -4))) 12 16)) (be (prt (prt x o (o + (l + -4))) 16 20)) (((prt x o (o + (l + -4)))[20]?).getD 0 * 256 + ((prt x o (o + (l + -4)))[21]?).getD 0) (l + -26) := by
  rw [read_at h0 h1 hl]
  by_cases h : l < 26
  · rw [if_pos h, if_pos h]
  · have hY : ((prt x o (o + (l + -4))).length : Int) = l + -4 := by rw [prt_length (by omega) (by omega) (by omega)]; omega
    have e : ∀ a b : Int, 0 ≤ a → a ≤ b → b ≤ 22 → prt x (o + a) (o + b) = prt (prt x o (o + (l + -4))) a b := fun a b ha hb hc => (prt_prt h0 ha hb (by omega)).symm
    have e0 := e 0 2 (by omega) (by omega) (by omega)
    rw [Int.add_zero] at e0
    rw [e0, e 2 3 (by omega) (by omega) (by omega), e 3 4 (by omega) (by omega) (by omega), e 4 8 (by omega) (by omega) (by omega), e 8 12 (by omega) (by omega) (by omega), e 12 16 (by omega) (by omega) (by omega), e 16 20 (by omega) (by omega) (by omega), e 20 22 (by omega) (by omega) (by omega)]
    generalize prt x o (o + (l + -4)) = Y at *
    rw [be_2 (x := Y) (o := 0) (o1 := 1) (t := 2) (by omega) (by omega) (by omega) (by omega), be_1 (x := Y) (o := 2) (t := 3) (by omega) (by omega) (by omega), be_1 (x := Y) (o := 3) (t := 4) (by omega) (by omega) (by omega), be_2 (x := Y) (o := 20) (o1 := 21) (t := 22) (by omega) (by omega) (by omega) (by omega)]
    rfl

def rreadY : CSpec := { args := [.sslice 3 (.var 1) (.var 2) (.var 3) false], next := 2, rows := [(3, .eseq ⟨.u8, .var 4, .var 5⟩)], pre := [(.le (.bi .add (.var 1) (.var 2)) (.var 4), true), (.le (.var 2) (.int 1000000), true), (.eq (.fn 16 (argsE [.var 5, .var 1, .bi .add (.var 1) (.var 2)])) (.int 0), true)], res := .tuple [.agg [.sint .i64 (.fn 15 (argsE [.var 5, .bi .add (.var 1) (.int 3), .bi .add (.var 1) (.int 4)])), .sint .i64 (.fn 15 (argsE [.var 5, .bi .add (.var 1) (.int 4), .bi .add (.var 1) (.int 8)])), .sint .i64 (.fn 15 (argsE [.var 5, .bi .add (.var 1) (.int 8), .bi .add (.var 1) (.int 12)])), .sint .i64 (.fn 15 (argsE [.var 5, .bi .add (.var 1) (.int 12), .bi .add (.var 1) (.int 16)])), .sint .i64 (.fn 15 (argsE [.var 5, .bi .add (.var 1) (.int 16), .bi .add (.var 1) (.int 20)])), .sslice 5 (.int 0) (.bi .add (.var 2) (.int (-26))) (.bi .add (.var 2) (.int (-26))) true], .int .i64 0], frows := [(5, .seq ⟨5, .u8, .bi .add (.var 2) (.int (-26)), .tr .cut (.var 5) (.bi .add (.var 1) (.int 22)) (.bi .add (.var 1) (.bi .add (.var 2) (.int (-4)))), true, false⟩)], same := [] }
abbrev asFr0 : Q × Bool := ((.fit .i64 (.var 2)), true)
abbrev asFr1 : Q × Bool := ((.le (.var 2) (.int 1426)), true)
abbrev asFr2 : Q × Bool := ((.le (.int 26) (.var 2)), true)
abbrev asFr3 : Q × Bool := ((.le (.bi .add (.var 1) (.var 2)) (.var 4)), true)
abbrev asFr4 : Q × Bool := ((.le (.int 5) (.var 2)), true)
abbrev asFr5 : Q × Bool := ((.le (.var 2) (.int 1000000)), true)
abbrev asFr6 : Q × Bool := ((.eq (.fn 14 (.bi .pair (.var 5) (.bi .pair (.var 1) (.bi .pair (.bi .add (.var 1) (.var 2)) (.int 0))))) (.int 1)), true)
abbrev asFr7 : Q × Bool := ((.le (.bi .add (.var 2) (.int (-4))) (.int 3)), false)
abbrev asFr8 : Q × Bool := ((.le (.int 4) (.bi .add (.var 2) (.int (-4)))), true)
abbrev asFr9 : Q × Bool := ((.le (.int 8) (.bi .add (.var 2) (.int (-4)))), true)
abbrev asFr10 : Q × Bool := ((.le (.int 12) (.bi .add (.var 2) (.int (-4)))), true)
abbrev asFr11 : Q × Bool := ((.le (.int 16) (.bi .add (.var 2) (.int (-4)))), true)
abbrev asFr12 : Q × Bool := ((.le (.int 22) (.bi .add (.var 2) (.int (-4)))), true)
abbrev asFr13 : Q × Bool := ((.le (.bi .add (.int 4) (.bi .add (.var 2) (.int (-8)))) (.bi .add (.var 2) (.int (-4)))), true)
abbrev asFr14 : Q × Bool := ((.le (.int 4) (.bi .add (.var 2) (.int (-8)))), true)
abbrev asFr15 : Q × Bool := ((.le (.bi .add (.int 8) (.bi .add (.var 2) (.int (-12)))) (.bi .add (.var 2) (.int (-4)))), true)
abbrev asFr16 : Q × Bool := ((.le (.int 4) (.bi .add (.var 2) (.int (-12)))), true)
abbrev asFr17 : Q × Bool := ((.le (.bi .add (.int 12) (.bi .add (.var 2) (.int (-16)))) (.bi .add (.var 2) (.int (-4)))), true)
abbrev asFr18 : Q × Bool := ((.le (.int 4) (.bi .add (.var 2) (.int (-16)))), true)
abbrev asFr19 : Q × Bool := ((.le (.bi .add (.int 16) (.bi .add (.var 2) (.int (-20)))) (.bi .add (.var 2) (.int (-4)))), true)
abbrev asFr20 : Q × Bool := ((.le (.int 4) (.bi .add (.var 2) (.int (-20)))), true)
abbrev asFr21 : Q × Bool := ((.le (.bi .mul (.bi .add (.var 2) (.int (-26))) (.int 2)) (.int 281474976710656)), true)
abbrev asFr22 : Q × Bool := ((.le (.bi .add (.var 2) (.int (-4))) (.int 0)), false)
abbrev asFr23 : Q × Bool := ((.eq (.bi .sel (.tr .cut (.var 5) (.var 1) (.bi .add (.var 1) (.bi .add (.var 2) (.int (-4))))) (.int 0)) (.int 83)), true)
abbrev asFr24 : Q × Bool := ((.le (.bi .add (.var 2) (.int (-4))) (.int 1)), false)
abbrev asFr25 : Q × Bool := ((.eq (.bi .sel (.tr .cut (.var 5) (.var 1) (.bi .add (.var 1) (.bi .add (.var 2) (.int (-4))))) (.int 1)) (.int 75)), true)
abbrev asFr26 : Q × Bool := ((.le (.bi .add (.var 2) (.int (-4))) (.int 2)), false)
abbrev asFr27 : Q × Bool := ((.eq (.bi .sel (.tr .cut (.var 5) (.var 1) (.bi .add (.var 1) (.bi .add (.var 2) (.int (-4))))) (.int 2)) (.int 1)), true)
abbrev asFr28 : Q × Bool := ((.le (.int 1) (.bi .sel (.tr .cut (.var 5) (.var 1) (.bi .add (.var 1) (.bi .add (.var 2) (.int (-4))))) (.int 3))), true)
abbrev asFr29 : Q × Bool := ((.le (.bi .sel (.tr .cut (.var 5) (.var 1) (.bi .add (.var 1) (.bi .add (.var 2) (.int (-4))))) (.int 3)) (.int 5)), true)
abbrev asFr30 : Q × Bool := ((.le (.int 0) (.fn 15 (.bi .pair (.tr .cut (.var 5) (.var 1) (.bi .add (.var 1) (.bi .add (.var 2) (.int (-4))))) (.bi .pair (.int 4) (.bi .pair (.bi .add (.int 4) (.int 4)) (.int 0)))))), true)
abbrev asFr31 : Q × Bool := ((.le (.fn 15 (.bi .pair (.tr .cut (.var 5) (.var 1) (.bi .add (.var 1) (.bi .add (.var 2) (.int (-4))))) (.bi .pair (.int 4) (.bi .pair (.bi .add (.int 4) (.int 4)) (.int 0))))) (.int 2147483647)), true)
abbrev asFr32 : Q × Bool := ((.le (.int 0) (.fn 15 (.bi .pair (.tr .cut (.var 5) (.var 1) (.bi .add (.var 1) (.bi .add (.var 2) (.int (-4))))) (.bi .pair (.int 8) (.bi .pair (.bi .add (.int 8) (.int 4)) (.int 0)))))), true)
abbrev asFr33 : Q × Bool := ((.le (.fn 15 (.bi .pair (.tr .cut (.var 5) (.var 1) (.bi .add (.var 1) (.bi .add (.var 2) (.int (-4))))) (.bi .pair (.int 8) (.bi .pair (.bi .add (.int 8) (.int 4)) (.int 0))))) (.int 2147483647)), true)
abbrev asFr34 : Q × Bool := ((.le (.int 0) (.fn 15 (.bi .pair (.tr .cut (.var 5) (.var 1) (.bi .add (.var 1) (.bi .add (.var 2) (.int (-4))))) (.bi .pair (.int 12) (.bi .pair (.bi .add (.int 12) (.int 4)) (.int 0)))))), true)
abbrev asFr35 : Q × Bool := ((.le (.fn 15 (.bi .pair (.tr .cut (.var 5) (.var 1) (.bi .add (.var 1) (.bi .add (.var 2) (.int (-4))))) (.bi .pair (.int 12) (.bi .pair (.bi .add (.int 12) (.int 4)) (.int 0))))) (.int 2147483647)), true)
abbrev asFr36 : Q × Bool := ((.le (.int 0) (.fn 15 (.bi .pair (.tr .cut (.var 5) (.var 1) (.bi .add (.var 1) (.bi .add (.var 2) (.int (-4))))) (.bi .pair (.int 16) (.bi .pair (.bi .add (.int 16) (.int 4)) (.int 0)))))), true)
abbrev asFr37 : Q × Bool := ((.le (.fn 15 (.bi .pair (.tr .cut (.var 5) (.var 1) (.bi .add (.var 1) (.bi .add (.var 2) (.int (-4))))) (.bi .pair (.int 16) (.bi .pair (.bi .add (.int 16) (.int 4)) (.int 0))))) (.int 2147483647)), true)
abbrev asFr38 : Q × Bool := ((.fit .i64 (.bi .add (.var 2) (.int (-26)))), true)
abbrev asFr39 : Q × Bool := ((.le (.bi .add (.var 2) (.int (-4))) (.int 20)), false)
abbrev asFr40 : Q × Bool := ((.le (.bi .add (.var 2) (.int (-4))) (.int 21)), false)
abbrev asFr41 : Q × Bool := ((.eq (.bi .add (.var 2) (.int (-26))) (.bi (.iop .or .i64) (.bi (.iop .shl .i64) (.bi .sel (.tr .cut (.var 5) (.var 1) (.bi .add (.var 1) (.bi .add (.var 2) (.int (-4))))) (.int 20)) (.int 8)) (.bi .sel (.tr .cut (.var 5) (.var 1) (.bi .add (.var 1) (.bi .add (.var 2) (.int (-4))))) (.int 21)))), true)
abbrev asFr42 : Q × Bool := ((.le (.int 0) (.bi .add (.var 2) (.int (-26)))), true)
abbrev asFr43 : Q × Bool := ((.le (.bi .add (.var 2) (.int (-26))) (.int 1000000)), true)
abbrev asFr44 : Q × Bool := ((.eq (.fn 17 (.bi .pair (.bi .sel (.tr .cut (.var 5) (.var 1) (.bi .add (.var 1) (.bi .add (.var 2) (.int (-4))))) (.int 3)) (.bi .pair (.fn 15 (.bi .pair (.tr .cut (.var 5) (.var 1) (.bi .add (.var 1) (.bi .add (.var 2) (.int (-4))))) (.bi .pair (.int 4) (.bi .pair (.bi .add (.int 4) (.int 4)) (.int 0))))) (.bi .pair (.fn 15 (.bi .pair (.tr .cut (.var 5) (.var 1) (.bi .add (.var 1) (.bi .add (.var 2) (.int (-4))))) (.bi .pair (.int 8) (.bi .pair (.bi .add (.int 8) (.int 4)) (.int 0))))) (.bi .pair (.fn 15 (.bi .pair (.tr .cut (.var 5) (.var 1) (.bi .add (.var 1) (.bi .add (.var 2) (.int (-4))))) (.bi .pair (.int 12) (.bi .pair (.bi .add (.int 12) (.int 4)) (.int 0))))) (.bi .pair (.fn 15 (.bi .pair (.tr .cut (.var 5) (.var 1) (.bi .add (.var 1) (.bi .add (.var 2) (.int (-4))))) (.bi .pair (.int 16) (.bi .pair (.bi .add (.int 16) (.int 4)) (.int 0))))) (.bi .pair (.bi .add (.var 2) (.int (-26))) (.int 0)))))))) (.int 1)), true)
def rreadY_t0 : List (Q × Bool) := [asFr0, asFr1, asFr2, asFr3, asFr4, asFr5, asFr6, asFr7, asFr8, asFr9, asFr10, asFr11, asFr12, asFr13, asFr14, asFr15, asFr16, asFr17, asFr18, asFr19, asFr20, asFr21, asFr22, asFr23, asFr24, asFr25, asFr26, asFr27, asFr28, asFr29, asFr30, asFr31, asFr32, asFr33, asFr34, asFr35, asFr36, asFr37, asFr38, asFr39, asFr40, asFr41, asFr42, asFr43, asFr44]
abbrev teFr0 : E := (.tr .cut (.var 5) (.var 1) (.bi .add (.var 1) (.bi .add (.var 2) (.int (-4)))))
def rreadY_d0 : List Duty := [(true, (.bi .sel teFr0 (.int 3)), (.fn 15 (.bi .pair (.var 5) (.bi .pair (.bi .add (.var 1) (.int 3)) (.bi .pair (.bi .add (.var 1) (.int 4)) (.int 0)))))), (true, (.fn 15 (.bi .pair teFr0 (.bi .pair (.int 4) (.bi .pair (.bi .add (.int 4) (.int 4)) (.int 0))))), (.fn 15 (.bi .pair (.var 5) (.bi .pair (.bi .add (.var 1) (.int 4)) (.bi .pair (.bi .add (.var 1) (.int 8)) (.int 0)))))), (true, (.fn 15 (.bi .pair teFr0 (.bi .pair (.int 8) (.bi .pair (.bi .add (.int 8) (.int 4)) (.int 0))))), (.fn 15 (.bi .pair (.var 5) (.bi .pair (.bi .add (.var 1) (.int 8)) (.bi .pair (.bi .add (.var 1) (.int 12)) (.int 0)))))), (true, (.fn 15 (.bi .pair teFr0 (.bi .pair (.int 12) (.bi .pair (.bi .add (.int 12) (.int 4)) (.int 0))))), (.fn 15 (.bi .pair (.var 5) (.bi .pair (.bi .add (.var 1) (.int 12)) (.bi .pair (.bi .add (.var 1) (.int 16)) (.int 0)))))), (true, (.fn 15 (.bi .pair teFr0 (.bi .pair (.int 16) (.bi .pair (.bi .add (.int 16) (.int 4)) (.int 0))))), (.fn 15 (.bi .pair (.var 5) (.bi .pair (.bi .add (.var 1) (.int 16)) (.bi .pair (.bi .add (.var 1) (.int 20)) (.int 0)))))), (false, (.tr .cut teFr0 (.int 22) (.bi .add (.var 2) (.int (-4)))), (.tr .cut (.var 5) (.bi .add (.var 1) (.int 22)) (.bi .add (.var 1) (.bi .add (.var 2) (.int (-4))))))]
theorem rreadY_y0 : endC rreadY [(5, 11)] 1000 (callC Tryd.prog (tellA rreadY_t0) [] [(40, numCO), (39, rgchkY), (39, rgchkYO), (39, rgchkN), (39, rgchkNO), (35, saysYO), (35, saysNO)] [] 3000 40 20 rreadY) = some rreadY_d0 := by kernel_rfl
theorem rreadY_holds : CHolds Tryd.prog 20 rreadY F := by
  refine cholds_of sound (tableNil _ _) (specsCons numCO_holds (specsCons rgchkY_holds (specsCons rgchkYO_holds (specsCons rgchkN_holds (specsCons rgchkNO_holds (specsCons saysYO_holds (specsCons saysNO_holds (specsNil _ _)))))))) (oversNil _ _) (fuel := 3000) (depth := 40) (by kernel_rfl) fun d hp hR hA => ?_
  have hp := allTold'_iff.2 hp
  simp only [rreadY, allTold', dutiesTold, factsA, factsC, factsP, factsR, AV.facts, RW.facts, inK, and_true, Q.holds', E.i, E.s, E.n, D.nat, E.den, BO.den, UO.den, TO.den, D.toInt_int, D.toList_list, D.ints_ofInts, i64min, i64max, u8min, u8max, u16min, u16max, u32min, u32max, u64min, u64max, i32min, i32max, Om.sub, selI, ints_app, ints_cut, ints_upd, ints_rep, ints_splice, ints_seg, len_ints] at hp hR hA
  simp only [F16, argsE, allTold', dutiesTold, factsA, factsC, factsP, factsR, AV.facts, RW.facts, inK, and_true, Q.holds', E.i, E.s, E.n, D.nat, E.den, BO.den, UO.den, TO.den, D.toInt_int, D.toList_list, D.ints_ofInts, i64min, i64max, u8min, u8max, u16min, u16max, u32min, u32max, u64min, u64max, i32min, i32max, Om.sub, selI, ints_app, ints_cut, ints_upd, ints_rep, ints_splice, ints_seg, len_ints] at hp
  obtain ⟨hl, hx⟩ := hR
  have hr := read_y (x := (d 5).ints) (o := (d 1).toInt) (l := (d 2).toInt) (by omega) (by omega) (by omega)
  have hi := hp.2.2
  rw [hr] at hi
  split at hi
  · omega
  split at hi
  · omega
  split at hi
  · omega
  rename_i h1 h2 hg
  have hg := Decidable.not_not.1 hg
  have hY : (((prt (d 5).ints (d 1).toInt ((d 1).toInt + ((d 2).toInt + -4)))).length : Int) = (d 2).toInt + -4 := by rw [prt_length (by omega) (by omega) (by omega)]; omega
  have yb : ∀ c ∈ (prt (d 5).ints (d 1).toInt ((d 1).toInt + ((d 2).toInt + -4))), 0 ≤ c ∧ c ≤ 255 := fun c hc => hx c (List.mem_of_mem_take (List.mem_of_mem_drop hc))
  have a1 := be4_in yb (o := 4) (t := 8) (by omega) (by omega) (by omega)
  have a2 := be4_in yb (o := 8) (t := 12) (by omega) (by omega) (by omega)
  have a3 := be4_in yb (o := 12) (t := 16) (by omega) (by omega) (by omega)
  have a4 := be4_in yb (o := 16) (t := 20) (by omega) (by omega) (by omega)
  have y0 := sel_in yb 0
  have y1 := sel_in yb 1
  have y2 := sel_in yb 2
  have y3 := sel_in yb 3
  have y20 := sel_in yb 20
  have y21 := sel_in yb 21
  have o8 := or8 (n := (((prt (d 5).ints (d 1).toInt ((d 1).toInt + ((d 2).toInt + -4))))[20]?).getD 0) (c := (((prt (d 5).ints (d 1).toInt ((d 1).toInt + ((d 2).toInt + -4))))[21]?).getD 0) y20.1 (by omega) y21.1 y21.2
  have cc : List.drop (d 1).toInt.toNat (List.take ((d 1).toInt + ((d 2).toInt + -4)).toNat (d 5).ints) = (prt (d 5).ints (d 1).toInt ((d 1).toInt + ((d 2).toInt + -4))) := rfl
  have e15 : ∀ a b : Int, 0 ≤ a → a ≤ b → b ≤ 22 → prt (d 5).ints ((d 1).toInt + a) ((d 1).toInt + b) = prt ((prt (d 5).ints (d 1).toInt ((d 1).toInt + ((d 2).toInt + -4)))) a b := fun a b ha hb hc => (prt_prt (by omega) ha hb (by omega)).symm
  have e3 := e15 3 4 (by omega) (by omega) (by omega)
  have e4 := e15 4 8 (by omega) (by omega) (by omega)
  have e8 := e15 8 12 (by omega) (by omega) (by omega)
  have e12 := e15 12 16 (by omega) (by omega) (by omega)
  have e16 := e15 16 20 (by omega) (by omega) (by omega)
  have b3 : be (prt ((prt (d 5).ints (d 1).toInt ((d 1).toInt + ((d 2).toInt + -4)))) 3 4) = (((prt (d 5).ints (d 1).toInt ((d 1).toInt + ((d 2).toInt + -4))))[3]?).getD 0 := be_1 (x := (prt (d 5).ints (d 1).toInt ((d 1).toInt + ((d 2).toInt + -4)))) (o := 3) (t := 4) (by omega) (by omega) (by omega)
  have ebd : prt ((prt (d 5).ints (d 1).toInt ((d 1).toInt + ((d 2).toInt + -4)))) 22 ((d 2).toInt + -4) = prt (d 5).ints ((d 1).toInt + 22) ((d 1).toInt + ((d 2).toInt + -4)) := prt_prt (by omega) (by omega) (by omega) (by omega)
  clear hl hx e15
  generalize hv0_ : (((prt (d 5).ints (d 1).toInt ((d 1).toInt + ((d 2).toInt + -4))))[0]?).getD 0 = v0 at *
  generalize hv1_ : (((prt (d 5).ints (d 1).toInt ((d 1).toInt + ((d 2).toInt + -4))))[1]?).getD 0 = v1 at *
  generalize hv2_ : (((prt (d 5).ints (d 1).toInt ((d 1).toInt + ((d 2).toInt + -4))))[2]?).getD 0 = v2 at *
  generalize hv3_ : (((prt (d 5).ints (d 1).toInt ((d 1).toInt + ((d 2).toInt + -4))))[3]?).getD 0 = v3 at *
  generalize hv20_ : (((prt (d 5).ints (d 1).toInt ((d 1).toInt + ((d 2).toInt + -4))))[20]?).getD 0 = v20 at *
  generalize hv21_ : (((prt (d 5).ints (d 1).toInt ((d 1).toInt + ((d 2).toInt + -4))))[21]?).getD 0 = v21 at *
  generalize hw1_ : be (prt (prt (d 5).ints (d 1).toInt ((d 1).toInt + ((d 2).toInt + -4))) 4 8) = w1 at *
  generalize hw2_ : be (prt (prt (d 5).ints (d 1).toInt ((d 1).toInt + ((d 2).toInt + -4))) 8 12) = w2 at *
  generalize hw3_ : be (prt (prt (d 5).ints (d 1).toInt ((d 1).toInt + ((d 2).toInt + -4))) 12 16) = w3 at *
  generalize hw4_ : be (prt (prt (d 5).ints (d 1).toInt ((d 1).toInt + ((d 2).toInt + -4))) 16 20) = w4 at *
  unfold sayI rangeP at hi
  repeat' split at hi
  all_goals try omega
  rename_i s1 s2 s3 s4 s5 s6
  have hs : (if saysP v3 w1 w2 w3 w4 ((d 2).toInt + -26) then (1 : Int) else 0) = 1 := by rw [if_pos s6]
  refine ⟨tellA rreadY_t0, _, _, _, tellA_ok (allTold'_iff.1 ?_), rreadY_y0, dutiesTold_ok ?_⟩
  · simp only [rreadY_t0, F14, F15, F17, ints_list, List.map_drop, List.map_take, map_ints, allTold', dutiesTold, factsA, factsC, factsP, factsR, AV.facts, RW.facts, inK, and_true, Q.holds', E.i, E.s, E.n, D.nat, E.den, BO.den, UO.den, TO.den, D.toInt_int, D.toList_list, D.ints_ofInts, i64min, i64max, u8min, u8max, u16min, u16max, u32min, u32max, u64min, u64max, i32min, i32max, Om.sub, selI, ints_app, ints_cut, ints_upd, ints_rep, ints_splice, ints_seg, len_ints]
    simp only [selC, cc, Int.reduceToNat, Int.reduceAdd, o8, cut_prt, hv0_, hv1_, hv2_, hv3_, hv20_, hv21_, hw1_, hw2_, hw3_, hw4_]
    all_goals (and_intros <;> first | omega | exact hg | exact hs | trivial)
  · simp only [rreadY_d0, F15, F16, ints_list, List.map_drop, List.map_take, map_ints, allTold', dutiesTold, factsA, factsC, factsP, factsR, AV.facts, RW.facts, inK, and_true, Q.holds', E.i, E.s, E.n, D.nat, E.den, BO.den, UO.den, TO.den, D.toInt_int, D.toList_list, D.ints_ofInts, i64min, i64max, u8min, u8max, u16min, u16max, u32min, u32max, u64min, u64max, i32min, i32max, Om.sub, selI, ints_app, ints_cut, ints_upd, ints_rep, ints_splice, ints_seg, len_ints]
    simp only [selC, hr, cc, e3, e4, e8, e12, e16, b3, ebd, cut_prt, Int.reduceToNat, Int.reduceAdd, hv0_, hv1_, hv2_, hv3_, hv20_, hv21_, hw1_, hw2_, hw3_, hw4_]
    all_goals (and_intros <;> first | omega | rfl | (exact hv.symm) | exact hv | trivial)

def rreadN : CSpec := { args := [.sslice 3 (.var 1) (.var 2) (.var 3) false], next := 2, rows := [(3, .eseq ⟨.u8, .var 4, .var 5⟩)], pre := [(.le (.bi .add (.var 1) (.var 2)) (.var 4), true), (.le (.var 2) (.int 1000000), true), (.eq (.fn 16 (argsE [.var 5, .var 1, .bi .add (.var 1) (.var 2)])) (.int 0), false)], res := .tuple [.agg [.int .i64 0, .int .i64 0, .int .i64 0, .int .i64 0, .int .i64 0, .nilslice], .sint .i64 (.fn 16 (argsE [.var 5, .var 1, .bi .add (.var 1) (.var 2)]))], frows := [], same := [] }
abbrev asFr45 : Q × Bool := ((.le (.var 2) (.int 1426)), false)
def rreadN_t0 : List (Q × Bool) := [asFr0, asFr45]
def rreadN_d0 : List Duty := [(true, (.int 3), (.fn 16 (.bi .pair (.var 5) (.bi .pair (.var 1) (.bi .pair (.bi .add (.var 1) (.var 2)) (.int 0))))))]
theorem rreadN_y0 : endC rreadN [] 1000 (callC Tryd.prog (tellA rreadN_t0) [] [(40, numCO), (39, rgchkY), (39, rgchkYO), (39, rgchkN), (39, rgchkNO), (35, saysYO), (35, saysNO)] [] 3000 40 20 rreadN) = some rreadN_d0 := by kernel_rfl
abbrev asFr46 : Q × Bool := ((.le (.int 26) (.var 2)), false)
def rreadN_t1 : List (Q × Bool) := [asFr0, asFr1, asFr46]
def rreadN_d1 : List Duty := [(true, (.int 4), (.fn 16 (.bi .pair (.var 5) (.bi .pair (.var 1) (.bi .pair (.bi .add (.var 1) (.var 2)) (.int 0))))))]
theorem rreadN_y1 : endC rreadN [] 1000 (callC Tryd.prog (tellA rreadN_t1) [] [(40, numCO), (39, rgchkY), (39, rgchkYO), (39, rgchkN), (39, rgchkNO), (35, saysYO), (35, saysNO)] [] 3000 40 20 rreadN) = some rreadN_d1 := by kernel_rfl
abbrev asFr47 : Q × Bool := ((.eq (.fn 14 (.bi .pair (.var 5) (.bi .pair (.var 1) (.bi .pair (.bi .add (.var 1) (.var 2)) (.int 0))))) (.int 1)), false)
def rreadN_t2 : List (Q × Bool) := [asFr0, asFr1, asFr2, asFr3, asFr4, asFr5, asFr47]
def rreadN_d2 : List Duty := [(true, (.int 210), (.fn 16 (.bi .pair (.var 5) (.bi .pair (.var 1) (.bi .pair (.bi .add (.var 1) (.var 2)) (.int 0))))))]
theorem rreadN_y2 : endC rreadN [] 1000 (callC Tryd.prog (tellA rreadN_t2) [] [(40, numCO), (39, rgchkY), (39, rgchkYO), (39, rgchkN), (39, rgchkNO), (35, saysYO), (35, saysNO)] [] 3000 40 20 rreadN) = some rreadN_d2 := by kernel_rfl
abbrev asFr48 : Q × Bool := ((.eq (.bi .sel (.tr .cut (.var 5) (.var 1) (.bi .add (.var 1) (.bi .add (.var 2) (.int (-4))))) (.int 0)) (.int 83)), false)
def rreadN_t3 : List (Q × Bool) := [asFr0, asFr1, asFr2, asFr3, asFr4, asFr5, asFr6, asFr7, asFr8, asFr9, asFr10, asFr11, asFr12, asFr13, asFr14, asFr15, asFr16, asFr17, asFr18, asFr19, asFr20, asFr21, asFr22, asFr48]
def rreadN_d3 : List Duty := [(true, (.int 211), (.fn 16 (.bi .pair (.var 5) (.bi .pair (.var 1) (.bi .pair (.bi .add (.var 1) (.var 2)) (.int 0))))))]
theorem rreadN_y3 : endC rreadN [] 1000 (callC Tryd.prog (tellA rreadN_t3) [] [(40, numCO), (39, rgchkY), (39, rgchkYO), (39, rgchkN), (39, rgchkNO), (35, saysYO), (35, saysNO)] [] 3000 40 20 rreadN) = some rreadN_d3 := by kernel_rfl
abbrev asFr49 : Q × Bool := ((.eq (.bi .sel (.tr .cut (.var 5) (.var 1) (.bi .add (.var 1) (.bi .add (.var 2) (.int (-4))))) (.int 1)) (.int 75)), false)
def rreadN_t4 : List (Q × Bool) := [asFr0, asFr1, asFr2, asFr3, asFr4, asFr5, asFr6, asFr7, asFr8, asFr9, asFr10, asFr11, asFr12, asFr13, asFr14, asFr15, asFr16, asFr17, asFr18, asFr19, asFr20, asFr21, asFr22, asFr23, asFr24, asFr49]
def rreadN_d4 : List Duty := [(true, (.int 211), (.fn 16 (.bi .pair (.var 5) (.bi .pair (.var 1) (.bi .pair (.bi .add (.var 1) (.var 2)) (.int 0))))))]
theorem rreadN_y4 : endC rreadN [] 1000 (callC Tryd.prog (tellA rreadN_t4) [] [(40, numCO), (39, rgchkY), (39, rgchkYO), (39, rgchkN), (39, rgchkNO), (35, saysYO), (35, saysNO)] [] 3000 40 20 rreadN) = some rreadN_d4 := by kernel_rfl
abbrev asFr50 : Q × Bool := ((.eq (.bi .sel (.tr .cut (.var 5) (.var 1) (.bi .add (.var 1) (.bi .add (.var 2) (.int (-4))))) (.int 2)) (.int 1)), false)
def rreadN_t5 : List (Q × Bool) := [asFr0, asFr1, asFr2, asFr3, asFr4, asFr5, asFr6, asFr7, asFr8, asFr9, asFr10, asFr11, asFr12, asFr13, asFr14, asFr15, asFr16, asFr17, asFr18, asFr19, asFr20, asFr21, asFr22, asFr23, asFr24, asFr25, asFr26, asFr50]
def rreadN_d5 : List Duty := [(true, (.int 212), (.fn 16 (.bi .pair (.var 5) (.bi .pair (.var 1) (.bi .pair (.bi .add (.var 1) (.var 2)) (.int 0))))))]
theorem rreadN_y5 : endC rreadN [] 1000 (callC Tryd.prog (tellA rreadN_t5) [] [(40, numCO), (39, rgchkY), (39, rgchkYO), (39, rgchkN), (39, rgchkNO), (35, saysYO), (35, saysNO)] [] 3000 40 20 rreadN) = some rreadN_d5 := by kernel_rfl
abbrev asFr51 : Q × Bool := ((.le (.int 1) (.bi .sel (.tr .cut (.var 5) (.var 1) (.bi .add (.var 1) (.bi .add (.var 2) (.int (-4))))) (.int 3))), false)
def rreadN_t6 : List (Q × Bool) := [asFr0, asFr1, asFr2, asFr3, asFr4, asFr5, asFr6, asFr7, asFr8, asFr9, asFr10, asFr11, asFr12, asFr13, asFr14, asFr15, asFr16, asFr17, asFr18, asFr19, asFr20, asFr21, asFr22, asFr23, asFr24, asFr25, asFr26, asFr27, asFr51]
def rreadN_d6 : List Duty := [(true, (.int 213), (.fn 16 (.bi .pair (.var 5) (.bi .pair (.var 1) (.bi .pair (.bi .add (.var 1) (.var 2)) (.int 0))))))]
theorem rreadN_y6 : endC rreadN [] 1000 (callC Tryd.prog (tellA rreadN_t6) [] [(40, numCO), (39, rgchkY), (39, rgchkYO), (39, rgchkN), (39, rgchkNO), (35, saysYO), (35, saysNO)] [] 3000 40 20 rreadN) = some rreadN_d6 := by kernel_rfl
abbrev asFr52 : Q × Bool := ((.le (.bi .sel (.tr .cut (.var 5) (.var 1) (.bi .add (.var 1) (.bi .add (.var 2) (.int (-4))))) (.int 3)) (.int 5)), false)
def rreadN_t7 : List (Q × Bool) := [asFr0, asFr1, asFr2, asFr3, asFr4, asFr5, asFr6, asFr7, asFr8, asFr9, asFr10, asFr11, asFr12, asFr13, asFr14, asFr15, asFr16, asFr17, asFr18, asFr19, asFr20, asFr21, asFr22, asFr23, asFr24, asFr25, asFr26, asFr27, asFr28, asFr52]
def rreadN_d7 : List Duty := [(true, (.int 213), (.fn 16 (.bi .pair (.var 5) (.bi .pair (.var 1) (.bi .pair (.bi .add (.var 1) (.var 2)) (.int 0))))))]
theorem rreadN_y7 : endC rreadN [] 1000 (callC Tryd.prog (tellA rreadN_t7) [] [(40, numCO), (39, rgchkY), (39, rgchkYO), (39, rgchkN), (39, rgchkNO), (35, saysYO), (35, saysNO)] [] 3000 40 20 rreadN) = some rreadN_d7 := by kernel_rfl
abbrev asFr53 : Q × Bool := ((.le (.fn 15 (.bi .pair (.tr .cut (.var 5) (.var 1) (.bi .add (.var 1) (.bi .add (.var 2) (.int (-4))))) (.bi .pair (.int 4) (.bi .pair (.bi .add (.int 4) (.int 4)) (.int 0))))) (.int 2147483647)), false)
def rreadN_t8 : List (Q × Bool) := [asFr0, asFr1, asFr2, asFr3, asFr4, asFr5, asFr6, asFr7, asFr8, asFr9, asFr10, asFr11, asFr12, asFr13, asFr14, asFr15, asFr16, asFr17, asFr18, asFr19, asFr20, asFr21, asFr22, asFr23, asFr24, asFr25, asFr26, asFr27, asFr28, asFr29, asFr30, asFr53]
def rreadN_d8 : List Duty := [(true, (.int 5), (.fn 16 (.bi .pair (.var 5) (.bi .pair (.var 1) (.bi .pair (.bi .add (.var 1) (.var 2)) (.int 0))))))]
theorem rreadN_y8 : endC rreadN [] 1000 (callC Tryd.prog (tellA rreadN_t8) [] [(40, numCO), (39, rgchkY), (39, rgchkYO), (39, rgchkN), (39, rgchkNO), (35, saysYO), (35, saysNO)] [] 3000 40 20 rreadN) = some rreadN_d8 := by kernel_rfl
abbrev asFr54 : Q × Bool := ((.le (.fn 15 (.bi .pair (.tr .cut (.var 5) (.var 1) (.bi .add (.var 1) (.bi .add (.var 2) (.int (-4))))) (.bi .pair (.int 8) (.bi .pair (.bi .add (.int 8) (.int 4)) (.int 0))))) (.int 2147483647)), false)
def rreadN_t9 : List (Q × Bool) := [asFr0, asFr1, asFr2, asFr3, asFr4, asFr5, asFr6, asFr7, asFr8, asFr9, asFr10, asFr11, asFr12, asFr13, asFr14, asFr15, asFr16, asFr17, asFr18, asFr19, asFr20, asFr21, asFr22, asFr23, asFr24, asFr25, asFr26, asFr27, asFr28, asFr29, asFr30, asFr31, asFr32, asFr54]
def rreadN_d9 : List Duty := [(true, (.int 5), (.fn 16 (.bi .pair (.var 5) (.bi .pair (.var 1) (.bi .pair (.bi .add (.var 1) (.var 2)) (.int 0))))))]
theorem rreadN_y9 : endC rreadN [] 1000 (callC Tryd.prog (tellA rreadN_t9) [] [(40, numCO), (39, rgchkY), (39, rgchkYO), (39, rgchkN), (39, rgchkNO), (35, saysYO), (35, saysNO)] [] 3000 40 20 rreadN) = some rreadN_d9 := by kernel_rfl
abbrev asFr55 : Q × Bool := ((.le (.fn 15 (.bi .pair (.tr .cut (.var 5) (.var 1) (.bi .add (.var 1) (.bi .add (.var 2) (.int (-4))))) (.bi .pair (.int 12) (.bi .pair (.bi .add (.int 12) (.int 4)) (.int 0))))) (.int 2147483647)), false)
def rreadN_t10 : List (Q × Bool) := [asFr0, asFr1, asFr2, asFr3, asFr4, asFr5, asFr6, asFr7, asFr8, asFr9, asFr10, asFr11, asFr12, asFr13, asFr14, asFr15, asFr16, asFr17, asFr18, asFr19, asFr20, asFr21, asFr22, asFr23, asFr24, asFr25, asFr26, asFr27, asFr28, asFr29, asFr30, asFr31, asFr32, asFr33, asFr34, asFr55]
def rreadN_d10 : List Duty := [(true, (.int 5), (.fn 16 (.bi .pair (.var 5) (.bi .pair (.var 1) (.bi .pair (.bi .add (.var 1) (.var 2)) (.int 0))))))]
theorem rreadN_y10 : endC rreadN [] 1000 (callC Tryd.prog (tellA rreadN_t10) [] [(40, numCO), (39, rgchkY), (39, rgchkYO), (39, rgchkN), (39, rgchkNO), (35, saysYO), (35, saysNO)] [] 3000 40 20 rreadN) = some rreadN_d10 := by kernel_rfl
abbrev asFr56 : Q × Bool := ((.le (.fn 15 (.bi .pair (.tr .cut (.var 5) (.var 1) (.bi .add (.var 1) (.bi .add (.var 2) (.int (-4))))) (.bi .pair (.int 16) (.bi .pair (.bi .add (.int 16) (.int 4)) (.int 0))))) (.int 2147483647)), false)
def rreadN_t11 : List (Q × Bool) := [asFr0, asFr1, asFr2, asFr3, asFr4, asFr5, asFr6, asFr7, asFr8, asFr9, asFr10, asFr11, asFr12, asFr13, asFr14, asFr15, asFr16, asFr17, asFr18, asFr19, asFr20, asFr21, asFr22, asFr23, asFr24, asFr25, asFr26, asFr27, asFr28, asFr29, asFr30, asFr31, asFr32, asFr33, asFr34, asFr35, asFr36, asFr56]
def rreadN_d11 : List Duty := [(true, (.int 5), (.fn 16 (.bi .pair (.var 5) (.bi .pair (.var 1) (.bi .pair (.bi .add (.var 1) (.var 2)) (.int 0))))))]
theorem rreadN_y11 : endC rreadN [] 1000 (callC Tryd.prog (tellA rreadN_t11) [] [(40, numCO), (39, rgchkY), (39, rgchkYO), (39, rgchkN), (39, rgchkNO), (35, saysYO), (35, saysNO)] [] 3000 40 20 rreadN) = some rreadN_d11 := by kernel_rfl
abbrev asFr57 : Q × Bool := ((.eq (.bi .add (.var 2) (.int (-26))) (.bi (.iop .or .i64) (.bi (.iop .shl .i64) (.bi .sel (.tr .cut (.var 5) (.var 1) (.bi .add (.var 1) (.bi .add (.var 2) (.int (-4))))) (.int 20)) (.int 8)) (.bi .sel (.tr .cut (.var 5) (.var 1) (.bi .add (.var 1) (.bi .add (.var 2) (.int (-4))))) (.int 21)))), false)
def rreadN_t12 : List (Q × Bool) := [asFr0, asFr1, asFr2, asFr3, asFr4, asFr5, asFr6, asFr7, asFr8, asFr9, asFr10, asFr11, asFr12, asFr13, asFr14, asFr15, asFr16, asFr17, asFr18, asFr19, asFr20, asFr21, asFr22, asFr23, asFr24, asFr25, asFr26, asFr27, asFr28, asFr29, asFr30, asFr31, asFr32, asFr33, asFr34, asFr35, asFr36, asFr37, asFr38, asFr39, asFr40, asFr57]
def rreadN_d12 : List Duty := [(true, (.int 214), (.fn 16 (.bi .pair (.var 5) (.bi .pair (.var 1) (.bi .pair (.bi .add (.var 1) (.var 2)) (.int 0))))))]
theorem rreadN_y12 : endC rreadN [] 1000 (callC Tryd.prog (tellA rreadN_t12) [] [(40, numCO), (39, rgchkY), (39, rgchkYO), (39, rgchkN), (39, rgchkNO), (35, saysYO), (35, saysNO)] [] 3000 40 20 rreadN) = some rreadN_d12 := by kernel_rfl
abbrev asFr58 : Q × Bool := ((.eq (.fn 17 (.bi .pair (.bi .sel (.tr .cut (.var 5) (.var 1) (.bi .add (.var 1) (.bi .add (.var 2) (.int (-4))))) (.int 3)) (.bi .pair (.fn 15 (.bi .pair (.tr .cut (.var 5) (.var 1) (.bi .add (.var 1) (.bi .add (.var 2) (.int (-4))))) (.bi .pair (.int 4) (.bi .pair (.bi .add (.int 4) (.int 4)) (.int 0))))) (.bi .pair (.fn 15 (.bi .pair (.tr .cut (.var 5) (.var 1) (.bi .add (.var 1) (.bi .add (.var 2) (.int (-4))))) (.bi .pair (.int 8) (.bi .pair (.bi .add (.int 8) (.int 4)) (.int 0))))) (.bi .pair (.fn 15 (.bi .pair (.tr .cut (.var 5) (.var 1) (.bi .add (.var 1) (.bi .add (.var 2) (.int (-4))))) (.bi .pair (.int 12) (.bi .pair (.bi .add (.int 12) (.int 4)) (.int 0))))) (.bi .pair (.fn 15 (.bi .pair (.tr .cut (.var 5) (.var 1) (.bi .add (.var 1) (.bi .add (.var 2) (.int (-4))))) (.bi .pair (.int 16) (.bi .pair (.bi .add (.int 16) (.int 4)) (.int 0))))) (.bi .pair (.bi .add (.var 2) (.int (-26))) (.int 0)))))))) (.int 1)), false)
def rreadN_t13 : List (Q × Bool) := [asFr0, asFr1, asFr2, asFr3, asFr4, asFr5, asFr6, asFr7, asFr8, asFr9, asFr10, asFr11, asFr12, asFr13, asFr14, asFr15, asFr16, asFr17, asFr18, asFr19, asFr20, asFr21, asFr22, asFr23, asFr24, asFr25, asFr26, asFr27, asFr28, asFr29, asFr30, asFr31, asFr32, asFr33, asFr34, asFr35, asFr36, asFr37, asFr38, asFr39, asFr40, asFr41, asFr42, asFr43, asFr58]
def rreadN_d13 : List Duty := [(true, (.int 2), (.fn 16 (.bi .pair (.var 5) (.bi .pair (.var 1) (.bi .pair (.bi .add (.var 1) (.var 2)) (.int 0))))))]
theorem rreadN_y13 : endC rreadN [] 1000 (callC Tryd.prog (tellA rreadN_t13) [] [(40, numCO), (39, rgchkY), (39, rgchkYO), (39, rgchkN), (39, rgchkNO), (35, saysYO), (35, saysNO)] [] 3000 40 20 rreadN) = some rreadN_d13 := by kernel_rfl
set_option maxHeartbeats 16000000 in
theorem rreadN_holds : CHolds Tryd.prog 20 rreadN F := by
  refine cholds_of sound (tableNil _ _) (specsCons numCO_holds (specsCons rgchkY_holds (specsCons rgchkYO_holds (specsCons rgchkN_holds (specsCons rgchkNO_holds (specsCons saysYO_holds (specsCons saysNO_holds (specsNil _ _)))))))) (oversNil _ _) (fuel := 3000) (depth := 40) (by kernel_rfl) fun d hp hR hA => ?_
  have hp := allTold'_iff.2 hp
  simp only [rreadN, allTold', dutiesTold, factsA, factsC, factsP, factsR, AV.facts, RW.facts, inK, and_true, Q.holds', E.i, E.s, E.n, D.nat, E.den, BO.den, UO.den, TO.den, D.toInt_int, D.toList_list, D.ints_ofInts, i64min, i64max, u8min, u8max, u16min, u16max, u32min, u32max, u64min, u64max, i32min, i32max, Om.sub, selI, ints_app, ints_cut, ints_upd, ints_rep, ints_splice, ints_seg, len_ints] at hp hR hA
  simp only [F16, argsE, allTold', dutiesTold, factsA, factsC, factsP, factsR, AV.facts, RW.facts, inK, and_true, Q.holds', E.i, E.s, E.n, D.nat, E.den, BO.den, UO.den, TO.den, D.toInt_int, D.toList_list, D.ints_ofInts, i64min, i64max, u8min, u8max, u16min, u16max, u32min, u32max, u64min, u64max, i32min, i32max, Om.sub, selI, ints_app, ints_cut, ints_upd, ints_rep, ints_splice, ints_seg, len_ints] at hp
  obtain ⟨hl, hx⟩ := hR
  have hr := read_y (x := (d 5).ints) (o := (d 1).toInt) (l := (d 2).toInt) (by omega) (by omega) (by omega)
  by_cases h1 : 1426 < (d 2).toInt
  · rw [if_pos h1] at hr
    refine ⟨tellA rreadN_t0, _, _, _, tellA_ok (allTold'_iff.1 ?_), rreadN_y0, dutiesTold_ok ?_⟩
    · simp only [rreadN_t0, allTold', dutiesTold, factsA, factsC, factsP, factsR, AV.facts, RW.facts, inK, and_true, Q.holds', E.i, E.s, E.n, D.nat, E.den, BO.den, UO.den, TO.den, D.toInt_int, D.toList_list, D.ints_ofInts, i64min, i64max, u8min, u8max, u16min, u16max, u32min, u32max, u64min, u64max, i32min, i32max, Om.sub, selI, ints_app, ints_cut, ints_upd, ints_rep, ints_splice, ints_seg, len_ints]
      omega
    · simp only [rreadN_d0, F16, allTold', dutiesTold, factsA, factsC, factsP, factsR, AV.facts, RW.facts, inK, and_true, Q.holds', E.i, E.s, E.n, D.nat, E.den, BO.den, UO.den, TO.den, D.toInt_int, D.toList_list, D.ints_ofInts, i64min, i64max, u8min, u8max, u16min, u16max, u32min, u32max, u64min, u64max, i32min, i32max, Om.sub, selI, ints_app, ints_cut, ints_upd, ints_rep, ints_splice, ints_seg, len_ints]
      rw [hr]
      all_goals (and_intros <;> first | omega | rfl | trivial)
  rw [if_neg h1] at hr
  by_cases h2 : (d 2).toInt < 26
  · rw [if_pos h2] at hr
    refine ⟨tellA rreadN_t1, _, _, _, tellA_ok (allTold'_iff.1 ?_), rreadN_y1, dutiesTold_ok ?_⟩
    · simp only [rreadN_t1, allTold', dutiesTold, factsA, factsC, factsP, factsR, AV.facts, RW.facts, inK, and_true, Q.holds', E.i, E.s, E.n, D.nat, E.den, BO.den, UO.den, TO.den, D.toInt_int, D.toList_list, D.ints_ofInts, i64min, i64max, u8min, u8max, u16min, u16max, u32min, u32max, u64min, u64max, i32min, i32max, Om.sub, selI, ints_app, ints_cut, ints_upd, ints_rep, ints_splice, ints_seg, len_ints]
      omega
    · simp only [rreadN_d1, F16, allTold', dutiesTold, factsA, factsC, factsP, factsR, AV.facts, RW.facts, inK, and_true, Q.holds', E.i, E.s, E.n, D.nat, E.den, BO.den, UO.den, TO.den, D.toInt_int, D.toList_list, D.ints_ofInts, i64min, i64max, u8min, u8max, u16min, u16max, u32min, u32max, u64min, u64max, i32min, i32max, Om.sub, selI, ints_app, ints_cut, ints_upd, ints_rep, ints_splice, ints_seg, len_ints]
      rw [hr]
      all_goals (and_intros <;> first | omega | rfl | trivial)
  rw [if_neg h2] at hr
  by_cases hg : goodI (prt (d 5).ints (d 1).toInt ((d 1).toInt + (d 2).toInt)) = 1
  · rw [if_neg (by omega)] at hr
    have hY : (((prt (d 5).ints (d 1).toInt ((d 1).toInt + ((d 2).toInt + -4)))).length : Int) = (d 2).toInt + -4 := by rw [prt_length (by omega) (by omega) (by omega)]; omega
    have yb : ∀ c ∈ (prt (d 5).ints (d 1).toInt ((d 1).toInt + ((d 2).toInt + -4))), 0 ≤ c ∧ c ≤ 255 := fun c hc => hx c (List.mem_of_mem_take (List.mem_of_mem_drop hc))
    have a1 := be4_in yb (o := 4) (t := 8) (by omega) (by omega) (by omega)
    have a2 := be4_in yb (o := 8) (t := 12) (by omega) (by omega) (by omega)
    have a3 := be4_in yb (o := 12) (t := 16) (by omega) (by omega) (by omega)
    have a4 := be4_in yb (o := 16) (t := 20) (by omega) (by omega) (by omega)
    have y0 := sel_in yb 0
    have y1 := sel_in yb 1
    have y2 := sel_in yb 2
    have y3 := sel_in yb 3
    have y20 := sel_in yb 20
    have y21 := sel_in yb 21
    have o8 := or8 (n := (((prt (d 5).ints (d 1).toInt ((d 1).toInt + ((d 2).toInt + -4))))[20]?).getD 0) (c := (((prt (d 5).ints (d 1).toInt ((d 1).toInt + ((d 2).toInt + -4))))[21]?).getD 0) y20.1 (by omega) y21.1 y21.2
    have cc : List.drop (d 1).toInt.toNat (List.take ((d 1).toInt + ((d 2).toInt + -4)).toNat (d 5).ints) = (prt (d 5).ints (d 1).toInt ((d 1).toInt + ((d 2).toInt + -4))) := rfl
    have e15 : ∀ a b : Int, 0 ≤ a → a ≤ b → b ≤ 22 → prt (d 5).ints ((d 1).toInt + a) ((d 1).toInt + b) = prt ((prt (d 5).ints (d 1).toInt ((d 1).toInt + ((d 2).toInt + -4)))) a b := fun a b ha hb hc => (prt_prt (by omega) ha hb (by omega)).symm
    have e3 := e15 3 4 (by omega) (by omega) (by omega)
    have e4 := e15 4 8 (by omega) (by omega) (by omega)
    have e8 := e15 8 12 (by omega) (by omega) (by omega)
    have e12 := e15 12 16 (by omega) (by omega) (by omega)
    have e16 := e15 16 20 (by omega) (by omega) (by omega)
    have b3 : be (prt ((prt (d 5).ints (d 1).toInt ((d 1).toInt + ((d 2).toInt + -4)))) 3 4) = (((prt (d 5).ints (d 1).toInt ((d 1).toInt + ((d 2).toInt + -4))))[3]?).getD 0 := be_1 (x := (prt (d 5).ints (d 1).toInt ((d 1).toInt + ((d 2).toInt + -4)))) (o := 3) (t := 4) (by omega) (by omega) (by omega)
    have ebd : prt ((prt (d 5).ints (d 1).toInt ((d 1).toInt + ((d 2).toInt + -4)))) 22 ((d 2).toInt + -4) = prt (d 5).ints ((d 1).toInt + 22) ((d 1).toInt + ((d 2).toInt + -4)) := prt_prt (by omega) (by omega) (by omega) (by omega)
    clear hl hx e15
    generalize hv0_ : (((prt (d 5).ints (d 1).toInt ((d 1).toInt + ((d 2).toInt + -4))))[0]?).getD 0 = v0 at *
    generalize hv1_ : (((prt (d 5).ints (d 1).toInt ((d 1).toInt + ((d 2).toInt + -4))))[1]?).getD 0 = v1 at *
    generalize hv2_ : (((prt (d 5).ints (d 1).toInt ((d 1).toInt + ((d 2).toInt + -4))))[2]?).getD 0 = v2 at *
    generalize hv3_ : (((prt (d 5).ints (d 1).toInt ((d 1).toInt + ((d 2).toInt + -4))))[3]?).getD 0 = v3 at *
    generalize hv20_ : (((prt (d 5).ints (d 1).toInt ((d 1).toInt + ((d 2).toInt + -4))))[20]?).getD 0 = v20 at *
    generalize hv21_ : (((prt (d 5).ints (d 1).toInt ((d 1).toInt + ((d 2).toInt + -4))))[21]?).getD 0 = v21 at *
    generalize hw1_ : be (prt (prt (d 5).ints (d 1).toInt ((d 1).toInt + ((d 2).toInt + -4))) 4 8) = w1 at *
    generalize hw2_ : be (prt (prt (d 5).ints (d 1).toInt ((d 1).toInt + ((d 2).toInt + -4))) 8 12) = w2 at *
    generalize hw3_ : be (prt (prt (d 5).ints (d 1).toInt ((d 1).toInt + ((d 2).toInt + -4))) 12 16) = w3 at *
    generalize hw4_ : be (prt (prt (d 5).ints (d 1).toInt ((d 1).toInt + ((d 2).toInt + -4))) 16 20) = w4 at *
    by_cases c3 : v0 ≠ 83
    · have hv : sayI (v0 * 256 + v1) v2 v3 w1 w2 w3 w4 (v20 * 256 + v21) ((d 2).toInt + -26) = 211 := by
        unfold sayI rangeP
        repeat' split
        all_goals first | omega | contradiction
      rw [hv] at hr
      refine ⟨tellA rreadN_t3, _, _, _, tellA_ok (allTold'_iff.1 ?_), rreadN_y3, dutiesTold_ok ?_⟩
      · simp only [rreadN_t3, F14, F15, F17, ints_list, List.map_drop, List.map_take, map_ints, allTold', dutiesTold, factsA, factsC, factsP, factsR, AV.facts, RW.facts, inK, and_true, Q.holds', E.i, E.s, E.n, D.nat, E.den, BO.den, UO.den, TO.den, D.toInt_int, D.toList_list, D.ints_ofInts, i64min, i64max, u8min, u8max, u16min, u16max, u32min, u32max, u64min, u64max, i32min, i32max, Om.sub, selI, ints_app, ints_cut, ints_upd, ints_rep, ints_splice, ints_seg, len_ints]
        simp only [selC, cc, Int.reduceToNat, Int.reduceAdd, o8, cut_prt, hv0_, hv1_, hv2_, hv3_, hv20_, hv21_, hw1_, hw2_, hw3_, hw4_]
        all_goals (and_intros <;> first | omega | exact hg | exact hs | trivial)
      · simp only [rreadN_d3, F15, F16, ints_list, List.map_drop, List.map_take, map_ints, allTold', dutiesTold, factsA, factsC, factsP, factsR, AV.facts, RW.facts, inK, and_true, Q.holds', E.i, E.s, E.n, D.nat, E.den, BO.den, UO.den, TO.den, D.toInt_int, D.toList_list, D.ints_ofInts, i64min, i64max, u8min, u8max, u16min, u16max, u32min, u32max, u64min, u64max, i32min, i32max, Om.sub, selI, ints_app, ints_cut, ints_upd, ints_rep, ints_splice, ints_seg, len_ints]
        simp only [selC, hr, cc, e3, e4, e8, e12, e16, b3, ebd, cut_prt, Int.reduceToNat, Int.reduceAdd, hv0_, hv1_, hv2_, hv3_, hv20_, hv21_, hw1_, hw2_, hw3_, hw4_]
        all_goals (and_intros <;> first | omega | rfl | (exact hv.symm) | exact hv | trivial)
    by_cases c4 : v1 ≠ 75
    · have hv : sayI (v0 * 256 + v1) v2 v3 w1 w2 w3 w4 (v20 * 256 + v21) ((d 2).toInt + -26) = 211 := by
        unfold sayI rangeP
        repeat' split
        all_goals first | omega | contradiction
      rw [hv] at hr
      refine ⟨tellA rreadN_t4, _, _, _, tellA_ok (allTold'_iff.1 ?_), rreadN_y4, dutiesTold_ok ?_⟩
      · simp only [rreadN_t4, F14, F15, F17, ints_list, List.map_drop, List.map_take, map_ints, allTold', dutiesTold, factsA, factsC, factsP, factsR, AV.facts, RW.facts, inK, and_true, Q.holds', E.i, E.s, E.n, D.nat, E.den, BO.den, UO.den, TO.den, D.toInt_int, D.toList_list, D.ints_ofInts, i64min, i64max, u8min, u8max, u16min, u16max, u32min, u32max, u64min, u64max, i32min, i32max, Om.sub, selI, ints_app, ints_cut, ints_upd, ints_rep, ints_splice, ints_seg, len_ints]
        simp only [selC, cc, Int.reduceToNat, Int.reduceAdd, o8, cut_prt, hv0_, hv1_, hv2_, hv3_, hv20_, hv21_, hw1_, hw2_, hw3_, hw4_]
        all_goals (and_intros <;> first | omega | exact hg | exact hs | trivial)
      · simp only [rreadN_d4, F15, F16, ints_list, List.map_drop, List.map_take, map_ints, allTold', dutiesTold, factsA, factsC, factsP, factsR, AV.facts, RW.facts, inK, and_true, Q.holds', E.i, E.s, E.n, D.nat, E.den, BO.den, UO.den, TO.den, D.toInt_int, D.toList_list, D.ints_ofInts, i64min, i64max, u8min, u8max, u16min, u16max, u32min, u32max, u64min, u64max, i32min, i32max, Om.sub, selI, ints_app, ints_cut, ints_upd, ints_rep, ints_splice, ints_seg, len_ints]
        simp only [selC, hr, cc, e3, e4, e8, e12, e16, b3, ebd, cut_prt, Int.reduceToNat, Int.reduceAdd, hv0_, hv1_, hv2_, hv3_, hv20_, hv21_, hw1_, hw2_, hw3_, hw4_]
        all_goals (and_intros <;> first | omega | rfl | (exact hv.symm) | exact hv | trivial)
    by_cases c5 : v2 ≠ 1
    · have hv : sayI (v0 * 256 + v1) v2 v3 w1 w2 w3 w4 (v20 * 256 + v21) ((d 2).toInt + -26) = 212 := by
        unfold sayI rangeP
        repeat' split
        all_goals first | omega | contradiction
      rw [hv] at hr
      refine ⟨tellA rreadN_t5, _, _, _, tellA_ok (allTold'_iff.1 ?_), rreadN_y5, dutiesTold_ok ?_⟩
      · simp only [rreadN_t5, F14, F15, F17, ints_list, List.map_drop, List.map_take, map_ints, allTold', dutiesTold, factsA, factsC, factsP, factsR, AV.facts, RW.facts, inK, and_true, Q.holds', E.i, E.s, E.n, D.nat, E.den, BO.den, UO.den, TO.den, D.toInt_int, D.toList_list, D.ints_ofInts, i64min, i64max, u8min, u8max, u16min, u16max, u32min, u32max, u64min, u64max, i32min, i32max, Om.sub, selI, ints_app, ints_cut, ints_upd, ints_rep, ints_splice, ints_seg, len_ints]
        simp only [selC, cc, Int.reduceToNat, Int.reduceAdd, o8, cut_prt, hv0_, hv1_, hv2_, hv3_, hv20_, hv21_, hw1_, hw2_, hw3_, hw4_]
        all_goals (and_intros <;> first | omega | exact hg | exact hs | trivial)
      · simp only [rreadN_d5, F15, F16, ints_list, List.map_drop, List.map_take, map_ints, allTold', dutiesTold, factsA, factsC, factsP, factsR, AV.facts, RW.facts, inK, and_true, Q.holds', E.i, E.s, E.n, D.nat, E.den, BO.den, UO.den, TO.den, D.toInt_int, D.toList_list, D.ints_ofInts, i64min, i64max, u8min, u8max, u16min, u16max, u32min, u32max, u64min, u64max, i32min, i32max, Om.sub, selI, ints_app, ints_cut, ints_upd, ints_rep, ints_splice, ints_seg, len_ints]
        simp only [selC, hr, cc, e3, e4, e8, e12, e16, b3, ebd, cut_prt, Int.reduceToNat, Int.reduceAdd, hv0_, hv1_, hv2_, hv3_, hv20_, hv21_, hw1_, hw2_, hw3_, hw4_]
        all_goals (and_intros <;> first | omega | rfl | (exact hv.symm) | exact hv | trivial)
    by_cases c6 : v3 < 1
    · have hv : sayI (v0 * 256 + v1) v2 v3 w1 w2 w3 w4 (v20 * 256 + v21) ((d 2).toInt + -26) = 213 := by
        unfold sayI rangeP
        repeat' split
        all_goals first | omega | contradiction
      rw [hv] at hr
      refine ⟨tellA rreadN_t6, _, _, _, tellA_ok (allTold'_iff.1 ?_), rreadN_y6, dutiesTold_ok ?_⟩
      · simp only [rreadN_t6, F14, F15, F17, ints_list, List.map_drop, List.map_take, map_ints, allTold', dutiesTold, factsA, factsC, factsP, factsR, AV.facts, RW.facts, inK, and_true, Q.holds', E.i, E.s, E.n, D.nat, E.den, BO.den, UO.den, TO.den, D.toInt_int, D.toList_list, D.ints_ofInts, i64min, i64max, u8min, u8max, u16min, u16max, u32min, u32max, u64min, u64max, i32min, i32max, Om.sub, selI, ints_app, ints_cut, ints_upd, ints_rep, ints_splice, ints_seg, len_ints]
        simp only [selC, cc, Int.reduceToNat, Int.reduceAdd, o8, cut_prt, hv0_, hv1_, hv2_, hv3_, hv20_, hv21_, hw1_, hw2_, hw3_, hw4_]
        all_goals (and_intros <;> first | omega | exact hg | exact hs | trivial)
      · simp only [rreadN_d6, F15, F16, ints_list, List.map_drop, List.map_take, map_ints, allTold', dutiesTold, factsA, factsC, factsP, factsR, AV.facts, RW.facts, inK, and_true, Q.holds', E.i, E.s, E.n, D.nat, E.den, BO.den, UO.den, TO.den, D.toInt_int, D.toList_list, D.ints_ofInts, i64min, i64max, u8min, u8max, u16min, u16max, u32min, u32max, u64min, u64max, i32min, i32max, Om.sub, selI, ints_app, ints_cut, ints_upd, ints_rep, ints_splice, ints_seg, len_ints]
        simp only [selC, hr, cc, e3, e4, e8, e12, e16, b3, ebd, cut_prt, Int.reduceToNat, Int.reduceAdd, hv0_, hv1_, hv2_, hv3_, hv20_, hv21_, hw1_, hw2_, hw3_, hw4_]
        all_goals (and_intros <;> first | omega | rfl | (exact hv.symm) | exact hv | trivial)
    by_cases c7 : 5 < v3
    · have hv : sayI (v0 * 256 + v1) v2 v3 w1 w2 w3 w4 (v20 * 256 + v21) ((d 2).toInt + -26) = 213 := by
        unfold sayI rangeP
        repeat' split
        all_goals first | omega | contradiction
      rw [hv] at hr
      refine ⟨tellA rreadN_t7, _, _, _, tellA_ok (allTold'_iff.1 ?_), rreadN_y7, dutiesTold_ok ?_⟩
      · simp only [rreadN_t7, F14, F15, F17, ints_list, List.map_drop, List.map_take, map_ints, allTold', dutiesTold, factsA, factsC, factsP, factsR, AV.facts, RW.facts, inK, and_true, Q.holds', E.i, E.s, E.n, D.nat, E.den, BO.den, UO.den, TO.den, D.toInt_int, D.toList_list, D.ints_ofInts, i64min, i64max, u8min, u8max, u16min, u16max, u32min, u32max, u64min, u64max, i32min, i32max, Om.sub, selI, ints_app, ints_cut, ints_upd, ints_rep, ints_splice, ints_seg, len_ints]
        simp only [selC, cc, Int.reduceToNat, Int.reduceAdd, o8, cut_prt, hv0_, hv1_, hv2_, hv3_, hv20_, hv21_, hw1_, hw2_, hw3_, hw4_]
        all_goals (and_intros <;> first | omega | exact hg | exact hs | trivial)
      · simp only [rreadN_d7, F15, F16, ints_list, List.map_drop, List.map_take, map_ints, allTold', dutiesTold, factsA, factsC, factsP, factsR, AV.facts, RW.facts, inK, and_true, Q.holds', E.i, E.s, E.n, D.nat, E.den, BO.den, UO.den, TO.den, D.toInt_int, D.toList_list, D.ints_ofInts, i64min, i64max, u8min, u8max, u16min, u16max, u32min, u32max, u64min, u64max, i32min, i32max, Om.sub, selI, ints_app, ints_cut, ints_upd, ints_rep, ints_splice, ints_seg, len_ints]
        simp only [selC, hr, cc, e3, e4, e8, e12, e16, b3, ebd, cut_prt, Int.reduceToNat, Int.reduceAdd, hv0_, hv1_, hv2_, hv3_, hv20_, hv21_, hw1_, hw2_, hw3_, hw4_]
        all_goals (and_intros <;> first | omega | rfl | (exact hv.symm) | exact hv | trivial)
    by_cases c8 : 2147483647 < w1
    · have hv : sayI (v0 * 256 + v1) v2 v3 w1 w2 w3 w4 (v20 * 256 + v21) ((d 2).toInt + -26) = 5 := by
        unfold sayI rangeP
        repeat' split
        all_goals first | omega | contradiction
      rw [hv] at hr
      refine ⟨tellA rreadN_t8, _, _, _, tellA_ok (allTold'_iff.1 ?_), rreadN_y8, dutiesTold_ok ?_⟩
      · simp only [rreadN_t8, F14, F15, F17, ints_list, List.map_drop, List.map_take, map_ints, allTold', dutiesTold, factsA, factsC, factsP, factsR, AV.facts, RW.facts, inK, and_true, Q.holds', E.i, E.s, E.n, D.nat, E.den, BO.den, UO.den, TO.den, D.toInt_int, D.toList_list, D.ints_ofInts, i64min, i64max, u8min, u8max, u16min, u16max, u32min, u32max, u64min, u64max, i32min, i32max, Om.sub, selI, ints_app, ints_cut, ints_upd, ints_rep, ints_splice, ints_seg, len_ints]
        simp only [selC, cc, Int.reduceToNat, Int.reduceAdd, o8, cut_prt, hv0_, hv1_, hv2_, hv3_, hv20_, hv21_, hw1_, hw2_, hw3_, hw4_]
        all_goals (and_intros <;> first | omega | exact hg | exact hs | trivial)
      · simp only [rreadN_d8, F15, F16, ints_list, List.map_drop, List.map_take, map_ints, allTold', dutiesTold, factsA, factsC, factsP, factsR, AV.facts, RW.facts, inK, and_true, Q.holds', E.i, E.s, E.n, D.nat, E.den, BO.den, UO.den, TO.den, D.toInt_int, D.toList_list, D.ints_ofInts, i64min, i64max, u8min, u8max, u16min, u16max, u32min, u32max, u64min, u64max, i32min, i32max, Om.sub, selI, ints_app, ints_cut, ints_upd, ints_rep, ints_splice, ints_seg, len_ints]
        simp only [selC, hr, cc, e3, e4, e8, e12, e16, b3, ebd, cut_prt, Int.reduceToNat, Int.reduceAdd, hv0_, hv1_, hv2_, hv3_, hv20_, hv21_, hw1_, hw2_, hw3_, hw4_]
        all_goals (and_intros <;> first | omega | rfl | (exact hv.symm) | exact hv | trivial)
    by_cases c9 : 2147483647 < w2
    · have hv : sayI (v0 * 256 + v1) v2 v3 w1 w2 w3 w4 (v20 * 256 + v21) ((d 2).toInt + -26) = 5 := by
        unfold sayI rangeP
        repeat' split
        all_goals first | omega | contradiction
      rw [hv] at hr
      refine ⟨tellA rreadN_t9, _, _, _, tellA_ok (allTold'_iff.1 ?_), rreadN_y9, dutiesTold_ok ?_⟩
      · simp only [rreadN_t9, F14, F15, F17, ints_list, List.map_drop, List.map_take, map_ints, allTold', dutiesTold, factsA, factsC, factsP, factsR, AV.facts, RW.facts, inK, and_true, Q.holds', E.i, E.s, E.n, D.nat, E.den, BO.den, UO.den, TO.den, D.toInt_int, D.toList_list, D.ints_ofInts, i64min, i64max, u8min, u8max, u16min, u16max, u32min, u32max, u64min, u64max, i32min, i32max, Om.sub, selI, ints_app, ints_cut, ints_upd, ints_rep, ints_splice, ints_seg, len_ints]
        simp only [selC, cc, Int.reduceToNat, Int.reduceAdd, o8, cut_prt, hv0_, hv1_, hv2_, hv3_, hv20_, hv21_, hw1_, hw2_, hw3_, hw4_]
        all_goals (and_intros <;> first | omega | exact hg | exact hs | trivial)
      · simp only [rreadN_d9, F15, F16, ints_list, List.map_drop, List.map_take, map_ints, allTold', dutiesTold, factsA, factsC, factsP, factsR, AV.facts, RW.facts, inK, and_true, Q.holds', E.i, E.s, E.n, D.nat, E.den, BO.den, UO.den, TO.den, D.toInt_int, D.toList_list, D.ints_ofInts, i64min, i64max, u8min, u8max, u16min, u16max, u32min, u32max, u64min, u64max, i32min, i32max, Om.sub, selI, ints_app, ints_cut, ints_upd, ints_rep, ints_splice, ints_seg, len_ints]
        simp only [selC, hr, cc, e3, e4, e8, e12, e16, b3, ebd, cut_prt, Int.reduceToNat, Int.reduceAdd, hv0_, hv1_, hv2_, hv3_, hv20_, hv21_, hw1_, hw2_, hw3_, hw4_]
        all_goals (and_intros <;> first | omega | rfl | (exact hv.symm) | exact hv | trivial)
    by_cases c10 : 2147483647 < w3
    · have hv : sayI (v0 * 256 + v1) v2 v3 w1 w2 w3 w4 (v20 * 256 + v21) ((d 2).toInt + -26) = 5 := by
        unfold sayI rangeP
        repeat' split
        all_goals first | omega | contradiction
      rw [hv] at hr
      refine ⟨tellA rreadN_t10, _, _, _, tellA_ok (allTold'_iff.1 ?_), rreadN_y10, dutiesTold_ok ?_⟩
      · simp only [rreadN_t10, F14, F15, F17, ints_list, List.map_drop, List.map_take, map_ints, allTold', dutiesTold, factsA, factsC, factsP, factsR, AV.facts, RW.facts, inK, and_true, Q.holds', E.i, E.s, E.n, D.nat, E.den, BO.den, UO.den, TO.den, D.toInt_int, D.toList_list, D.ints_ofInts, i64min, i64max, u8min, u8max, u16min, u16max, u32min, u32max, u64min, u64max, i32min, i32max, Om.sub, selI, ints_app, ints_cut, ints_upd, ints_rep, ints_splice, ints_seg, len_ints]
        simp only [selC, cc, Int.reduceToNat, Int.reduceAdd, o8, cut_prt, hv0_, hv1_, hv2_, hv3_, hv20_, hv21_, hw1_, hw2_, hw3_, hw4_]
        all_goals (and_intros <;> first | omega | exact hg | exact hs | trivial)
      · simp only [rreadN_d10, F15, F16, ints_list, List.map_drop, List.map_take, map_ints, allTold', dutiesTold, factsA, factsC, factsP, factsR, AV.facts, RW.facts, inK, and_true, Q.holds', E.i, E.s, E.n, D.nat, E.den, BO.den, UO.den, TO.den, D.toInt_int, D.toList_list, D.ints_ofInts, i64min, i64max, u8min, u8max, u16min, u16max, u32min, u32max, u64min, u64max, i32min, i32max, Om.sub, selI, ints_app, ints_cut, ints_upd, ints_rep, ints_splice, ints_seg, len_ints]
        simp only [selC, hr, cc, e3, e4, e8, e12, e16, b3, ebd, cut_prt, Int.reduceToNat, Int.reduceAdd, hv0_, hv1_, hv2_, hv3_, hv20_, hv21_, hw1_, hw2_, hw3_, hw4_]
        all_goals (and_intros <;> first | omega | rfl | (exact hv.symm) | exact hv | trivial)
    by_cases c11 : 2147483647 < w4
    · have hv : sayI (v0 * 256 + v1) v2 v3 w1 w2 w3 w4 (v20 * 256 + v21) ((d 2).toInt + -26) = 5 := by
        unfold sayI rangeP
        repeat' split
        all_goals first | omega | contradiction
      rw [hv] at hr
      refine ⟨tellA rreadN_t11, _, _, _, tellA_ok (allTold'_iff.1 ?_), rreadN_y11, dutiesTold_ok ?_⟩
      · simp only [rreadN_t11, F14, F15, F17, ints_list, List.map_drop, List.map_take, map_ints, allTold', dutiesTold, factsA, factsC, factsP, factsR, AV.facts, RW.facts, inK, and_true, Q.holds', E.i, E.s, E.n, D.nat, E.den, BO.den, UO.den, TO.den, D.toInt_int, D.toList_list, D.ints_ofInts, i64min, i64max, u8min, u8max, u16min, u16max, u32min, u32max, u64min, u64max, i32min, i32max, Om.sub, selI, ints_app, ints_cut, ints_upd, ints_rep, ints_splice, ints_seg, len_ints]
        simp only [selC, cc, Int.reduceToNat, Int.reduceAdd, o8, cut_prt, hv0_, hv1_, hv2_, hv3_, hv20_, hv21_, hw1_, hw2_, hw3_, hw4_]
        all_goals (and_intros <;> first | omega | exact hg | exact hs | trivial)
      · simp only [rreadN_d11, F15, F16, ints_list, List.map_drop, List.map_take, map_ints, allTold', dutiesTold, factsA, factsC, factsP, factsR, AV.facts, RW.facts, inK, and_true, Q.holds', E.i, E.s, E.n, D.nat, E.den, BO.den, UO.den, TO.den, D.toInt_int, D.toList_list, D.ints_ofInts, i64min, i64max, u8min, u8max, u16min, u16max, u32min, u32max, u64min, u64max, i32min, i32max, Om.sub, selI, ints_app, ints_cut, ints_upd, ints_rep, ints_splice, ints_seg, len_ints]
        simp only [selC, hr, cc, e3, e4, e8, e12, e16, b3, ebd, cut_prt, Int.reduceToNat, Int.reduceAdd, hv0_, hv1_, hv2_, hv3_, hv20_, hv21_, hw1_, hw2_, hw3_, hw4_]
        all_goals (and_intros <;> first | omega | rfl | (exact hv.symm) | exact hv | trivial)
    by_cases c12 : v20 * 256 + v21 ≠ (d 2).toInt + -26
    · have hv : sayI (v0 * 256 + v1) v2 v3 w1 w2 w3 w4 (v20 * 256 + v21) ((d 2).toInt + -26) = 214 := by
        unfold sayI rangeP
        repeat' split
        all_goals first | omega | contradiction
      rw [hv] at hr
      refine ⟨tellA rreadN_t12, _, _, _, tellA_ok (allTold'_iff.1 ?_), rreadN_y12, dutiesTold_ok ?_⟩
      · simp only [rreadN_t12, F14, F15, F17, ints_list, List.map_drop, List.map_take, map_ints, allTold', dutiesTold, factsA, factsC, factsP, factsR, AV.facts, RW.facts, inK, and_true, Q.holds', E.i, E.s, E.n, D.nat, E.den, BO.den, UO.den, TO.den, D.toInt_int, D.toList_list, D.ints_ofInts, i64min, i64max, u8min, u8max, u16min, u16max, u32min, u32max, u64min, u64max, i32min, i32max, Om.sub, selI, ints_app, ints_cut, ints_upd, ints_rep, ints_splice, ints_seg, len_ints]
        simp only [selC, cc, Int.reduceToNat, Int.reduceAdd, o8, cut_prt, hv0_, hv1_, hv2_, hv3_, hv20_, hv21_, hw1_, hw2_, hw3_, hw4_]
        all_goals (and_intros <;> first | omega | exact hg | exact hs | trivial)
      · simp only [rreadN_d12, F15, F16, ints_list, List.map_drop, List.map_take, map_ints, allTold', dutiesTold, factsA, factsC, factsP, factsR, AV.facts, RW.facts, inK, and_true, Q.holds', E.i, E.s, E.n, D.nat, E.den, BO.den, UO.den, TO.den, D.toInt_int, D.toList_list, D.ints_ofInts, i64min, i64max, u8min, u8max, u16min, u16max, u32min, u32max, u64min, u64max, i32min, i32max, Om.sub, selI, ints_app, ints_cut, ints_upd, ints_rep, ints_splice, ints_seg, len_ints]
        simp only [selC, hr, cc, e3, e4, e8, e12, e16, b3, ebd, cut_prt, Int.reduceToNat, Int.reduceAdd, hv0_, hv1_, hv2_, hv3_, hv20_, hv21_, hw1_, hw2_, hw3_, hw4_]
        all_goals (and_intros <;> first | omega | rfl | (exact hv.symm) | exact hv | trivial)
    by_cases hs2 : saysP v3 w1 w2 w3 w4 ((d 2).toInt + -26)
    · have hv : sayI (v0 * 256 + v1) v2 v3 w1 w2 w3 w4 (v20 * 256 + v21) ((d 2).toInt + -26) = 0 := by
        unfold sayI rangeP
        repeat' split
        all_goals first | omega | contradiction
      rw [hv] at hr
      exact (hp.2.2 hr).elim
    · have hs : ¬ ((if saysP v3 w1 w2 w3 w4 ((d 2).toInt + -26) then (1 : Int) else 0) = 1) := by rw [if_neg hs2]; omega
      have hv : sayI (v0 * 256 + v1) v2 v3 w1 w2 w3 w4 (v20 * 256 + v21) ((d 2).toInt + -26) = 2 := by
        unfold sayI rangeP
        repeat' split
        all_goals first | omega | contradiction
      rw [hv] at hr
      refine ⟨tellA rreadN_t13, _, _, _, tellA_ok (allTold'_iff.1 ?_), rreadN_y13, dutiesTold_ok ?_⟩
      · simp only [rreadN_t13, F14, F15, F17, ints_list, List.map_drop, List.map_take, map_ints, allTold', dutiesTold, factsA, factsC, factsP, factsR, AV.facts, RW.facts, inK, and_true, Q.holds', E.i, E.s, E.n, D.nat, E.den, BO.den, UO.den, TO.den, D.toInt_int, D.toList_list, D.ints_ofInts, i64min, i64max, u8min, u8max, u16min, u16max, u32min, u32max, u64min, u64max, i32min, i32max, Om.sub, selI, ints_app, ints_cut, ints_upd, ints_rep, ints_splice, ints_seg, len_ints]
        simp only [selC, cc, Int.reduceToNat, Int.reduceAdd, o8, cut_prt, hv0_, hv1_, hv2_, hv3_, hv20_, hv21_, hw1_, hw2_, hw3_, hw4_]
        all_goals (and_intros <;> first | omega | exact hg | exact hs | trivial)
      · simp only [rreadN_d13, F15, F16, ints_list, List.map_drop, List.map_take, map_ints, allTold', dutiesTold, factsA, factsC, factsP, factsR, AV.facts, RW.facts, inK, and_true, Q.holds', E.i, E.s, E.n, D.nat, E.den, BO.den, UO.den, TO.den, D.toInt_int, D.toList_list, D.ints_ofInts, i64min, i64max, u8min, u8max, u16min, u16max, u32min, u32max, u64min, u64max, i32min, i32max, Om.sub, selI, ints_app, ints_cut, ints_upd, ints_rep, ints_splice, ints_seg, len_ints]
        simp only [selC, hr, cc, e3, e4, e8, e12, e16, b3, ebd, cut_prt, Int.reduceToNat, Int.reduceAdd, hv0_, hv1_, hv2_, hv3_, hv20_, hv21_, hw1_, hw2_, hw3_, hw4_]
        all_goals (and_intros <;> first | omega | rfl | (exact hv.symm) | exact hv | trivial)
  · rw [if_pos (by omega)] at hr
    refine ⟨tellA rreadN_t2, _, _, _, tellA_ok (allTold'_iff.1 ?_), rreadN_y2, dutiesTold_ok ?_⟩
    · simp only [rreadN_t2, F14, allTold', dutiesTold, factsA, factsC, factsP, factsR, AV.facts, RW.facts, inK, and_true, Q.holds', E.i, E.s, E.n, D.nat, E.den, BO.den, UO.den, TO.den, D.toInt_int, D.toList_list, D.ints_ofInts, i64min, i64max, u8min, u8max, u16min, u16max, u32min, u32max, u64min, u64max, i32min, i32max, Om.sub, selI, ints_app, ints_cut, ints_upd, ints_rep, ints_splice, ints_seg, len_ints]
      all_goals (and_intros <;> first | omega | exact hg | trivial)
    · simp only [rreadN_d2, F16, allTold', dutiesTold, factsA, factsC, factsP, factsR, AV.facts, RW.facts, inK, and_true, Q.holds', E.i, E.s, E.n, D.nat, E.den, BO.den, UO.den, TO.den, D.toInt_int, D.toList_list, D.ints_ofInts, i64min, i64max, u8min, u8max, u16min, u16max, u32min, u32max, u64min, u64max, i32min, i32max, Om.sub, selI, ints_app, ints_cut, ints_upd, ints_rep, ints_splice, ints_seg, len_ints]
      rw [hr]
      all_goals (and_intros <;> first | omega | rfl | trivial)

end Go.Proofs.YtlmcjfcfmcdcpaaDoor.Fr
