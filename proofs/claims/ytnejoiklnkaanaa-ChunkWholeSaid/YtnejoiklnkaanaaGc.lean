/-
 Contracts of this seat: what loops and calls leave, for all inputs. No condition.
-/
import Derived.Test.YtnejoiklnkaanaaSycp
import Derived.Test.YtnejoiklnkaanaaSyfm
import Derived.Test.YtnejoiklnkaanaaCo
import Derived.Test.YtnejoiklnkaanaaGa
import Derived.Test.YtnejoiklnkaanaaGb
set_option linter.unusedSimpArgs false
set_option linter.unusedVariables false
namespace Go.Proofs.Ytnejoiklnkaanaa.Gc
open Go.RowKit Go.Ev Go.Proofs.Ytnejoiklnkaanaa.Co

open Go.Proofs.Ytnejoiklnkaanaa.Ga
open Go.Proofs.Ytnejoiklnkaanaa.Gb
theorem one_of {b : Prop} {h : Decidable b} (k : (@ite Int b h 1 0) = 1) : b := by
 by_cases g : b
 ·exact g
 ·rw [if_neg g] at k; omega
theorem one_to {b : Prop} {h : Decidable b} (k : b) : (@ite Int b h 1 0) = 1 := if_pos k
theorem shr_low {n : Int} (h0 : 0 ≤ n) (h : n ≤ 4294967295) : iopI .shr .u32 n 24 = 0 ↔ n < 16777216 := by
 show n.fdiv (2 ^ (min (24 : Int).toNat 32)) = 0 ↔ _
 rw [show ((2 : Int) ^ (min (24 : Int).toNat 32)) = 16777216 from rfl, Int.fdiv_eq_ediv_of_nonneg _ (by omega)]
 omega
theorem cat_mono {l : List D} {i n : Nat} (h : i ≤ n) : (catL (l.take i)).length ≤ (catL (l.take n)).length := by
 have e : l.take n = l.take i ++ (l.take n).drop i := by
  have := (List.take_append_drop i (l.take n)).symm
  rw [List.take_take, Nat.min_eq_left h] at this
  exact this
 rw [e]
 unfold catL
 rw [List.flatMap_append, List.length_append]
 omega
theorem cat_zero (l : List D) : catL (l.take (Int.toNat 0)) = [] := rfl
theorem cut_low (C : List Int) {k : Int} (h : 16 ≤ k) (g : k ≤ C.length) : prt (List.drop (k + -16).toNat (List.take k.toNat C)) 0 (0 + ((16 : Nat) : Int)) = prt C (k - 16) k := by
 rw [Int.zero_add, prt_all (by rw [List.length_drop, List.length_take]; omega)]
 rfl

abbrev txGc0 : E := (.bi .sel (.var 2) (.bi .add (.var 4) (.var 0)))
abbrev txGc1 : E := (.bi .pair (.bi .add (.var 4) (.var 5)) (.int 0))
abbrev txGc2 : E := (.bi .pair (.bi .add (.var 1) (.var 2)) (.int 0))
abbrev txGc3 : E := (.bi .pair (.var 4) (.bi .pair (.var 1) (.int 0)))
abbrev txGc4 : E := (.bi .pair (.var 4) (.bi .pair (.var 3) (.int 0)))
abbrev txGc5 : E := (.bi .add (.var 5) (.un .len (.bi .sel (.var 4) (.var 1))))
abbrev txGc6 : E := (.tr .cut (.bi .sel (.var 4) (.var 1)) (.bi .add (.var 0) (.int (-16))) (.var 0))
abbrev txGc7 : E := (.bi .pair (.bi .add (.var 4) (.var 0)) txGc1)
abbrev txGc8 : E := (.bi (.iop .add .u32) (.bi (.iop .mul .u32) (.int 2) txGc0) (.int 1))
abbrev txGc9 : E := (.bi .pair (.var 1) (.bi .pair (.var 2) txGc7))
abbrev txGc10 : E := (.bi (.iop .mul .u32) txGc8 (.int 2654435761))
abbrev txGc11 : E := (.bi (.iop .add .u32) (.bi (.iop .mul .u32) (.int 3) (.var 1)) txGc10)
def rsumL : LSpec := { n := 17, next := 2, pat := [(8, .sint .i64 (.var 0)), (3, .sint .u32 (.var 1)), (6, .sslice 3 (.var 4) (.var 5) (.var 6) false), (7, .sint .i64 (.var 5))], rows := [(3, .eseq ⟨.u8, .var 3, .var 2⟩)], pre := [(.le (.int 0) (.var 0), true), (.le (.var 0) (.var 5), true), (.le (.bi .add (.var 4) (.var 5)) (.var 3), true), (.le (.var 5) (.int 1000000), true)], x := 0, fin := [(3, .sint .u32 (.fn 1 (argsE [.var 1, .var 2, .bi .add (.var 4) (.var 0), .bi .add (.var 4) (.var 5)])))], frows := [], same := [], chg := [3, 5, 6, 7, 8, 9, 10, 11, 12, 13, 14, 15] }
abbrev asGc0 : Q × Bool := ((.le (.var 5) (.var 0)), false)
abbrev asGc1 : Q × Bool := ((.le (.int 0) (.var 0)), true)
abbrev asGc2 : Q × Bool := ((.le (.int 0) (.bi .add (.var 4) (.var 0))), true)
abbrev asGc3 : Q × Bool := ((.le (.var 3) (.bi .add (.var 4) (.var 0))), false)
abbrev asGc4 : Q × Bool := ((.fit .i64 (.bi .add (.var 0) (.int 1))), true)
def rsumL_t0 : List (Q × Bool) := [asGc0, asGc1, asGc2, asGc3, asGc4]
def rsumL_d0 : List Duty := [(true, (.fn 1 (.bi .pair txGc11 (.bi .pair (.var 2) (.bi .pair (.bi .add (.var 4) (.bi .add (.var 0) (.int 1))) txGc1)))), (.fn 1 txGc9))]
def rsumL_h0 : List (Nat × E) := [(3, (.var 3)), (2, (.var 2)), (4, (.var 4)), (5, (.var 5)), (6, (.var 6)), (1, txGc11), (0, (.bi .add (.var 0) (.int 1)))]
theorem rsumL_h0_0 : lookE rsumL_h0 0 = (.bi .add (.var 0) (.int 1)) := rfl
theorem rsumL_h0_1 : lookE rsumL_h0 1 = txGc11 := rfl
theorem rsumL_h0_2 : lookE rsumL_h0 2 = (.var 2) := rfl
theorem rsumL_h0_3 : lookE rsumL_h0 3 = (.var 3) := rfl
theorem rsumL_h0_4 : lookE rsumL_h0 4 = (.var 4) := rfl
theorem rsumL_h0_5 : lookE rsumL_h0 5 = (.var 5) := rfl
theorem rsumL_h0_6 : lookE rsumL_h0 6 = (.var 6) := rfl
theorem rsumL_y0 : nextD rsumL rsumL_h0 [(3, 3)] (roundC Try.prog [⟨32, [4, 1], gA00⟩, ⟨32, [4, 1], gA10⟩, ⟨32, [4, 1], gB00⟩, ⟨32, [4, 1], gB01⟩, ⟨32, [4, 1], gB10⟩, ⟨32, [4, 1], gB11⟩, ⟨32, [4, 1], gC00⟩, ⟨32, [4, 1], gC01⟩, ⟨32, [4, 1], gC10⟩, ⟨32, [4, 1], gC11⟩] [(7, splitY)] [] 3000 40 10 [4, 1, 0, 1, 1] (tellA rsumL_t0) rsumL) = some rsumL_d0 := by kernel_rfl
abbrev asGc5 : Q × Bool := ((.le (.var 5) (.var 0)), true)
def rsumL_t1 : List (Q × Bool) := [asGc5]
def rsumL_d1 : List Duty := [(true, (.var 1), (.fn 1 txGc9))]
theorem rsumL_y1 : endD rsumL [(3, 3)] 1000 (roundC Try.prog [⟨32, [4, 1], gA00⟩, ⟨32, [4, 1], gA10⟩, ⟨32, [4, 1], gB00⟩, ⟨32, [4, 1], gB01⟩, ⟨32, [4, 1], gB10⟩, ⟨32, [4, 1], gB11⟩, ⟨32, [4, 1], gC00⟩, ⟨32, [4, 1], gC01⟩, ⟨32, [4, 1], gC10⟩, ⟨32, [4, 1], gC11⟩] [(7, splitY)] [] 3000 40 10 [4, 1, 0, 1, 1] (tellA rsumL_t1) rsumL) = some rsumL_d1 := by kernel_rfl
theorem rsumL_holds : LHolds Try.prog (loopAt Try.prog 10 [4, 1, 0, 1, 1]) rsumL F := by
 refine loop_roundsC sound (tableCons gA00_holds (tableCons gA10_holds (tableCons gB00_holds (tableCons gB01_holds (tableCons gB10_holds (tableCons gB11_holds (tableCons gC00_holds (tableCons gC01_holds (tableCons gC10_holds (tableCons gC11_holds (tableNil _ _))))))))))) (specsCons splitY_holds (specsNil _ _)) (oversNil _ _) (fuel := 3000) (depth := 40) (by kernel_rfl) (by kernel_rfl) (by kernel_rfl) (fun d => ((d 5).toInt - (d 0).toInt).toNat) fun d hp hR hA => ?_
 have hp := allTold'_iff.2 hp
 simp only [rsumL, tl] at hp hR hA
 by_cases h : (d 5).toInt ≤ (d 0).toInt
 ·refine ⟨tellA rsumL_t1, tellA_ok (allTold'_iff.1 ?_), .inl ⟨_, _, _, rsumL_y1, dutiesTold_ok ?_⟩⟩
  ·simp only [rsumL_t1, tl]
   omega
  ·simp only [rsumL_d1, F1, tl]
   rw [prt_nil (by omega) (by omega)]
   rfl
 ·refine ⟨tellA rsumL_t0, tellA_ok (allTold'_iff.1 ?_), .inr ⟨rsumL_h0, _, _, rsumL_y0, dutiesTold_ok ?_, allTold'_iff.1 ?_, ?_⟩⟩
  ·simp only [rsumL_t0, tl]
   omega
  ·simp only [rsumL_d0, F1, tl]
   rw [prt_step (x := (d 2).ints) (o := (d 4).toInt + (d 0).toInt) (by omega) (by omega) (by omega), Int.add_assoc]
   rfl
  ·simp only [rsumL, rsumL_h0_0, rsumL_h0_1, rsumL_h0_2, rsumL_h0_3, rsumL_h0_4, rsumL_h0_5, rsumL_h0_6, tl]
   omega
  ·simp only [rsumL_h0_0, rsumL_h0_1, rsumL_h0_2, rsumL_h0_3, rsumL_h0_4, rsumL_h0_5, rsumL_h0_6, tl]
   omega

def rsumLO : LSpec := { n := 17, next := 2, pat := [(8, .sint .i64 (.var 0)), (3, .sint .u32 (.var 1)), (6, .sslice 3 (.var 4) (.var 5) (.var 6) true), (7, .sint .i64 (.var 5))], rows := [(3, .eseq ⟨.u8, .var 3, .var 2⟩)], pre := [(.le (.int 0) (.var 0), true), (.le (.var 0) (.var 5), true), (.le (.bi .add (.var 4) (.var 5)) (.var 3), true), (.le (.var 5) (.int 1000000), true)], x := 0, fin := [(3, .sint .u32 (.fn 1 (argsE [.var 1, .var 2, .bi .add (.var 4) (.var 0), .bi .add (.var 4) (.var 5)])))], frows := [], same := [], chg := [3, 5, 6, 7, 8, 9, 10, 11, 12, 13, 14, 15] }
def rsumLO_t0 : List (Q × Bool) := [asGc0, asGc1, asGc2, asGc3, asGc4]
def rsumLO_d0 : List Duty := [(true, (.fn 1 (.bi .pair txGc11 (.bi .pair (.var 2) (.bi .pair (.bi .add (.var 4) (.bi .add (.var 0) (.int 1))) txGc1)))), (.fn 1 txGc9))]
def rsumLO_h0 : List (Nat × E) := [(3, (.var 3)), (2, (.var 2)), (4, (.var 4)), (5, (.var 5)), (6, (.var 6)), (1, txGc11), (0, (.bi .add (.var 0) (.int 1)))]
theorem rsumLO_h0_0 : lookE rsumLO_h0 0 = (.bi .add (.var 0) (.int 1)) := rfl
theorem rsumLO_h0_1 : lookE rsumLO_h0 1 = txGc11 := rfl
theorem rsumLO_h0_2 : lookE rsumLO_h0 2 = (.var 2) := rfl
theorem rsumLO_h0_3 : lookE rsumLO_h0 3 = (.var 3) := rfl
theorem rsumLO_h0_4 : lookE rsumLO_h0 4 = (.var 4) := rfl
theorem rsumLO_h0_5 : lookE rsumLO_h0 5 = (.var 5) := rfl
theorem rsumLO_h0_6 : lookE rsumLO_h0 6 = (.var 6) := rfl
theorem rsumLO_y0 : nextD rsumLO rsumLO_h0 [(3, 3)] (roundC Try.prog [⟨32, [4, 1], gA00⟩, ⟨32, [4, 1], gA10⟩, ⟨32, [4, 1], gB00⟩, ⟨32, [4, 1], gB01⟩, ⟨32, [4, 1], gB10⟩, ⟨32, [4, 1], gB11⟩, ⟨32, [4, 1], gC00⟩, ⟨32, [4, 1], gC01⟩, ⟨32, [4, 1], gC10⟩, ⟨32, [4, 1], gC11⟩, ⟨10, [4, 1, 0, 1, 1], rsumL⟩] [(7, splitY)] [] 3000 40 10 [4, 1, 0, 1, 1] (tellA rsumLO_t0) rsumLO) = some rsumLO_d0 := by kernel_rfl
def rsumLO_t1 : List (Q × Bool) := [asGc5]
def rsumLO_d1 : List Duty := [(true, (.var 1), (.fn 1 txGc9))]
theorem rsumLO_y1 : endD rsumLO [(3, 3)] 1000 (roundC Try.prog [⟨32, [4, 1], gA00⟩, ⟨32, [4, 1], gA10⟩, ⟨32, [4, 1], gB00⟩, ⟨32, [4, 1], gB01⟩, ⟨32, [4, 1], gB10⟩, ⟨32, [4, 1], gB11⟩, ⟨32, [4, 1], gC00⟩, ⟨32, [4, 1], gC01⟩, ⟨32, [4, 1], gC10⟩, ⟨32, [4, 1], gC11⟩, ⟨10, [4, 1, 0, 1, 1], rsumL⟩] [(7, splitY)] [] 3000 40 10 [4, 1, 0, 1, 1] (tellA rsumLO_t1) rsumLO) = some rsumLO_d1 := by kernel_rfl
theorem rsumLO_holds : LHolds Try.prog (loopAt Try.prog 10 [4, 1, 0, 1, 1]) rsumLO F := by
 refine loop_roundsC sound (tableCons gA00_holds (tableCons gA10_holds (tableCons gB00_holds (tableCons gB01_holds (tableCons gB10_holds (tableCons gB11_holds (tableCons gC00_holds (tableCons gC01_holds (tableCons gC10_holds (tableCons gC11_holds (tableCons rsumL_holds (tableNil _ _)))))))))))) (specsCons splitY_holds (specsNil _ _)) (oversNil _ _) (fuel := 3000) (depth := 40) (by kernel_rfl) (by kernel_rfl) (by kernel_rfl) (fun d => ((d 5).toInt - (d 0).toInt).toNat) fun d hp hR hA => ?_
 have hp := allTold'_iff.2 hp
 simp only [rsumLO, tl] at hp hR hA
 by_cases h : (d 5).toInt ≤ (d 0).toInt
 ·refine ⟨tellA rsumLO_t1, tellA_ok (allTold'_iff.1 ?_), .inl ⟨_, _, _, rsumLO_y1, dutiesTold_ok ?_⟩⟩
  ·simp only [rsumLO_t1, tl]
   omega
  ·simp only [rsumLO_d1, F1, tl]
   rw [prt_nil (by omega) (by omega)]
   rfl
 ·refine ⟨tellA rsumLO_t0, tellA_ok (allTold'_iff.1 ?_), .inr ⟨rsumLO_h0, _, _, rsumLO_y0, dutiesTold_ok ?_, allTold'_iff.1 ?_, ?_⟩⟩
  ·simp only [rsumLO_t0, tl]
   omega
  ·simp only [rsumLO_d0, F1, tl]
   rw [prt_step (x := (d 2).ints) (o := (d 4).toInt + (d 0).toInt) (by omega) (by omega) (by omega), Int.add_assoc]
   rfl
  ·simp only [rsumLO, rsumLO_h0_0, rsumLO_h0_1, rsumLO_h0_2, rsumLO_h0_3, rsumLO_h0_4, rsumLO_h0_5, rsumLO_h0_6, tl]
   omega
  ·simp only [rsumLO_h0_0, rsumLO_h0_1, rsumLO_h0_2, rsumLO_h0_3, rsumLO_h0_4, rsumLO_h0_5, rsumLO_h0_6, tl]
   omega

def rsumC : CSpec := { args := [.sslice 3 (.var 1) (.var 2) (.var 3) false], next := 2, rows := [(3, .eseq ⟨.u8, .var 4, .var 5⟩)], pre := [(.le (.bi .add (.var 1) (.var 2)) (.var 4), true), (.le (.var 2) (.int 1000000), true)], res := .sint .u32 (.fn 2 (argsE [.var 5, .var 1, .bi .add (.var 1) (.var 2)])), frows := [], same := [] }
abbrev asGc6 : Q × Bool := ((.fit .i64 (.var 2)), true)
abbrev asGc7 : Q × Bool := ((.le (.int 0) (.var 2)), true)
abbrev asGc8 : Q × Bool := ((.le (.bi .add (.var 1) (.var 2)) (.var 4)), true)
abbrev asGc9 : Q × Bool := ((.le (.var 2) (.int 1000000)), true)
def rsumC_t0 : List (Q × Bool) := [asGc6, asGc7, asGc8, asGc9]
def rsumC_d0 : List Duty := [(true, (.fn 1 (.bi .pair (.int 0) (.bi .pair (.var 5) (.bi .pair (.bi .add (.var 1) (.int 0)) txGc2)))), (.fn 2 (.bi .pair (.var 5) (.bi .pair (.var 1) txGc2))))]
theorem rsumC_y0 : endC rsumC [] 1000 (callC Try.prog (tellA rsumC_t0) [⟨10, [4, 1, 0, 1, 1], rsumL⟩, ⟨10, [4, 1, 0, 1, 1], rsumLO⟩] [] [] 3000 40 10 rsumC) = some rsumC_d0 := by kernel_rfl
theorem rsumC_holds : CHolds Try.prog 10 rsumC F := by
 refine cholds_of sound (tableCons rsumL_holds (tableCons rsumLO_holds (tableNil _ _))) (specsNil _ _) (oversNil _ _) (fuel := 3000) (depth := 40) (by kernel_rfl) fun d hp hR hA => ?_
 have hp := allTold'_iff.2 hp
 simp only [rsumC, tl] at hp hR hA
 refine ⟨tellA rsumC_t0, _, _, _, tellA_ok (allTold'_iff.1 ?_), rsumC_y0, dutiesTold_ok ?_⟩
 ·simp only [rsumC_t0, tl]
  omega
 ·simp only [rsumC_d0, F1, F2, Int.add_zero, tl]
  try rfl

def rsumCO : CSpec := { args := [.sslice 3 (.var 1) (.var 2) (.var 3) true], next := 2, rows := [(3, .eseq ⟨.u8, .var 4, .var 5⟩)], pre := [(.le (.bi .add (.var 1) (.var 2)) (.var 4), true), (.le (.var 2) (.int 1000000), true)], res := .sint .u32 (.fn 2 (argsE [.var 5, .var 1, .bi .add (.var 1) (.var 2)])), frows := [], same := [] }
def rsumCO_t0 : List (Q × Bool) := [asGc6, asGc7, asGc8, asGc9]
def rsumCO_d0 : List Duty := [(true, (.fn 1 (.bi .pair (.int 0) (.bi .pair (.var 5) (.bi .pair (.bi .add (.var 1) (.int 0)) txGc2)))), (.fn 2 (.bi .pair (.var 5) (.bi .pair (.var 1) txGc2))))]
theorem rsumCO_y0 : endC rsumCO [] 1000 (callC Try.prog (tellA rsumCO_t0) [⟨10, [4, 1, 0, 1, 1], rsumL⟩, ⟨10, [4, 1, 0, 1, 1], rsumLO⟩] [] [] 3000 40 10 rsumCO) = some rsumCO_d0 := by kernel_rfl
theorem rsumCO_holds : CHolds Try.prog 10 rsumCO F := by
 refine cholds_of sound (tableCons rsumL_holds (tableCons rsumLO_holds (tableNil _ _))) (specsNil _ _) (oversNil _ _) (fuel := 3000) (depth := 40) (by kernel_rfl) fun d hp hR hA => ?_
 have hp := allTold'_iff.2 hp
 simp only [rsumCO, tl] at hp hR hA
 refine ⟨tellA rsumCO_t0, _, _, _, tellA_ok (allTold'_iff.1 ?_), rsumCO_y0, dutiesTold_ok ?_⟩
 ·simp only [rsumCO_t0, tl]
  omega
 ·simp only [rsumCO_d0, F1, F2, Int.add_zero, tl]
  try rfl

def innL : LSpec := { n := 92, next := 1, pat := [(4, .vslice 1 1 (.int 0) (.var 3) (.var 3) true), (5, .sint .i64 (.var 1)), (6, .sint .i64 (.var 2)), (7, .sint .i64 (.var 0))], rows := [(1, .vseq ⟨22, (.sl (.int .u8)), .var 3, .var 4, true⟩)], pre := [(.le (.int 64) (.var 0), true), (.le (.int 0) (.var 1), true), (.le (.bi .add (.var 1) (.int 1)) (.var 3), true), (.le (.var 3) (.int 20001), true), (.le (.int 1) (.var 2), true), (.le (.var 2) (.int 1024), true), (.eq (.var 2) (.un .len (.bi .sel (.var 4) (.var 1))), true), (.eq (.fn 36 (.bi .pair (.bi .sel (.var 4) (.var 1)) (.bi .pair (.bi .sub (.var 3) (.var 1)) (.int 0)))) (.int 1), true)], x := 2, fin := [(4, .vslice 1 1 (.int 0) (.var 3) (.var 3) true), (5, .sint .i64 (.var 1))], frows := [(1, .vseq ⟨22, (.sl (.int .u8)), .var 3, .var 4, true⟩)], same := [1], chg := [4, 5, 6, 7, 8, 49, 50, 51, 52, 53, 54, 55, 56, 57, 58, 59, 60, 61, 62, 63, 64, 65, 66, 67, 68, 69, 70, 71, 72, 73, 74, 75, 76, 77, 78, 79, 80, 81, 82, 83, 84, 85, 86, 87, 88, 89, 90] }
abbrev asGc10 : Q × Bool := ((.le (.var 0) (.var 2)), false)
def innL_t0 : List (Q × Bool) := [asGc10]
def innL_d0 : List Duty := []
theorem innL_y0 : endD innL [(1, 1)] 1000 (roundC Try.prog [] [(10, rsumC), (10, rsumCO)] [] 3000 40 3 [4, 1, 1, 1, 4, 0, 1, 5, 4, 1, 0, 1, 1, 1, 1, 1] (tellA innL_t0) innL) = some innL_d0 := by kernel_rfl
abbrev asGc11 : Q × Bool := ((.le (.var 0) (.var 2)), true)
abbrev asGc12 : Q × Bool := ((.le (.int 0) (.var 1)), true)
abbrev asGc13 : Q × Bool := ((.le (.var 3) (.var 1)), false)
abbrev asGc14 : Q × Bool := ((.fit .i64 (.bi .add (.var 0) (.int (-16)))), true)
abbrev asGc15 : Q × Bool := ((.le (.int 0) (.bi .add (.var 0) (.int (-16)))), true)
abbrev asGc16 : Q × Bool := ((.le (.bi .add (.var 0) (.int (-16))) (.var 0)), true)
abbrev asGc17 : Q × Bool := ((.le (.var 0) (.un .len (.bi .sel (.var 4) (.var 1)))), true)
abbrev asGc18 : Q × Bool := ((.le (.int 1) (.un .len txGc6)), true)
abbrev asGc19 : Q × Bool := ((.le (.bi .add (.int 0) (.un .len txGc6)) (.un .len txGc6)), true)
abbrev asGc20 : Q × Bool := ((.le (.un .len txGc6) (.int 1000000)), true)
abbrev asGc21 : Q × Bool := ((.eq (.bi (.iop .shr .u32) (.fn 2 (.bi .pair txGc6 (.bi .pair (.int 0) (.bi .pair (.bi .add (.int 0) (.un .len txGc6)) (.int 0))))) (.int 24)) (.int 0)), false)
abbrev asGc22 : Q × Bool := ((.eq (.var 0) (.var 2)), false)
def innL_t1 : List (Q × Bool) := [asGc11, asGc12, asGc13, asGc14, asGc15, asGc16, asGc17, asGc18, asGc19, asGc20, asGc21, asGc22, asGc4]
def innL_d1 : List Duty := []
def innL_h1 : List (Nat × E) := [(4, (.var 4)), (0, (.bi .add (.var 0) (.int 1))), (2, (.var 2)), (1, (.var 1)), (3, (.var 3))]
theorem innL_h1_0 : lookE innL_h1 0 = (.bi .add (.var 0) (.int 1)) := rfl
theorem innL_h1_1 : lookE innL_h1 1 = (.var 1) := rfl
theorem innL_h1_2 : lookE innL_h1 2 = (.var 2) := rfl
theorem innL_h1_3 : lookE innL_h1 3 = (.var 3) := rfl
theorem innL_h1_4 : lookE innL_h1 4 = (.var 4) := rfl
theorem innL_y1 : nextD innL innL_h1 [(1, 1)] (roundC Try.prog [] [(10, rsumC), (10, rsumCO)] [] 3000 40 3 [4, 1, 1, 1, 4, 0, 1, 5, 4, 1, 0, 1, 1, 1, 1, 1] (tellA innL_t1) innL) = some innL_d1 := by kernel_rfl
abbrev asGc23 : Q × Bool := ((.eq (.bi (.iop .shr .u32) (.fn 2 (.bi .pair txGc6 (.bi .pair (.int 0) (.bi .pair (.bi .add (.int 0) (.un .len txGc6)) (.int 0))))) (.int 24)) (.int 0)), true)
abbrev asGc24 : Q × Bool := ((.le (.var 2) (.var 0)), true)
abbrev asGc25 : Q × Bool := ((.eq (.var 0) (.var 2)), true)
abbrev asGc26 : Q × Bool := ((.fit .i64 (.var 3)), true)
abbrev asGc27 : Q × Bool := ((.fit .i64 (.bi .add (.var 3) (.int (-1)))), true)
abbrev asGc28 : Q × Bool := ((.le (.bi .add (.var 3) (.int (-1))) (.var 1)), false)
def innL_t2 : List (Q × Bool) := [asGc11, asGc12, asGc13, asGc14, asGc15, asGc16, asGc17, asGc18, asGc19, asGc20, asGc23, asGc24, asGc25, asGc26, asGc27, asGc28, asGc4]
def innL_d2 : List Duty := []
def innL_h2 : List (Nat × E) := [(4, (.var 4)), (0, (.bi .add (.var 0) (.int 1))), (2, (.var 2)), (1, (.var 1)), (3, (.var 3))]
theorem innL_h2_0 : lookE innL_h2 0 = (.bi .add (.var 0) (.int 1)) := rfl
theorem innL_h2_1 : lookE innL_h2 1 = (.var 1) := rfl
theorem innL_h2_2 : lookE innL_h2 2 = (.var 2) := rfl
theorem innL_h2_3 : lookE innL_h2 3 = (.var 3) := rfl
theorem innL_h2_4 : lookE innL_h2 4 = (.var 4) := rfl
theorem innL_y2 : nextD innL innL_h2 [(1, 1)] (roundC Try.prog [] [(10, rsumC), (10, rsumCO)] [] 3000 40 3 [4, 1, 1, 1, 4, 0, 1, 5, 4, 1, 0, 1, 1, 1, 1, 1] (tellA innL_t2) innL) = some innL_d2 := by kernel_rfl
abbrev asGc29 : Q × Bool := ((.le (.int 1024) (.var 2)), true)
def innL_t3 : List (Q × Bool) := [asGc11, asGc12, asGc13, asGc14, asGc15, asGc16, asGc17, asGc18, asGc19, asGc20, asGc21, asGc25, asGc26, asGc27, asGc28, asGc29, asGc4]
def innL_d3 : List Duty := []
def innL_h3 : List (Nat × E) := [(4, (.var 4)), (0, (.bi .add (.var 0) (.int 1))), (2, (.var 2)), (1, (.var 1)), (3, (.var 3))]
theorem innL_h3_0 : lookE innL_h3 0 = (.bi .add (.var 0) (.int 1)) := rfl
theorem innL_h3_1 : lookE innL_h3 1 = (.var 1) := rfl
theorem innL_h3_2 : lookE innL_h3 2 = (.var 2) := rfl
theorem innL_h3_3 : lookE innL_h3 3 = (.var 3) := rfl
theorem innL_h3_4 : lookE innL_h3 4 = (.var 4) := rfl
theorem innL_y3 : nextD innL innL_h3 [(1, 1)] (roundC Try.prog [] [(10, rsumC), (10, rsumCO)] [] 3000 40 3 [4, 1, 1, 1, 4, 0, 1, 5, 4, 1, 0, 1, 1, 1, 1, 1] (tellA innL_t3) innL) = some innL_d3 := by kernel_rfl
abbrev asGc30 : Q × Bool := ((.le (.bi .add (.var 3) (.int (-1))) (.var 1)), true)
def innL_t4 : List (Q × Bool) := [asGc11, asGc12, asGc13, asGc14, asGc15, asGc16, asGc17, asGc18, asGc19, asGc20, asGc23, asGc24, asGc25, asGc26, asGc27, asGc30, asGc4]
def innL_d4 : List Duty := []
def innL_h4 : List (Nat × E) := [(4, (.var 4)), (0, (.bi .add (.var 0) (.int 1))), (2, (.var 2)), (1, (.var 1)), (3, (.var 3))]
theorem innL_h4_0 : lookE innL_h4 0 = (.bi .add (.var 0) (.int 1)) := rfl
theorem innL_h4_1 : lookE innL_h4 1 = (.var 1) := rfl
theorem innL_h4_2 : lookE innL_h4 2 = (.var 2) := rfl
theorem innL_h4_3 : lookE innL_h4 3 = (.var 3) := rfl
theorem innL_h4_4 : lookE innL_h4 4 = (.var 4) := rfl
theorem innL_y4 : nextD innL innL_h4 [(1, 1)] (roundC Try.prog [] [(10, rsumC), (10, rsumCO)] [] 3000 40 3 [4, 1, 1, 1, 4, 0, 1, 5, 4, 1, 0, 1, 1, 1, 1, 1] (tellA innL_t4) innL) = some innL_d4 := by kernel_rfl
def innL_t5 : List (Q × Bool) := [asGc11, asGc12, asGc13, asGc14, asGc15, asGc16, asGc17, asGc18, asGc19, asGc20, asGc21, asGc25, asGc26, asGc27, asGc30, asGc4]
def innL_d5 : List Duty := []
def innL_h5 : List (Nat × E) := [(4, (.var 4)), (0, (.bi .add (.var 0) (.int 1))), (2, (.var 2)), (1, (.var 1)), (3, (.var 3))]
theorem innL_h5_0 : lookE innL_h5 0 = (.bi .add (.var 0) (.int 1)) := rfl
theorem innL_h5_1 : lookE innL_h5 1 = (.var 1) := rfl
theorem innL_h5_2 : lookE innL_h5 2 = (.var 2) := rfl
theorem innL_h5_3 : lookE innL_h5 3 = (.var 3) := rfl
theorem innL_h5_4 : lookE innL_h5 4 = (.var 4) := rfl
theorem innL_y5 : nextD innL innL_h5 [(1, 1)] (roundC Try.prog [] [(10, rsumC), (10, rsumCO)] [] 3000 40 3 [4, 1, 1, 1, 4, 0, 1, 5, 4, 1, 0, 1, 1, 1, 1, 1] (tellA innL_t5) innL) = some innL_d5 := by kernel_rfl
theorem innL_holds : LHolds Try.prog (loopAt Try.prog 3 [4, 1, 1, 1, 4, 0, 1, 5, 4, 1, 0, 1, 1, 1, 1, 1]) innL F := by
 refine loop_roundsC sound (tableNil _ _) (specsCons rsumC_holds (specsCons rsumCO_holds (specsNil _ _))) (oversNil _ _) (fuel := 3000) (depth := 40) (by kernel_rfl) (by kernel_rfl) (by kernel_rfl) (fun d => ((d 2).toInt + 1 - (d 0).toInt).toNat) fun d hp hR hA => ?_
 have hp := allTold'_iff.2 hp
 simp only [innL, tl] at hp hR hA
 simp only [F36, D.toInt_int] at hp
 obtain ⟨p0, p1, p2, p3, p4, p5, p6, p7⟩ := hp
 have p7 := one_of p7
 obtain ⟨⟨f1, f2⟩, f3, f4⟩ := fit_of p7
 have h4 : (d 4).ints.length = (d 4).toList.length := List.length_map ..
 have hc : ((d 4).toList[(d 1).toInt.toNat]?.getD (D.int 0)).ints.length = ((d 4).toList[(d 1).toInt.toNat]?.getD (D.int 0)).toList.length := List.length_map ..
 by_cases h : (d 2).toInt < (d 0).toInt
 ·refine ⟨tellA innL_t0, tellA_ok (allTold'_iff.1 ?_), .inl ⟨_, _, _, innL_y0, dutiesTold_ok ?_⟩⟩
  ·simp only [innL_t0, F2, F36, tl]
   and_intros <;> first | omega | exact one_to p7 | assumption | rfl
  ·simp only [innL_d0, F2, F36, tl]
 have hk := cut_low ((d 4).toList[(d 1).toInt.toNat]?.getD (D.int 0)).ints (k := (d 0).toInt) (by omega) (by omega)
 have hi := sum_in (prt ((d 4).toList[(d 1).toInt.toNat]?.getD (D.int 0)).ints ((d 0).toInt - 16) (d 0).toInt) 0 (by omega)
 have hs := shr_low hi.1 hi.2
 have hl : (List.drop ((d 0).toInt + -16).toNat (List.take (d 0).toInt.toNat ((d 4).toList[(d 1).toInt.toNat]?.getD (D.int 0)).toList)).length = 16 := by rw [List.length_drop, List.length_take]; omega
 by_cases e : (d 0).toInt = (d 2).toInt
 ·have e2 : (d 0).toInt = (((d 4).toList[(d 1).toInt.toNat]?.getD (D.int 0)).ints.length : Nat) := by omega
  by_cases la : (d 3).toInt - (d 1).toInt = 1
  ·by_cases w : sumN 0 (prt ((d 4).toList[(d 1).toInt.toNat]?.getD (D.int 0)).ints ((d 0).toInt - 16) (d 0).toInt) < 16777216
   ·refine ⟨tellA innL_t4, tellA_ok (allTold'_iff.1 ?_), .inr ⟨innL_h4, _, _, innL_y4, dutiesTold_ok ?_, allTold'_iff.1 ?_, ?_⟩⟩
    ·simp only [innL_t4, F2, F36, hl, hk, hs, tl]
     and_intros <;> first | omega | exact one_to p7 | assumption | rfl
    ·simp only [innL_d4, F2, F36, hl, hk, hs, tl]
    ·simp only [innL, innL_h4_0, innL_h4_1, innL_h4_2, innL_h4_3, innL_h4_4, F2, F36, hl, hk, hs, tl]
     and_intros <;> first | omega | exact one_to p7 | assumption | rfl
    ·simp only [innL_h4_0, innL_h4_1, innL_h4_2, innL_h4_3, innL_h4_4, tl]
     omega
   refine ⟨tellA innL_t5, tellA_ok (allTold'_iff.1 ?_), .inr ⟨innL_h5, _, _, innL_y5, dutiesTold_ok ?_, allTold'_iff.1 ?_, ?_⟩⟩
   ·simp only [innL_t5, F2, F36, hl, hk, hs, tl]
    and_intros <;> first | omega | exact one_to p7 | assumption | rfl
   ·simp only [innL_d5, F2, F36, hl, hk, hs, tl]
   ·simp only [innL, innL_h5_0, innL_h5_1, innL_h5_2, innL_h5_3, innL_h5_4, F2, F36, hl, hk, hs, tl]
    and_intros <;> first | omega | exact one_to p7 | assumption | rfl
   ·simp only [innL_h5_0, innL_h5_1, innL_h5_2, innL_h5_3, innL_h5_4, tl]
    omega
  have f3 := f3.resolve_left (fun g => la (of_decide_eq_true g))
  rw [← e2] at f3
  by_cases w : sumN 0 (prt ((d 4).toList[(d 1).toInt.toNat]?.getD (D.int 0)).ints ((d 0).toInt - 16) (d 0).toInt) < 16777216
  ·refine ⟨tellA innL_t2, tellA_ok (allTold'_iff.1 ?_), .inr ⟨innL_h2, _, _, innL_y2, dutiesTold_ok ?_, allTold'_iff.1 ?_, ?_⟩⟩
   ·simp only [innL_t2, F2, F36, hl, hk, hs, tl]
    and_intros <;> first | omega | exact one_to p7 | assumption | rfl
   ·simp only [innL_d2, F2, F36, hl, hk, hs, tl]
   ·simp only [innL, innL_h2_0, innL_h2_1, innL_h2_2, innL_h2_3, innL_h2_4, F2, F36, hl, hk, hs, tl]
    and_intros <;> first | omega | exact one_to p7 | assumption | rfl
   ·simp only [innL_h2_0, innL_h2_1, innL_h2_2, innL_h2_3, innL_h2_4, tl]
    omega
  have w2 : (((d 4).toList[(d 1).toInt.toNat]?.getD (D.int 0)).ints.length : Int) = 1024 := by
   rcases f3.2 with g | g
   ·omega
   ·exact absurd (of_decide_eq_true g) w
  refine ⟨tellA innL_t3, tellA_ok (allTold'_iff.1 ?_), .inr ⟨innL_h3, _, _, innL_y3, dutiesTold_ok ?_, allTold'_iff.1 ?_, ?_⟩⟩
  ·simp only [innL_t3, F2, F36, hl, hk, hs, tl]
   and_intros <;> first | omega | exact one_to p7 | assumption | rfl
  ·simp only [innL_d3, F2, F36, hl, hk, hs, tl]
  ·simp only [innL, innL_h3_0, innL_h3_1, innL_h3_2, innL_h3_3, innL_h3_4, F2, F36, hl, hk, hs, tl]
   and_intros <;> first | omega | exact one_to p7 | assumption | rfl
  ·simp only [innL_h3_0, innL_h3_1, innL_h3_2, innL_h3_3, innL_h3_4, tl]
   omega
 have hn : ¬ sumN 0 (prt ((d 4).toList[(d 1).toInt.toNat]?.getD (D.int 0)).ints ((d 0).toInt - 16) (d 0).toInt) < 16777216 := by
  have := f4 (d 0).toInt.toNat (by omega) (by omega)
  rw [show ((d 0).toInt.toNat : Int) = (d 0).toInt by omega] at this
  exact of_decide_eq_false this
 refine ⟨tellA innL_t1, tellA_ok (allTold'_iff.1 ?_), .inr ⟨innL_h1, _, _, innL_y1, dutiesTold_ok ?_, allTold'_iff.1 ?_, ?_⟩⟩
 ·simp only [innL_t1, F2, F36, hl, hk, hs, tl]
  and_intros <;> first | omega | exact one_to p7 | assumption | rfl
 ·simp only [innL_d1, F2, F36, hl, hk, hs, tl]
 ·simp only [innL, innL_h1_0, innL_h1_1, innL_h1_2, innL_h1_3, innL_h1_4, F2, F36, hl, hk, hs, tl]
  and_intros <;> first | omega | exact one_to p7 | assumption | rfl
 ·simp only [innL_h1_0, innL_h1_1, innL_h1_2, innL_h1_3, innL_h1_4, tl]
  omega

def outL : LSpec := { n := 92, next := 1, pat := [(4, .vslice 1 1 (.int 0) (.var 3) (.var 3) true), (5, .sint .i64 (.var 1))], rows := [(1, .vseq ⟨22, (.sl (.int .u8)), .var 3, .var 4, true⟩)], pre := [(.le (.int 0) (.var 1), true), (.le (.var 1) (.var 3), true), (.le (.var 3) (.int 20001), true), (.eq (.fn 35 txGc3) (.int 1), true)], x := 0, fin := [], frows := [], same := [], chg := [4, 5, 6, 7, 8, 21, 22, 23, 24, 25, 26, 27, 28, 29, 30, 31, 32, 33, 34, 35, 36, 37, 38, 39, 40, 41, 42, 43, 44, 45, 46, 47, 48, 49, 50, 51, 52, 53, 54, 55, 56, 57, 58, 59, 60, 61, 62, 63, 64, 65, 66, 67, 68, 69, 70, 71, 72, 73, 74, 75, 76, 77, 78, 79, 80, 81, 82, 83, 84, 85, 86, 87, 88, 89, 90] }
abbrev asGc31 : Q × Bool := ((.le (.var 3) (.var 1)), true)
def outL_t0 : List (Q × Bool) := [asGc26, asGc31]
def outL_d0 : List Duty := []
theorem outL_y0 : endD outL [(1, 1)] 1000 (roundC Try.prog [⟨3, [4, 1, 1, 1, 4, 0, 1, 5, 4, 1, 0, 1, 1, 1, 1, 1], innL⟩] [] [] 3000 40 3 [4, 1, 0, 1, 1, 1, 1, 1] (tellA outL_t0) outL) = some outL_d0 := by kernel_rfl
abbrev asGc32 : Q × Bool := ((.fit .i64 (.un .len (.bi .sel (.var 4) (.var 1)))), true)
abbrev asGc33 : Q × Bool := ((.le (.int 1) (.un .len (.bi .sel (.var 4) (.var 1)))), true)
abbrev asGc34 : Q × Bool := ((.le (.un .len (.bi .sel (.var 4) (.var 1))) (.int 1024)), true)
abbrev asGc35 : Q × Bool := ((.le (.bi .add (.var 1) (.int 1)) (.var 3)), true)
abbrev asGc36 : Q × Bool := ((.le (.var 3) (.int 20001)), true)
abbrev asGc37 : Q × Bool := ((.eq (.fn 36 (.bi .pair (.bi .sel (.var 4) (.var 1)) (.bi .pair (.bi .sub (.var 3) (.var 1)) (.int 0)))) (.int 1)), true)
abbrev asGc38 : Q × Bool := ((.fit .i64 (.bi .add (.var 1) (.int 1))), true)
def outL_t1 : List (Q × Bool) := [asGc26, asGc13, asGc12, asGc32, asGc33, asGc34, asGc27, asGc30, asGc35, asGc36, asGc37, asGc38]
def outL_d1 : List Duty := []
def outL_h1 : List (Nat × E) := [(4, (.var 4)), (1, (.bi .add (.var 1) (.int 1))), (3, (.var 3))]
theorem outL_h1_1 : lookE outL_h1 1 = (.bi .add (.var 1) (.int 1)) := rfl
theorem outL_h1_3 : lookE outL_h1 3 = (.var 3) := rfl
theorem outL_h1_4 : lookE outL_h1 4 = (.var 4) := rfl
theorem outL_y1 : nextD outL outL_h1 [(1, 1)] (roundC Try.prog [⟨3, [4, 1, 1, 1, 4, 0, 1, 5, 4, 1, 0, 1, 1, 1, 1, 1], innL⟩] [] [] 3000 40 3 [4, 1, 0, 1, 1, 1, 1, 1] (tellA outL_t1) outL) = some outL_d1 := by kernel_rfl
abbrev asGc39 : Q × Bool := ((.le (.int 64) (.un .len (.bi .sel (.var 4) (.var 1)))), true)
def outL_t2 : List (Q × Bool) := [asGc26, asGc13, asGc12, asGc32, asGc33, asGc34, asGc27, asGc28, asGc39, asGc35, asGc36, asGc37, asGc38]
def outL_d2 : List Duty := []
def outL_h2 : List (Nat × E) := [(4, (.var 4)), (1, (.bi .add (.var 1) (.int 1))), (3, (.var 3))]
theorem outL_h2_1 : lookE outL_h2 1 = (.bi .add (.var 1) (.int 1)) := rfl
theorem outL_h2_3 : lookE outL_h2 3 = (.var 3) := rfl
theorem outL_h2_4 : lookE outL_h2 4 = (.var 4) := rfl
theorem outL_y2 : nextD outL outL_h2 [(1, 1)] (roundC Try.prog [⟨3, [4, 1, 1, 1, 4, 0, 1, 5, 4, 1, 0, 1, 1, 1, 1, 1], innL⟩] [] [] 3000 40 3 [4, 1, 0, 1, 1, 1, 1, 1] (tellA outL_t2) outL) = some outL_d2 := by kernel_rfl
theorem outL_holds : LHolds Try.prog (loopAt Try.prog 3 [4, 1, 0, 1, 1, 1, 1, 1]) outL F := by
 refine loop_roundsC sound (tableCons innL_holds (tableNil _ _)) (specsNil _ _) (oversNil _ _) (fuel := 3000) (depth := 40) (by kernel_rfl) (by kernel_rfl) (by kernel_rfl) (fun d => ((d 3).toInt - (d 1).toInt).toNat) fun d hp hR hA => ?_
 have hp := allTold'_iff.2 hp
 simp only [outL, tl] at hp hR hA
 simp only [F35, D.toInt_int] at hp
 obtain ⟨p0, p1, p2, p3⟩ := hp
 have p3 := one_of p3
 have h4 : (d 4).ints.length = (d 4).toList.length := List.length_map ..
 by_cases h : (d 3).toInt ≤ (d 1).toInt
 ·refine ⟨tellA outL_t0, tellA_ok (allTold'_iff.1 ?_), .inl ⟨_, _, _, outL_y0, dutiesTold_ok ?_⟩⟩
  ·simp only [outL_t0, F35, F36, tl]
   and_intros <;> first | omega | exact one_to g1 | exact one_to g2
  ·simp only [outL_d0, tl]
 obtain ⟨g1, g2⟩ := fits_step (l := (d 4).toList) (i := (d 1).toInt) (by omega) (by omega) p3
 have e3 : ((d 4).toList.length : Int) = (d 3).toInt := by omega
 rw [e3] at g1
 obtain ⟨⟨f1, f2⟩, f3, _⟩ := fit_of g1
 have hc : ((d 4).toList[(d 1).toInt.toNat]?.getD (D.int 0)).ints.length = ((d 4).toList[(d 1).toInt.toNat]?.getD (D.int 0)).toList.length := List.length_map ..
 by_cases la : (d 3).toInt - (d 1).toInt = 1
 ·refine ⟨tellA outL_t1, tellA_ok (allTold'_iff.1 ?_), .inr ⟨outL_h1, _, _, outL_y1, dutiesTold_ok ?_, allTold'_iff.1 ?_, ?_⟩⟩
  ·simp only [outL_t1, F35, F36, tl]
   and_intros <;> first | omega | exact one_to g1 | exact one_to g2
  ·simp only [outL_d1, tl]
  ·simp only [outL, outL_h1_1, outL_h1_3, outL_h1_4, F35, F36, tl]
   and_intros <;> first | omega | exact one_to g2
  ·simp only [outL_h1_1, outL_h1_3, outL_h1_4, tl]
   omega
 have f3 := f3.resolve_left (fun g => la (of_decide_eq_true g))
 refine ⟨tellA outL_t2, tellA_ok (allTold'_iff.1 ?_), .inr ⟨outL_h2, _, _, outL_y2, dutiesTold_ok ?_, allTold'_iff.1 ?_, ?_⟩⟩
 ·simp only [outL_t2, F35, F36, tl]
  and_intros <;> first | omega | exact one_to g1 | exact one_to g2
 ·simp only [outL_d2, tl]
 ·simp only [outL, outL_h2_1, outL_h2_3, outL_h2_4, F35, F36, tl]
  and_intros <;> first | omega | exact one_to g2
 ·simp only [outL_h2_1, outL_h2_3, outL_h2_4, tl]
  omega

def togN : LSpec := { n := 18, next := 3, pat := [(0, .vslice 1 1 (.int 0) (.var 3) (.var 3) true), (3, .nilslice), (4, .sint .i64 (.var 1))], rows := [(1, .vseq ⟨22, (.sl (.int .u8)), .var 3, .var 4, true⟩)], pre := [(.le (.int 0) (.var 1), true), (.le (.var 1) (.var 3), true), (.le (.var 3) (.int 20001), true), (.eq (.fn 35 txGc3) (.int 1), true), (.le (.un .len (.fn 34 txGc4)) (.int 20000), true), (.eq (.var 1) (.int 0), true), (.le (.int 1) (.var 3), true)], x := 0, fin := [(3, .sslice 7 (.int 0) (.un .len (.fn 34 txGc4)) (.un .len (.fn 34 txGc4)) true)], frows := [(1, .vseq ⟨22, (.sl (.int .u8)), .var 3, .var 4, true⟩), (7, .seq ⟨5, .u8, .un .len (.fn 34 txGc4), .fn 34 txGc4, true, false⟩)], same := [1], chg := [0, 3, 4, 5, 6, 7, 8, 9, 10, 11, 12, 13, 14, 15, 16] }
def togR : LSpec := { n := 18, next := 3, pat := [(0, .vslice 1 1 (.int 0) (.var 3) (.var 3) true), (3, .sslice 5 (.int 0) (.var 5) (.var 5) true), (4, .sint .i64 (.var 1))], rows := [(1, .vseq ⟨22, (.sl (.int .u8)), .var 3, .var 4, true⟩), (5, .seq ⟨5, .u8, .var 5, .var 6, true, false⟩)], pre := [(.le (.int 0) (.var 1), true), (.le (.var 1) (.var 3), true), (.le (.var 3) (.int 20001), true), (.eq (.fn 35 txGc3) (.int 1), true), (.le (.un .len (.fn 34 txGc4)) (.int 20000), true), (.same (.var 6) (.fn 34 txGc3), true), (.le (.int 1) (.var 5), true)], x := 0, fin := [(3, .sslice 7 (.int 0) (.un .len (.fn 34 txGc4)) (.un .len (.fn 34 txGc4)) true)], frows := [(1, .vseq ⟨22, (.sl (.int .u8)), .var 3, .var 4, true⟩), (7, .seq ⟨5, .u8, .un .len (.fn 34 txGc4), .fn 34 txGc4, true, false⟩)], same := [1], chg := [0, 3, 4, 5, 6, 7, 8, 9, 10, 11, 12, 13, 14, 15, 16] }
def togM : Nat → LSpec
 | 0 => togN
 | _ => togR
abbrev asGc40 : Q × Bool := ((.eq (.un .len (.bi .sel (.var 4) (.var 1))) (.int 0)), false)
abbrev asGc41 : Q × Bool := ((.le (.bi .mul (.un .len (.bi .sel (.var 4) (.var 1))) (.int 2)) (.int 281474976710656)), true)
def togN_t0 : List (Q × Bool) := [asGc26, asGc13, asGc12, asGc40, asGc41, asGc38]
def togN_d0 : List Duty := []
def togN_h0 : List (Nat × E) := [(6, (.bi .sel (.var 4) (.var 1))), (4, (.var 4)), (1, (.bi .add (.var 1) (.int 1))), (5, (.un .len (.bi .sel (.var 4) (.var 1)))), (3, (.var 3))]
theorem togN_h0_1 : lookE togN_h0 1 = (.bi .add (.var 1) (.int 1)) := rfl
theorem togN_h0_3 : lookE togN_h0 3 = (.var 3) := rfl
theorem togN_h0_4 : lookE togN_h0 4 = (.var 4) := rfl
theorem togN_h0_5 : lookE togN_h0 5 = (.un .len (.bi .sel (.var 4) (.var 1))) := rfl
theorem togN_h0_6 : lookE togN_h0 6 = (.bi .sel (.var 4) (.var 1)) := rfl
theorem togN_y0 : nextJ (togM 0) (togM 1) togN_h0 [(5, 7), (1, 1)] (roundC Try.prog [] [] [] 3000 40 9 [4, 1, 0, 1, 1] (tellA togN_t0) (togM 0)) = some togN_d0 := by kernel_rfl
abbrev asGc42 : Q × Bool := ((.le (.bi .mul txGc5 (.int 2)) (.int 281474976710656)), true)
def togR_t0 : List (Q × Bool) := [asGc26, asGc13, asGc12, asGc42, asGc38]
def togR_d0 : List Duty := []
def togR_h0 : List (Nat × E) := [(6, (.bi .app (.var 6) (.bi .sel (.var 4) (.var 1)))), (4, (.var 4)), (1, (.bi .add (.var 1) (.int 1))), (5, txGc5), (3, (.var 3))]
theorem togR_h0_1 : lookE togR_h0 1 = (.bi .add (.var 1) (.int 1)) := rfl
theorem togR_h0_3 : lookE togR_h0 3 = (.var 3) := rfl
theorem togR_h0_4 : lookE togR_h0 4 = (.var 4) := rfl
theorem togR_h0_5 : lookE togR_h0 5 = txGc5 := rfl
theorem togR_h0_6 : lookE togR_h0 6 = (.bi .app (.var 6) (.bi .sel (.var 4) (.var 1))) := rfl
theorem togR_y0 : nextJ (togM 1) (togM 1) togR_h0 [(5, 7), (1, 1)] (roundC Try.prog [] [] [] 3000 40 9 [4, 1, 0, 1, 1] (tellA togR_t0) (togM 1)) = some togR_d0 := by kernel_rfl
def togR_t1 : List (Q × Bool) := [asGc26, asGc31]
def togR_d1 : List Duty := [(true, (.var 5), (.un .len (.fn 34 txGc4))), (true, (.var 5), (.un .len (.fn 34 txGc4))), (true, (.var 5), (.un .len (.fn 34 txGc4))), (false, (.var 6), (.fn 34 txGc4))]
theorem togR_y1 : endD (togM 1) [(7, 5), (1, 1)] 1000 (roundC Try.prog [] [] [] 3000 40 9 [4, 1, 0, 1, 1] (tellA togR_t1) (togM 1)) = some togR_d1 := by kernel_rfl
theorem togM_holds : ∀ i, i < 2 → LHolds Try.prog (loopAt Try.prog 9 [4, 1, 0, 1, 1]) (togM i) F := by
 refine loop_famC sound (tableNil _ _) (specsNil _ _) (oversNil _ _) (fuel := 3000) (depth := 40) (by kernel_rfl) (fun i d => match i with | 0 => ((d 3).toInt - (d 1).toInt).toNat | _ => ((d 3).toInt - (d 1).toInt).toNat) ?_
 intro i hi d hp hR hA
 match i, hi with
 | 0, _ =>
   have hp := allTold'_iff.2 hp
   simp only [togM, togN, tl] at hp hR hA
   simp only [F34, F35, D.toInt_int, D.ints_ofInts] at hp
   obtain ⟨p0, p1, p2, p3, p4, p5, p6⟩ := hp
   have p3 := one_of p3
   have h4 : (d 4).ints.length = (d 4).toList.length := List.length_map ..
   have i0 : (d 1).toInt = 0 := p5
   have hz := cat_zero (d 4).toList
   rw [← i0] at hz
   obtain ⟨g1, g2⟩ := fits_step (l := (d 4).toList) (i := (d 1).toInt) (by omega) (by omega) p3
   obtain ⟨⟨f1, f2⟩, _, _⟩ := fit_of g1
   have hc : ((d 4).toList[(d 1).toInt.toNat]?.getD (D.int 0)).ints.length = ((d 4).toList[(d 1).toInt.toNat]?.getD (D.int 0)).toList.length := List.length_map ..
   have cs := cat_step (l := (d 4).toList) (i := (d 1).toInt) (by omega) (by omega)
   have cm := cat_mono (l := (d 4).toList) (i := (d 1).toInt.toNat) (n := (d 3).toInt.toNat) (by omega)
   rw [hz, List.nil_append] at cs
   refine ⟨tellA togN_t0, tellA_ok (allTold'_iff.1 ?_), .inr ⟨1, togN_h0, _, _, by decide, togN_y0, dutiesTold_ok ?_, allTold'_iff.1 ?_, ?_⟩⟩
   ·simp only [togN_t0, F34, F35, D.ints_ofInts, hz, tl]
    and_intros <;> first | omega | assumption | exact one_to g2 | (rw [cs]; done) | (rw [cs, List.length_append]; omega)
   ·simp only [togN_d0, F34, F35, D.ints_ofInts, hz, tl]
   ·simp only [togM, togN, togR, togN_h0_1, togN_h0_3, togN_h0_4, togN_h0_5, togN_h0_6, F34, F35, D.ints_ofInts, hz, tl]
    and_intros <;> first | omega | assumption | exact one_to g2 | (rw [cs]; done) | (rw [cs, List.length_append]; omega)
   ·simp only [togN_h0_1, togN_h0_3, togN_h0_4, togN_h0_5, togN_h0_6, tl]
    omega
 | 1, _ =>
   have hp := allTold'_iff.2 hp
   simp only [togM, togR, tl] at hp hR hA
   simp only [F34, F35, D.toInt_int, D.ints_ofInts] at hp
   obtain ⟨p0, p1, p2, p3, p4, p5, p6⟩ := hp
   have p3 := one_of p3
   have h4 : (d 4).ints.length = (d 4).toList.length := List.length_map ..
   by_cases h : (d 3).toInt ≤ (d 1).toInt
   ·have ie : (d 1).toInt = (d 3).toInt := by omega
    rw [ie] at p5
    have h6 := congrArg List.length p5
    refine ⟨tellA togR_t1, tellA_ok (allTold'_iff.1 ?_), .inl ⟨_, _, _, togR_y1, dutiesTold_ok ?_⟩⟩
    ·simp only [togR_t1, tl]
     omega
    ·simp only [togR_d1, F34, F35, D.ints_ofInts, tl]
     and_intros <;> first | omega | exact p5 | exact p5.symm
   obtain ⟨g1, g2⟩ := fits_step (l := (d 4).toList) (i := (d 1).toInt) (by omega) (by omega) p3
   obtain ⟨⟨f1, f2⟩, _, _⟩ := fit_of g1
   have hc : ((d 4).toList[(d 1).toInt.toNat]?.getD (D.int 0)).ints.length = ((d 4).toList[(d 1).toInt.toNat]?.getD (D.int 0)).toList.length := List.length_map ..
   have cs := cat_step (l := (d 4).toList) (i := (d 1).toInt) (by omega) (by omega)
   have cm := cat_mono (l := (d 4).toList) (i := (d 1).toInt.toNat) (n := (d 3).toInt.toNat) (by omega)
   have h6 := congrArg List.length p5
   rw [← p5] at cs
   refine ⟨tellA togR_t0, tellA_ok (allTold'_iff.1 ?_), .inr ⟨1, togR_h0, _, _, by decide, togR_y0, dutiesTold_ok ?_, allTold'_iff.1 ?_, ?_⟩⟩
   ·simp only [togR_t0, F34, F35, D.ints_ofInts, tl]
    and_intros <;> first | omega | assumption | exact one_to g2 | (rw [cs]; done) | (rw [cs, List.length_append]; omega)
   ·simp only [togR_d0, F34, F35, D.ints_ofInts, tl]
   ·simp only [togM, togN, togR, togR_h0_1, togR_h0_3, togR_h0_4, togR_h0_5, togR_h0_6, F34, F35, D.ints_ofInts, tl]
    and_intros <;> first | omega | assumption | exact one_to g2 | (rw [cs]; done) | (rw [cs, List.length_append]; omega)
   ·simp only [togR_h0_1, togR_h0_3, togR_h0_4, togR_h0_5, togR_h0_6, tl]
    omega
theorem togN_holds : LHolds Try.prog (loopAt Try.prog 9 [4, 1, 0, 1, 1]) togN F := togM_holds 0 (by decide)
theorem togR_holds : LHolds Try.prog (loopAt Try.prog 9 [4, 1, 0, 1, 1]) togR F := togM_holds 1 (by decide)

def awakeC : CSpec := ⟨[], 0, [], [], .bool true, [], []⟩
set_option maxRecDepth 100000 in
theorem awakeC_y : endC awakeC [] 1000 (callW Try.prog F noAsk [] [] [] 8000 80 6 awakeC) = some [] := by kernel_rfl
theorem awakeC_holds : CHolds Try.prog 6 awakeC F := choldsW_of sound (tableNil _ _) (specsNil _ _) (oversNil _ _) (by kernel_rfl) fun d _ _ _ => ⟨noAsk, [], 1000, [], noAsk_ok _, awakeC_y, fun p hp => by cases hp⟩

def tabW : List LEntry := [⟨3, [4, 1, 0, 1, 1, 1, 1, 1], outL⟩, ⟨9, [4, 1, 0, 1, 1], togN⟩, ⟨9, [4, 1, 0, 1, 1], togR⟩]
def specsW : List (FuncId × CSpec) := [(7, splitY), (6, awakeC)]
def oversW : Overs := []
theorem tabW_ok : TableOK Try.prog tabW F := tableCons outL_holds (tableCons togN_holds (tableCons togR_holds (tableNil _ _)))
theorem specsW_ok : SpecsOK Try.prog specsW F := specsCons splitY_holds (specsCons awakeC_holds (specsNil _ _))
theorem oversW_ok : OversOK Try.prog oversW F := oversNil _ _
end Go.Proofs.Ytnejoiklnkaanaa.Gc
