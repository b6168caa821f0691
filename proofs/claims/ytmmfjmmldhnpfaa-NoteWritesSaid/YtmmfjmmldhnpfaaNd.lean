/-
 Contracts of this seat: what loops and calls leave, for all inputs. No condition.
-/
import Derived.Test.YtmmfjmmldhnpfaaSycp
import Derived.Test.YtmmfjmmldhnpfaaCo
import Derived.Test.YtmmfjmmldhnpfaaNa
import Derived.Test.YtmmfjmmldhnpfaaNb
import Derived.Test.YtmmfjmmldhnpfaaNc
set_option linter.unusedSimpArgs false
set_option linter.unusedVariables false
namespace Go.Proofs.Ytmmfjmmldhnpfaa.Nd
open Go.RowKit Go.Ev Go.Proofs.Ytmmfjmmldhnpfaa.Co

open Go.Proofs.Ytmmfjmmldhnpfaa.Na
open Go.Proofs.Ytmmfjmmldhnpfaa.Nb
open Go.Proofs.Ytmmfjmmldhnpfaa.Nc

abbrev txNd0 : E := (.tr .upd (.var 1) (.var 2) (.bi (.iop .xor .u8) (.bi .sel (.var 1) (.var 2)) (.int 90)))
abbrev zNd0 : E := (.bi .add (.var 0) (.int 1))
abbrev zNd1 : E := (.bi .add (.var 2) (.int 1))
def overL : LSpec := { n := 22, next := 1, pat := [(3, .sint .i64 (.var 2)), (2, .sslice 1 (.int 0) (.var 0) (.var 0) false)], rows := [(1, .seq ⟨5, .u8, .var 0, .var 1, false, false⟩)], pre := [(.le (.int 0) (.var 2), true), (.le (.var 2) (.var 0), true), (.le (.var 0) (.int 9223372036854775807), true)], x := 0, fin := [], frows := [], same := [], chg := [2, 3, 8, 9, 10, 11, 12, 13, 14, 15, 16, 17, 18, 19, 20, 21] }
abbrev asNd0 : Q × Bool := ((.fit .i64 (.var 0)), true)
abbrev asNd1 : Q × Bool := ((.le (.var 0) (.var 2)), false)
abbrev asNd2 : Q × Bool := ((.le (.int 0) (.var 2)), true)
abbrev asNd3 : Q × Bool := ((.fit .i64 zNd1), true)
def overL_t0 : List (Q × Bool) := [asNd0, asNd1, asNd2, asNd3]
def overL_d0 : List Duty := []
def overL_h0 : List (Nat × E) := [(1, txNd0), (0, (.var 0)), (2, zNd1)]
theorem overL_h0_a : lookE overL_h0 0 = (.var 0) ∧ lookE overL_h0 1 = txNd0 ∧ lookE overL_h0 2 = zNd1 := ⟨rfl, rfl, rfl⟩
theorem overL_y0 : nextD overL overL_h0 [(1, 1)] (roundC Try.prog [] [] [] 3000 40 15 [4, 1, 1] (tellA overL_t0) overL) = some overL_d0 := by kernel_rfl
abbrev asNd4 : Q × Bool := ((.le (.var 0) (.var 2)), true)
def overL_t1 : List (Q × Bool) := [asNd0, asNd4]
def overL_d1 : List Duty := []
theorem overL_y1 : endD overL [(1, 1)] 1000 (roundC Try.prog [] [] [] 3000 40 15 [4, 1, 1] (tellA overL_t1) overL) = some overL_d1 := by kernel_rfl
theorem overL_holds : LHolds Try.prog (loopAt Try.prog 15 [4, 1, 1]) overL F := by
 refine loop_roundsC sound (tableNil _ _) (specsNil _ _) (oversNil _ _) (fuel := 3000) (depth := 40) (by kernel_rfl) (by kernel_rfl) (by kernel_rfl) (fun d => ((d 0).toInt - (d 2).toInt).toNat) fun d hp hR hA => ?_
 have hp := allTold'_iff.2 hp
 simp only [overL, tl] at hp hR hA
 by_cases h : (d 0).toInt ≤ (d 2).toInt
 ·refine ⟨tellA overL_t1, tellA_ok (allTold'_iff.1 ?_), .inl ⟨_, _, _, overL_y1, dutiesTold_ok ?_⟩⟩
  ·simp only [overL_t1, tl]
   omega
  ·simp only [overL_d1, tl]
 ·refine ⟨tellA overL_t0, tellA_ok (allTold'_iff.1 ?_), .inr ⟨overL_h0, _, _, overL_y0, dutiesTold_ok ?_, allTold'_iff.1 ?_, ?_⟩⟩
  ·simp only [overL_t0, tl]
   omega
  ·simp only [overL_d0, tl]
  ·simp only [overL, overL_h0_a, tl]
   omega
  ·simp only [overL_h0_a, tl]
   omega

def overV : CSpec := overC 5 .u8
abbrev asNd5 : Q × Bool := ((.le (.int 0) (.var 0)), true)
abbrev asNd6 : Q × Bool := ((.le (.var 0) (.int 9223372036854775807)), true)
def overV_t0 : List (Q × Bool) := [asNd0, asNd5, asNd6]
def overV_d0 : List Duty := []
theorem overV_y0 : endC overV [] 1000 (callC Try.prog (tellA overV_t0) [⟨15, [4, 1, 1], overL⟩] [] [] 3000 40 15 overV) = some overV_d0 := by kernel_rfl
theorem overV_holds : CHolds Try.prog 15 (overC 5 .u8) F := by
 refine cholds_of sound (tableCons overL_holds (tableNil _ _)) (specsNil _ _) (oversNil _ _) (fuel := 3000) (depth := 40) (by kernel_rfl) fun d hp hR hA => ?_
 have hp := allTold'_iff.2 hp
 simp only [overC, tl] at hp hR hA
 refine ⟨tellA overV_t0, _, _, _, tellA_ok (allTold'_iff.1 ?_), overV_y0, dutiesTold_ok ?_⟩
 ·simp only [overV_t0, tl]
  omega
 ·simp only [overV_d0, tl]

def sameN : LSpec := { n := 26, next := 5, pat := [(0, .sslice 3 (.int 0) (.var 1) (.var 9) true), (1, .pv (.int .i64) (.var 2)), (5, .sint .i64 (.var 0))], rows := [(3, .eseq ⟨.i64, .var 1, .var 2⟩)], pre := [(.le (.int 0) (.var 0), true), (.le (.var 0) (.var 1), true), (.le (.var 1) (.int 5000), true)], x := 0, fin := [], frows := [], same := [3], chg := [0, 1, 5, 11, 12, 13, 14, 15, 16, 17, 18, 19, 20, 21, 22, 23, 24, 25] }
abbrev asNd7 : Q × Bool := ((.fit .i64 (.var 1)), true)
abbrev asNd8 : Q × Bool := ((.le (.var 1) (.var 0)), false)
abbrev asNd9 : Q × Bool := ((.le (.un .len (.var 2)) (.var 0)), false)
abbrev asNd10 : Q × Bool := ((.fit .i64 zNd0), true)
def sameN_t0 : List (Q × Bool) := [asNd7, asNd8, asNd5, asNd9, asNd10]
def sameN_d0 : List Duty := []
def sameN_h0 : List (Nat × E) := [(0, zNd0), (2, (.var 2)), (1, (.var 1)), (9, (.var 9))]
theorem sameN_h0_a : lookE sameN_h0 0 = zNd0 ∧ lookE sameN_h0 1 = (.var 1) ∧ lookE sameN_h0 2 = (.var 2) ∧ lookE sameN_h0 9 = (.var 9) := ⟨rfl, rfl, rfl, rfl⟩
theorem sameN_y0 : nextD sameN sameN_h0 [(3, 3)] (roundC Try.prog [] [] [] 3000 40 40 [4, 1, 0, 1, 1] (tellA sameN_t0) sameN) = some sameN_d0 := by kernel_rfl
abbrev asNd11 : Q × Bool := ((.le (.var 1) (.var 0)), true)
def sameN_t1 : List (Q × Bool) := [asNd7, asNd11]
def sameN_d1 : List Duty := []
theorem sameN_y1 : endD sameN [(3, 3)] 1000 (roundC Try.prog [] [] [] 3000 40 40 [4, 1, 0, 1, 1] (tellA sameN_t1) sameN) = some sameN_d1 := by kernel_rfl
theorem sameN_holds : LHolds Try.prog (loopAt Try.prog 40 [4, 1, 0, 1, 1]) sameN F := by
 refine loop_roundsC sound (tableNil _ _) (specsNil _ _) (oversNil _ _) (fuel := 3000) (depth := 40) (by kernel_rfl) (by kernel_rfl) (by kernel_rfl) (fun d => ((d 1).toInt - (d 0).toInt).toNat) fun d hp hR hA => ?_
 have hp := allTold'_iff.2 hp
 simp only [sameN, tl] at hp hR hA
 obtain ⟨p0, p1, p2⟩ := hp
 by_cases h : (d 1).toInt ≤ (d 0).toInt
 ·refine ⟨tellA sameN_t1, tellA_ok (allTold'_iff.1 ?_), .inl ⟨_, _, _, sameN_y1, dutiesTold_ok ?_⟩⟩
  all_goals simp only [sameN_t1, sameN_d1, tl]
  all_goals first | done | omega | (and_intros <;> first | omega | exact True.intro | rfl)
 ·refine ⟨tellA sameN_t0, tellA_ok (allTold'_iff.1 ?_), .inr ⟨sameN_h0, _, _, sameN_y0, dutiesTold_ok ?_, allTold'_iff.1 ?_, ?_⟩⟩
  all_goals simp only [sameN_t0, sameN_d0, sameN, sameN_h0_a, tl]
  all_goals first | done | omega | (and_intros <;> first | omega | exact True.intro | rfl)

def sameI : LSpec := { n := 26, next := 5, pat := [(0, .vslice 5 16 (.int 0) (.var 3) (.var 10) true), (1, .pv (.agg [.int .u8, .int .u8, .int .u8, .int .u8, .int .u8, .int .u8, .int .u8, .int .u8, .int .u8, .int .u8, .int .u8, .int .u8, .int .u8, .int .u8, .int .u8, .int .u8]) (.var 4)), (5, .sint .i64 (.var 0))], rows := [(5, .vseq ⟨49, (.agg [.int .u8, .int .u8, .int .u8, .int .u8, .int .u8, .int .u8, .int .u8, .int .u8, .int .u8, .int .u8, .int .u8, .int .u8, .int .u8, .int .u8, .int .u8, .int .u8]), .var 3, .var 4, true⟩)], pre := [(.le (.int 0) (.var 0), true), (.le (.var 0) (.var 3), true), (.le (.var 3) (.int 5000), true)], x := 0, fin := [], frows := [], same := [5], chg := [0, 1, 5, 11, 12, 13, 14, 15, 16, 17, 18, 19, 20, 21, 22, 23, 24, 25] }
abbrev asNd12 : Q × Bool := ((.fit .i64 (.var 3)), true)
abbrev asNd13 : Q × Bool := ((.le (.var 3) (.var 0)), false)
abbrev asNd14 : Q × Bool := ((.le (.un .len (.var 4)) (.var 0)), false)
def sameI_t0 : List (Q × Bool) := [asNd12, asNd13, asNd5, asNd14, asNd10]
def sameI_d0 : List Duty := []
def sameI_h0 : List (Nat × E) := [(0, zNd0), (4, (.var 4)), (3, (.var 3)), (10, (.var 10))]
theorem sameI_h0_a : lookE sameI_h0 0 = zNd0 ∧ lookE sameI_h0 3 = (.var 3) ∧ lookE sameI_h0 4 = (.var 4) ∧ lookE sameI_h0 10 = (.var 10) := ⟨rfl, rfl, rfl, rfl⟩
theorem sameI_y0 : nextD sameI sameI_h0 [(5, 5)] (roundC Try.prog [] [] [] 3000 40 41 [4, 1, 0, 1, 1] (tellA sameI_t0) sameI) = some sameI_d0 := by kernel_rfl
abbrev asNd15 : Q × Bool := ((.le (.var 3) (.var 0)), true)
def sameI_t1 : List (Q × Bool) := [asNd12, asNd15]
def sameI_d1 : List Duty := []
theorem sameI_y1 : endD sameI [(5, 5)] 1000 (roundC Try.prog [] [] [] 3000 40 41 [4, 1, 0, 1, 1] (tellA sameI_t1) sameI) = some sameI_d1 := by kernel_rfl
theorem sameI_holds : LHolds Try.prog (loopAt Try.prog 41 [4, 1, 0, 1, 1]) sameI F := by
 refine loop_roundsC sound (tableNil _ _) (specsNil _ _) (oversNil _ _) (fuel := 3000) (depth := 40) (by kernel_rfl) (by kernel_rfl) (by kernel_rfl) (fun d => ((d 3).toInt - (d 0).toInt).toNat) fun d hp hR hA => ?_
 have hp := allTold'_iff.2 hp
 simp only [sameI, tl] at hp hR hA
 obtain ⟨p0, p1, p2⟩ := hp
 by_cases h : (d 3).toInt ≤ (d 0).toInt
 ·refine ⟨tellA sameI_t1, tellA_ok (allTold'_iff.1 ?_), .inl ⟨_, _, _, sameI_y1, dutiesTold_ok ?_⟩⟩
  all_goals simp only [sameI_t1, sameI_d1, tl]
  all_goals first | done | omega | (and_intros <;> first | omega | exact True.intro | rfl)
 ·refine ⟨tellA sameI_t0, tellA_ok (allTold'_iff.1 ?_), .inr ⟨sameI_h0, _, _, sameI_y0, dutiesTold_ok ?_, allTold'_iff.1 ?_, ?_⟩⟩
  all_goals simp only [sameI_t0, sameI_d0, sameI, sameI_h0_a, tl]
  all_goals first | done | omega | (and_intros <;> first | omega | exact True.intro | rfl)

def awakeC : CSpec := ⟨[], 0, [], [], .bool true, [], []⟩
set_option maxRecDepth 100000 in
theorem awakeC_y : endC awakeC [] 1000 (callW Try.prog F noAsk [] [] [] 8000 80 17 awakeC) = some [] := by kernel_rfl
theorem awakeC_holds : CHolds Try.prog 17 awakeC F := choldsW_of sound (tableNil _ _) (specsNil _ _) (oversNil _ _) (by kernel_rfl) fun d _ _ _ => ⟨noAsk, [], 1000, [], noAsk_ok _, awakeC_y, fun p hp => by cases hp⟩

def sameC : CSpec := { args := [.sslice 3 (.int 0) (.var 1) (.var 9) true, .pv (.int .i64) (.var 2)], next := 5, rows := [(3, .eseq ⟨.i64, .var 1, .var 2⟩)], pre := [(.le (.int 0) (.var 1), true), (.le (.var 1) (.int 5000), true)], res := .bool true, frows := [], same := [3] }
abbrev asNd16 : Q × Bool := ((.fit .i64 (.un .len (.var 2))), true)
abbrev asNd17 : Q × Bool := ((.eq (.var 1) (.un .len (.var 2))), true)
abbrev asNd18 : Q × Bool := ((.le (.int 0) (.var 1)), true)
abbrev asNd19 : Q × Bool := ((.le (.var 1) (.int 5000)), true)
def sameC_t0 : List (Q × Bool) := [asNd7, asNd16, asNd17, asNd18, asNd19]
def sameC_d0 : List Duty := []
theorem sameC_y0 : endC sameC [(3, 3)] 1000 (callC Try.prog (tellA sameC_t0) [⟨40, [4, 1, 0, 1, 1], sameN⟩] [] [] 3000 40 40 sameC) = some sameC_d0 := by kernel_rfl
theorem sameC_holds : CHolds Try.prog 40 sameC F := by
 refine cholds_of sound (tableCons sameN_holds (tableNil _ _)) (specsNil _ _) (oversNil _ _) (fuel := 3000) (depth := 40) (by kernel_rfl) fun d hp hR hA => ?_
 have hp := allTold'_iff.2 hp
 simp only [sameC, tl] at hp hR hA
 obtain ⟨p0, p1⟩ := hp
 refine ⟨tellA sameC_t0, _, _, _, tellA_ok (allTold'_iff.1 ?_), sameC_y0, dutiesTold_ok ?_⟩
 all_goals simp only [sameC_t0, sameC_d0, tl]
 all_goals first | done | omega | (and_intros <;> first | omega | exact True.intro | rfl)

def tab : List LEntry := [⟨13, [4, 1, 0, 1, 1, 1], numOY⟩, ⟨13, [4, 1, 0, 1, 1, 1], numON⟩, ⟨10, [4, 1, 0, 1, 1, 1, 1, 1], numW⟩, ⟨10, [4, 1, 0, 1, 1, 1, 1, 1, 1, 1], idsW⟩, ⟨14, [4, 1, 0, 1, 1, 1, 1], docY⟩, ⟨14, [4, 1, 0, 1, 1, 1, 1], docN⟩, ⟨11, [4, 1, 0, 1, 1, 1, 1, 1, 1], numD⟩, ⟨11, [4, 1, 0, 1, 1, 1, 1, 1, 1, 1, 1], idsD⟩, ⟨15, [4, 1, 1], overL⟩, ⟨40, [4, 1, 0, 1, 1], sameN⟩, ⟨41, [4, 1, 0, 1, 1], sameI⟩]
def specs : List (FuncId × CSpec) := [(60, partsC), (62, sizeR), (63, putR), (35, shapeC), (13, chkoeo), (13, chkooo), (10, bytOe), (10, bytOo), (38, ofY), (38, ofN), (14, chkD), (11, bytD), (17, awakeC), (40, sameC)]
def overs : Overs := [(15, 5, .u8)]
theorem tab_ok : TableOK Try.prog tab F := tableCons numOY_holds (tableCons numON_holds (tableCons numW_holds (tableCons idsW_holds (tableCons docY_holds (tableCons docN_holds (tableCons numD_holds (tableCons idsD_holds (tableCons overL_holds (tableCons sameN_holds (tableCons sameI_holds (tableNil _ _)))))))))))
theorem specs_ok : SpecsOK Try.prog specs F := specsCons partsC_holds (specsCons sizeR_holds (specsCons putR_holds (specsCons shapeC_holds (specsCons chkoeo_holds (specsCons chkooo_holds (specsCons bytOe_holds (specsCons bytOo_holds (specsCons ofY_holds (specsCons ofN_holds (specsCons chkD_holds (specsCons bytD_holds (specsCons awakeC_holds (specsCons sameC_holds (specsNil _ _))))))))))))))
theorem overs_ok : OversOK Try.prog overs F := oversCons overV_holds (oversNil _ _)
def tabB : List LEntry := []
def specsB : List (FuncId × CSpec) := [(60, partsC)]
def oversB : Overs := []
theorem tabB_ok : TableOK Try.prog tabB F := tableNil _ _
theorem specsB_ok : SpecsOK Try.prog specsB F := specsCons partsC_holds (specsNil _ _)
theorem oversB_ok : OversOK Try.prog oversB F := oversNil _ _
end Go.Proofs.Ytmmfjmmldhnpfaa.Nd
