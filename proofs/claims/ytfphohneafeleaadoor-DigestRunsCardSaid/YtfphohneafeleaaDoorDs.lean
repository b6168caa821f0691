/-
  Contracts of this seat: what loops and calls leave, for all inputs. No condition.
-/
import Derived.Test.YtfphohneafeleaaDoorSycp
import Derived.Test.YtfphohneafeleaaDoorCo
import Derived.Test.YtfphohneafeleaaDoorDp
import Derived.Test.YtfphohneafeleaaDoorDu
import Derived.Test.YtfphohneafeleaaDoorDq
import Derived.Test.YtfphohneafeleaaDoorDr
set_option linter.unusedSimpArgs false
set_option linter.unusedVariables false
namespace Go.Proofs.YtfphohneafeleaaDoor.Ds
open Go.RowKit Go.Ev Go.Proofs.YtfphohneafeleaaDoor.Co

open Go.Proofs.YtfphohneafeleaaDoor.Dp
open Go.Proofs.YtfphohneafeleaaDoor.Du
open Go.Proofs.YtfphohneafeleaaDoor.Dq
open Go.Proofs.YtfphohneafeleaaDoor.Dr

theorem lent_prt {X : List Int} {l : Int} (h : 0 ≤ l) (h2 : l ≤ X.length) : prt (lentI (prt X 0 (0 + l))) 0 (0 + l) = prt X 0 (0 + l) := by
  have hl := prt_length (x := X) (o := 0) (t := 0 + l) (by omega) (by omega) (by omega)
  have e : ∀ (r t : List Int), (r.length : Int) = l → prt (r ++ t) 0 (0 + l) = r := by
    intro r t hr
    unfold prt
    rw [List.take_append_of_le_length (by omega), List.take_of_length_le (by omega)]
    rfl
  exact e _ _ (by omega)

abbrev txDs0 : E := (.bi .pair (.int 0) (.bi .pair (.int 0) (.int 0)))
abbrev txDs1 : E := (.bi .pair (.int 0) (.bi .pair (.int 64) (.int 0)))
abbrev txDs2 : E := (.bi .pair (.lits [128, 0, 0, 0, 0, 0, 0, 0, 0, 0, 0, 0, 0, 0, 0, 0, 0, 0, 0, 0, 0, 0, 0, 0, 0, 0, 0, 0, 0, 0, 0, 0, 0, 0, 0, 0, 0, 0, 0, 0, 0, 0, 0, 0, 0, 0, 0, 0, 0, 0, 0, 0, 0, 0, 0, 0, 0, 0, 0, 0, 0, 0, 0, 0]) txDs1)
abbrev txDs3 : E := (.bi .pair (.lits [1779033703, 3144134277, 1013904242, 2773480762, 1359893119, 2600822924, 528734635, 1541459225]) txDs2)
def awakeC : CSpec := ⟨[], 0, [(0, .ext cellsG)], [], .bool true, [], []⟩
set_option maxRecDepth 100000 in
theorem awakeC_y : endC awakeC [] 1000 (callW Tryd.prog F noAsk [⟨28, [4, 1, 0, 1, 1, 1], sprL⟩, ⟨22, [4, 1, 0, 1, 1, 1], mixL⟩] [(22, mixedC)] [] 8000 80 5 awakeC) = some [] := by kernel_rfl
theorem awakeC_holds : CHolds Tryd.prog 5 awakeC F := choldsW_of sound (tableCons sprL_holds (tableCons mixL_holds (tableNil _ _))) (specsCons mixedC_holds (specsNil _ _)) (oversNil _ _) (by kernel_rfl) fun d _ _ _ => ⟨noAsk, [], 1000, [], noAsk_ok _, awakeC_y, fun p hp => by cases hp⟩

def rsumE : CSpec := { args := [.empty], next := 0, rows := [], pre := [], res := .agg [.sint .u8 (.bi .sel (.fn 10 (argsE [.lits [], .int 0, .int 0])) (.int 0)), .sint .u8 (.bi .sel (.fn 10 (argsE [.lits [], .int 0, .int 0])) (.int 1)), .sint .u8 (.bi .sel (.fn 10 (argsE [.lits [], .int 0, .int 0])) (.int 2)), .sint .u8 (.bi .sel (.fn 10 (argsE [.lits [], .int 0, .int 0])) (.int 3)), .sint .u8 (.bi .sel (.fn 10 (argsE [.lits [], .int 0, .int 0])) (.int 4)), .sint .u8 (.bi .sel (.fn 10 (argsE [.lits [], .int 0, .int 0])) (.int 5)), .sint .u8 (.bi .sel (.fn 10 (argsE [.lits [], .int 0, .int 0])) (.int 6)), .sint .u8 (.bi .sel (.fn 10 (argsE [.lits [], .int 0, .int 0])) (.int 7)), .sint .u8 (.bi .sel (.fn 10 (argsE [.lits [], .int 0, .int 0])) (.int 8)), .sint .u8 (.bi .sel (.fn 10 (argsE [.lits [], .int 0, .int 0])) (.int 9)), .sint .u8 (.bi .sel (.fn 10 (argsE [.lits [], .int 0, .int 0])) (.int 10)), .sint .u8 (.bi .sel (.fn 10 (argsE [.lits [], .int 0, .int 0])) (.int 11)), .sint .u8 (.bi .sel (.fn 10 (argsE [.lits [], .int 0, .int 0])) (.int 12)), .sint .u8 (.bi .sel (.fn 10 (argsE [.lits [], .int 0, .int 0])) (.int 13)), .sint .u8 (.bi .sel (.fn 10 (argsE [.lits [], .int 0, .int 0])) (.int 14)), .sint .u8 (.bi .sel (.fn 10 (argsE [.lits [], .int 0, .int 0])) (.int 15)), .sint .u8 (.bi .sel (.fn 10 (argsE [.lits [], .int 0, .int 0])) (.int 16)), .sint .u8 (.bi .sel (.fn 10 (argsE [.lits [], .int 0, .int 0])) (.int 17)), .sint .u8 (.bi .sel (.fn 10 (argsE [.lits [], .int 0, .int 0])) (.int 18)), .sint .u8 (.bi .sel (.fn 10 (argsE [.lits [], .int 0, .int 0])) (.int 19)), .sint .u8 (.bi .sel (.fn 10 (argsE [.lits [], .int 0, .int 0])) (.int 20)), .sint .u8 (.bi .sel (.fn 10 (argsE [.lits [], .int 0, .int 0])) (.int 21)), .sint .u8 (.bi .sel (.fn 10 (argsE [.lits [], .int 0, .int 0])) (.int 22)), .sint .u8 (.bi .sel (.fn 10 (argsE [.lits [], .int 0, .int 0])) (.int 23)), .sint .u8 (.bi .sel (.fn 10 (argsE [.lits [], .int 0, .int 0])) (.int 24)), .sint .u8 (.bi .sel (.fn 10 (argsE [.lits [], .int 0, .int 0])) (.int 25)), .sint .u8 (.bi .sel (.fn 10 (argsE [.lits [], .int 0, .int 0])) (.int 26)), .sint .u8 (.bi .sel (.fn 10 (argsE [.lits [], .int 0, .int 0])) (.int 27)), .sint .u8 (.bi .sel (.fn 10 (argsE [.lits [], .int 0, .int 0])) (.int 28)), .sint .u8 (.bi .sel (.fn 10 (argsE [.lits [], .int 0, .int 0])) (.int 29)), .sint .u8 (.bi .sel (.fn 10 (argsE [.lits [], .int 0, .int 0])) (.int 30)), .sint .u8 (.bi .sel (.fn 10 (argsE [.lits [], .int 0, .int 0])) (.int 31))], frows := [], same := [] }
abbrev asDs19 : Q × Bool := ((.eq (.bi (.iop .rem .i64) (.bi .sub (.int 64) (.int 0)) (.int 64)) (.int 0)), true)
def rsumE_t0 : List (Q × Bool) := [asDs19]
def rsumE_d0 : List Duty := [(true, (.un (.wrap .u8) (.bi (.iop .shr .u32) (.bi .sel (.fn 20 txDs3) (.int 0)) (.int 24))), (.bi .sel (.fn 10 (.bi .pair (.lits []) txDs0)) (.int 0))), (true, (.un (.wrap .u8) (.bi (.iop .shr .u32) (.bi .sel (.fn 20 txDs3) (.int 0)) (.int 16))), (.bi .sel (.fn 10 (.bi .pair (.lits []) txDs0)) (.int 1))), (true, (.un (.wrap .u8) (.bi (.iop .shr .u32) (.bi .sel (.fn 20 txDs3) (.int 0)) (.int 8))), (.bi .sel (.fn 10 (.bi .pair (.lits []) txDs0)) (.int 2))), (true, (.un (.wrap .u8) (.bi (.iop .shr .u32) (.bi .sel (.fn 20 txDs3) (.int 0)) (.int 0))), (.bi .sel (.fn 10 (.bi .pair (.lits []) txDs0)) (.int 3))), (true, (.un (.wrap .u8) (.bi (.iop .shr .u32) (.bi .sel (.fn 20 txDs3) (.int 1)) (.int 24))), (.bi .sel (.fn 10 (.bi .pair (.lits []) txDs0)) (.int 4))), (true, (.un (.wrap .u8) (.bi (.iop .shr .u32) (.bi .sel (.fn 20 txDs3) (.int 1)) (.int 16))), (.bi .sel (.fn 10 (.bi .pair (.lits []) txDs0)) (.int 5))), (true, (.un (.wrap .u8) (.bi (.iop .shr .u32) (.bi .sel (.fn 20 txDs3) (.int 1)) (.int 8))), (.bi .sel (.fn 10 (.bi .pair (.lits []) txDs0)) (.int 6))), (true, (.un (.wrap .u8) (.bi (.iop .shr .u32) (.bi .sel (.fn 20 txDs3) (.int 1)) (.int 0))), (.bi .sel (.fn 10 (.bi .pair (.lits []) txDs0)) (.int 7))), (true, (.un (.wrap .u8) (.bi (.iop .shr .u32) (.bi .sel (.fn 20 txDs3) (.int 2)) (.int 24))), (.bi .sel (.fn 10 (.bi .pair (.lits []) txDs0)) (.int 8))), (true, (.un (.wrap .u8) (.bi (.iop .shr .u32) (.bi .sel (.fn 20 txDs3) (.int 2)) (.int 16))), (.bi .sel (.fn 10 (.bi .pair (.lits []) txDs0)) (.int 9))), (true, (.un (.wrap .u8) (.bi (.iop .shr .u32) (.bi .sel (.fn 20 txDs3) (.int 2)) (.int 8))), (.bi .sel (.fn 10 (.bi .pair (.lits []) txDs0)) (.int 10))), (true, (.un (.wrap .u8) (.bi (.iop .shr .u32) (.bi .sel (.fn 20 txDs3) (.int 2)) (.int 0))), (.bi .sel (.fn 10 (.bi .pair (.lits []) txDs0)) (.int 11))), (true, (.un (.wrap .u8) (.bi (.iop .shr .u32) (.bi .sel (.fn 20 txDs3) (.int 3)) (.int 24))), (.bi .sel (.fn 10 (.bi .pair (.lits []) txDs0)) (.int 12))), (true, (.un (.wrap .u8) (.bi (.iop .shr .u32) (.bi .sel (.fn 20 txDs3) (.int 3)) (.int 16))), (.bi .sel (.fn 10 (.bi .pair (.lits []) txDs0)) (.int 13))), (true, (.un (.wrap .u8) (.bi (.iop .shr .u32) (.bi .sel (.fn 20 txDs3) (.int 3)) (.int 8))), (.bi .sel (.fn 10 (.bi .pair (.lits []) txDs0)) (.int 14))), (true, (.un (.wrap .u8) (.bi (.iop .shr .u32) (.bi .sel (.fn 20 txDs3) (.int 3)) (.int 0))), (.bi .sel (.fn 10 (.bi .pair (.lits []) txDs0)) (.int 15))), (true, (.un (.wrap .u8) (.bi (.iop .shr .u32) (.bi .sel (.fn 20 txDs3) (.int 4)) (.int 24))), (.bi .sel (.fn 10 (.bi .pair (.lits []) txDs0)) (.int 16))), (true, (.un (.wrap .u8) (.bi (.iop .shr .u32) (.bi .sel (.fn 20 txDs3) (.int 4)) (.int 16))), (.bi .sel (.fn 10 (.bi .pair (.lits []) txDs0)) (.int 17))), (true, (.un (.wrap .u8) (.bi (.iop .shr .u32) (.bi .sel (.fn 20 txDs3) (.int 4)) (.int 8))), (.bi .sel (.fn 10 (.bi .pair (.lits []) txDs0)) (.int 18))), (true, (.un (.wrap .u8) (.bi (.iop .shr .u32) (.bi .sel (.fn 20 txDs3) (.int 4)) (.int 0))), (.bi .sel (.fn 10 (.bi .pair (.lits []) txDs0)) (.int 19))), (true, (.un (.wrap .u8) (.bi (.iop .shr .u32) (.bi .sel (.fn 20 txDs3) (.int 5)) (.int 24))), (.bi .sel (.fn 10 (.bi .pair (.lits []) txDs0)) (.int 20))), (true, (.un (.wrap .u8) (.bi (.iop .shr .u32) (.bi .sel (.fn 20 txDs3) (.int 5)) (.int 16))), (.bi .sel (.fn 10 (.bi .pair (.lits []) txDs0)) (.int 21))), (true, (.un (.wrap .u8) (.bi (.iop .shr .u32) (.bi .sel (.fn 20 txDs3) (.int 5)) (.int 8))), (.bi .sel (.fn 10 (.bi .pair (.lits []) txDs0)) (.int 22))), (true, (.un (.wrap .u8) (.bi (.iop .shr .u32) (.bi .sel (.fn 20 txDs3) (.int 5)) (.int 0))), (.bi .sel (.fn 10 (.bi .pair (.lits []) txDs0)) (.int 23))), (true, (.un (.wrap .u8) (.bi (.iop .shr .u32) (.bi .sel (.fn 20 txDs3) (.int 6)) (.int 24))), (.bi .sel (.fn 10 (.bi .pair (.lits []) txDs0)) (.int 24))), (true, (.un (.wrap .u8) (.bi (.iop .shr .u32) (.bi .sel (.fn 20 txDs3) (.int 6)) (.int 16))), (.bi .sel (.fn 10 (.bi .pair (.lits []) txDs0)) (.int 25))), (true, (.un (.wrap .u8) (.bi (.iop .shr .u32) (.bi .sel (.fn 20 txDs3) (.int 6)) (.int 8))), (.bi .sel (.fn 10 (.bi .pair (.lits []) txDs0)) (.int 26))), (true, (.un (.wrap .u8) (.bi (.iop .shr .u32) (.bi .sel (.fn 20 txDs3) (.int 6)) (.int 0))), (.bi .sel (.fn 10 (.bi .pair (.lits []) txDs0)) (.int 27))), (true, (.un (.wrap .u8) (.bi (.iop .shr .u32) (.bi .sel (.fn 20 txDs3) (.int 7)) (.int 24))), (.bi .sel (.fn 10 (.bi .pair (.lits []) txDs0)) (.int 28))), (true, (.un (.wrap .u8) (.bi (.iop .shr .u32) (.bi .sel (.fn 20 txDs3) (.int 7)) (.int 16))), (.bi .sel (.fn 10 (.bi .pair (.lits []) txDs0)) (.int 29))), (true, (.un (.wrap .u8) (.bi (.iop .shr .u32) (.bi .sel (.fn 20 txDs3) (.int 7)) (.int 8))), (.bi .sel (.fn 10 (.bi .pair (.lits []) txDs0)) (.int 30))), (true, (.un (.wrap .u8) (.bi (.iop .shr .u32) (.bi .sel (.fn 20 txDs3) (.int 7)) (.int 0))), (.bi .sel (.fn 10 (.bi .pair (.lits []) txDs0)) (.int 31)))]
theorem rsumE_y0 : endC rsumE [] 1000 (callC Tryd.prog (tellA rsumE_t0) [⟨11, [4, 1, 0, 1, 1, 1], rsumL⟩] [(20, stepC)] [] 3000 40 11 rsumE) = some rsumE_d0 := by kernel_rfl
theorem rsumE_holds : CHolds Tryd.prog 11 rsumE F := by
  refine cholds_of sound (tableCons rsumL_holds (tableNil _ _)) (specsCons stepC_holds (specsNil _ _)) (oversNil _ _) (fuel := 3000) (depth := 40) (by kernel_rfl) fun d hp hR hA => ?_
  have hp := allTold'_iff.2 hp
  simp only [rsumE, allTold', dutiesTold, factsA, factsC, factsP, factsR, AV.facts, RW.facts, inK, and_true, Q.holds', E.i, E.s, E.n, D.nat, E.den, BO.den, UO.den, TO.den, D.toInt_int, D.toList_list, D.ints_ofInts, i64min, i64max, u8min, u8max, u16min, u16max, u32min, u32max, u64min, u64max, i32min, i32max, Om.sub, selI, ints_app, ints_cut, ints_upd, ints_rep, ints_splice, ints_seg, len_ints] at hp hR hA
  have e := blk_sum (X := []) (o := 0) (l := 0) (by omega) (by omega) (by simp)
  refine ⟨tellA rsumE_t0, _, _, _, tellA_ok (allTold'_iff.1 ?_), rsumE_y0, dutiesTold_ok ?_⟩
  · simp only [rsumE_t0, allTold', dutiesTold, factsA, factsC, factsP, factsR, AV.facts, RW.facts, inK, and_true, Q.holds', E.i, E.s, E.n, D.nat, E.den, BO.den, UO.den, TO.den, D.toInt_int, D.toList_list, D.ints_ofInts, i64min, i64max, u8min, u8max, u16min, u16max, u32min, u32max, u64min, u64max, i32min, i32max, Om.sub, selI, ints_app, ints_cut, ints_upd, ints_rep, ints_splice, ints_seg, len_ints]
    rfl
  · simp only [rsumE_d0, F10, F20, allTold', dutiesTold, factsA, factsC, factsP, factsR, AV.facts, RW.facts, inK, and_true, Q.holds', E.i, E.s, E.n, D.nat, E.den, BO.den, UO.den, TO.den, D.toInt_int, D.toList_list, D.ints_ofInts, i64min, i64max, u8min, u8max, u16min, u16max, u32min, u32max, u64min, u64max, i32min, i32max, Om.sub, selI, ints_app, ints_cut, ints_upd, ints_rep, ints_splice, ints_seg, len_ints]
    generalize hB : prt (_ :: _) 0 64 = B
    have hB2 : B = prt (prt [] 0 (0 + 0) ++ fillI 0) 0 (0 + ((119 - 0 % 64) % 64 + 9)) := by
      rw [← hB]
      kernel_rfl
    subst hB2
    unfold firstL at e
    rw [e]
    and_intros <;> rfl

end Go.Proofs.YtfphohneafeleaaDoor.Ds
