/-
  Contracts of this seat: what loops and calls leave, for all inputs. No condition.
-/
import Derived.Test.YtdldnaecfhaofaaSycp
import Derived.Test.YtdldnaecfhaofaaCo
import Derived.Test.YtdldnaecfhaofaaRa
set_option linter.unusedSimpArgs false
set_option linter.unusedVariables false
namespace Go.Proofs.Ytdldnaecfhaofaa.Rx
open Go.RowKit Go.Ev Go.Proofs.Ytdldnaecfhaofaa.Co

open Go.Proofs.Ytdldnaecfhaofaa.Ra
theorem errI_ne (c : Int) : ¬ errI c = 0 := by unfold errI; split <;> omega
theorem rdSB {x : List Int} {a t e f mo : Int} (ho : 0 ≤ a) (ht : t ≤ x.length) (hx : ∀ c ∈ x, 0 ≤ c ∧ c ≤ 255) :
    (¬ (rdS x a t e f 0 mo 3).2.2.1 = 0 ∧ rdB x a t e f mo = (0, (rdS x a t e f 0 mo 3).2.1, (rdS x a t e f 0 mo 3).2.2.1, (rdS x a t e f 0 mo 3).2.2.2))
    ∨ ((rdS x a t e f 0 mo 3).2.2.1 = 0 ∧ t - (rdS x a t e f 0 mo 3).2.1 < (rdS x a t e f 0 mo 3).1 ∧ rdB x a t e f mo = (0, a, 4, t))
    ∨ ((rdS x a t e f 0 mo 3).2.2.1 = 0 ∧ ¬ t - (rdS x a t e f 0 mo 3).2.1 < (rdS x a t e f 0 mo 3).1 ∧ rdB x a t e f mo = ((rdS x a t e f 0 mo 3).1, (rdS x a t e f 0 mo 3).2.1 + (rdS x a t e f 0 mo 3).1, (rdS x a t e f 0 mo 3).2.2.1, (rdS x a t e f 0 mo 3).2.2.2)) := by
  by_cases e0 : e = 0
  · by_cases k0 : (numL (prt x a t)).1 = 0
    · have nv := num_val ho ht hx k0
      by_cases g : mo < (numL (prt x a t)).2.1
      · rw [rdS_hi e0 k0 g, rdB_hi e0 k0 g]
        exact .inl ⟨by simp, rfl⟩
      · rw [rdS_ok e0 k0 g (by omega)]
        by_cases g2 : t - (a + (numL (prt x a t)).2.2) < (numL (prt x a t)).2.1
        · rw [rdB_few e0 k0 g g2]
          exact .inr (.inl ⟨e0, g2, rfl⟩)
        · rw [rdB_ok e0 k0 g g2]
          exact .inr (.inr ⟨e0, g2, rfl⟩)
    · rw [rdS_bad e0 k0, rdB_bad e0 k0]
      exact .inl ⟨errI_ne _, rfl⟩
  · rw [rdS_err e0, rdB_err e0]
    exact .inl ⟨e0, rfl⟩
theorem rdS_nn {x : List Int} {a t e f hi ab : Int} (ho : 0 ≤ a) (ht : t ≤ x.length) (hx : ∀ c ∈ x, 0 ≤ c ∧ c ≤ 255) : 0 ≤ (rdS x a t e f 0 hi ab).1 ∧ (rdS x a t e f 0 hi ab).1 ≤ 2147483647 := by
  unfold rdS
  by_cases h : (numL (prt x a t)).1 = 0
  · have := num_val ho ht hx h
    repeat' split
    all_goals (simp only; omega)
  · repeat' split
    all_goals (simp only; omega)
theorem selT (d : D) (a b i : Nat) : ((List.drop a (List.take b d.toList))[i]?.getD (D.int 0)).toInt = (List.drop a (List.take b d.ints))[i]?.getD 0 := by
  have h : d.ints = d.toList.map D.toInt := rfl
  rw [h, ← List.map_take, ← List.map_drop, List.getElem?_map]
  cases (List.drop a (List.take b d.toList))[i]? <;> rfl
theorem rdB_zero {x : List Int} {a t e f mo : Int} (h : ¬ (rdB x a t e f mo).2.2.1 = 0) : (rdB x a t e f mo).1 = 0 := by
  by_cases e0 : e = 0
  · by_cases k0 : (numL (prt x a t)).1 = 0
    · by_cases g : mo < (numL (prt x a t)).2.1
      · rw [rdB_hi e0 k0 g]
      · by_cases g2 : t - (a + (numL (prt x a t)).2.2) < (numL (prt x a t)).2.1
        · rw [rdB_few e0 k0 g g2]
        · rw [rdB_ok e0 k0 g g2] at h; exact absurd e0 h
    · rw [rdB_bad e0 k0]
  · rw [rdB_err e0]

abbrev txRx0 : E := (.bi .sel (.var 4) (.bi .add (.var 5) (.int 1)))
abbrev txRx1 : E := (.bi .sel (.var 4) (.bi .add (.var 5) (.int 2)))
abbrev txRx2 : E := (.bi .sel (.var 4) (.bi .add (.var 5) (.int 3)))
abbrev txRx3 : E := (.bi .sel (.var 4) (.bi .add (.var 5) (.int 4)))
abbrev txRx4 : E := (.bi .pair (.var 5) (.bi .pair (.var 2) (.int 0)))
abbrev txRx5 : E := (.bi .pair (.var 7) (.bi .pair (.int 3) (.int 0)))
abbrev txRx6 : E := (.bi .pair (.var 8) (.bi .pair (.var 11) (.int 0)))
abbrev txRx7 : E := (.bi .pair (.var 10) (.bi .pair (.var 7) (.int 0)))
abbrev txRx8 : E := (.bi .pair (.var 9) (.bi .pair (.var 10) (.int 0)))
abbrev txRx9 : E := (.tr .cut (.var 4) (.var 5) (.bi .add (.var 5) (.int 16)))
abbrev txRx10 : E := (.bi (.iop .rem .i64) (.bi .sel (.var 4) (.var 5)) (.int 128))
abbrev txRx11 : E := (.bi .pair (.var 2) (.bi .pair (.var 9) txRx7))
abbrev txRx12 : E := (.bi .pair (.var 10) (.bi .pair (.int 0) txRx5))
abbrev txRx13 : E := (.bi .pair (.var 5) (.bi .pair (.var 2) txRx8))
abbrev txRx14 : E := (.bi .pair (.var 10) (.bi .pair (.var 7) txRx6))
abbrev txRx15 : E := (.bi .add (.var 5) (.fn 22 (.bi .pair (.var 4) txRx4)))
abbrev txRx16 : E := (.bi .pair (.var 4) (.bi .pair (.var 5) txRx11))
abbrev txRx17 : E := (.bi .pair (.var 2) (.bi .pair (.var 9) txRx12))
abbrev txRx18 : E := (.bi .pair (.var 2) (.bi .pair (.var 9) txRx14))
abbrev txRx19 : E := (.bi .sel (.fn 60 (.bi .pair (.var 4) txRx13)) (.int 0))
abbrev txRx20 : E := (.bi .sel (.fn 60 (.bi .pair (.var 4) txRx13)) (.int 1))
abbrev txRx21 : E := (.bi .sel (.fn 60 (.bi .pair (.var 4) txRx13)) (.int 2))
abbrev txRx22 : E := (.bi .sel (.fn 60 (.bi .pair (.var 4) txRx13)) (.int 3))
abbrev txRx23 : E := (.bi .sel (.fn 60 (.bi .pair (.var 4) txRx13)) (.int 4))
abbrev txRx24 : E := (.bi .sel (.fn 60 (.bi .pair (.var 4) txRx13)) (.int 5))
abbrev txRx25 : E := (.bi .sel (.fn 60 (.bi .pair (.var 4) txRx13)) (.int 6))
abbrev txRx26 : E := (.bi .sel (.fn 60 (.bi .pair (.var 4) txRx13)) (.int 7))
abbrev txRx27 : E := (.bi .sel (.fn 60 (.bi .pair (.var 4) txRx13)) (.int 8))
abbrev txRx28 : E := (.bi .sel (.fn 60 (.bi .pair (.var 4) txRx13)) (.int 9))
abbrev txRx29 : E := (.bi .sel (.fn 60 (.bi .pair (.var 4) txRx13)) (.int 10))
abbrev txRx30 : E := (.bi .sel (.fn 60 (.bi .pair (.var 4) txRx13)) (.int 11))
abbrev txRx31 : E := (.bi .sel (.fn 60 (.bi .pair (.var 4) txRx13)) (.int 12))
abbrev txRx32 : E := (.bi .sel (.fn 60 (.bi .pair (.var 4) txRx13)) (.int 13))
abbrev txRx33 : E := (.bi .sel (.fn 60 (.bi .pair (.var 4) txRx13)) (.int 14))
abbrev txRx34 : E := (.bi .sel (.fn 60 (.bi .pair (.var 4) txRx13)) (.int 15))
abbrev txRx35 : E := (.bi .pair (.var 4) (.bi .pair (.var 5) txRx17))
abbrev txRx36 : E := (.bi .add (.bi .mul txRx10 (.int 128)) (.bi (.iop .rem .i64) txRx0 (.int 128)))
abbrev txRx37 : E := (.bi .pair (.var 4) (.bi .pair (.var 5) txRx18))
abbrev txRx38 : E := (.bi .add (.bi .mul txRx36 (.int 128)) (.bi (.iop .rem .i64) txRx1 (.int 128)))
abbrev txRx39 : E := (.bi .add (.bi .mul txRx38 (.int 128)) (.bi (.iop .rem .i64) txRx2 (.int 128)))
abbrev txRx40 : E := (.bi .add (.bi .mul txRx39 (.int 128)) (.bi (.iop .rem .i64) txRx3 (.int 128)))
abbrev txRx41 : E := (.bi .sub (.bi .add (.fn 51 txRx35) (.fn 50 txRx35)) (.fn 51 txRx35))
def getC : CSpec := { args := [.sslice 3 (.int 0) (.var 2) (.var 3) false, .sint .i64 (.var 5)], next := 2, rows := [(3, .eseq ⟨.u8, .var 6, .var 4⟩)], pre := [(.le (.int 0) (.var 5), true), (.le (.var 5) (.var 2), true), (.le (.var 2) (.var 6), true), (.le (.var 2) (.var 3), true), (.le (.var 2) (.int 1000000), true), (.le (.int 1) (.var 3), true), (.eq (.fn 20 (.bi .pair (.var 4) txRx4)) (.int 0), true)], res := .tuple [.sint .i64 (.fn 21 (.bi .pair (.var 4) txRx4)), .sint .i64 txRx15, .agg [.int .i64 0, .int .i64 0]], frows := [], same := [3] }
abbrev asRx0 : Q × Bool := ((.fit .i64 (.var 2)), true)
abbrev asRx1 : Q × Bool := ((.le (.var 2) (.var 5)), false)
abbrev asRx2 : Q × Bool := ((.le (.int 0) (.var 5)), true)
abbrev asRx3 : Q × Bool := ((.le (.var 6) (.var 5)), false)
abbrev asRx4 : Q × Bool := ((.eq (.bi .sel (.var 4) (.var 5)) (.int 128)), false)
abbrev asRx5 : Q × Bool := ((.fit .i64 (.var 5)), true)
abbrev asRx6 : Q × Bool := ((.fit .i64 txRx10), true)
abbrev asRx7 : Q × Bool := ((.le (.int 128) (.bi .sel (.var 4) (.var 5))), false)
abbrev asRx8 : Q × Bool := ((.le txRx10 (.int 2147483647)), true)
abbrev asRx9 : Q × Bool := ((.fit .i64 (.bi .add (.var 5) (.int 1))), true)
def getC_t0 : List (Q × Bool) := [asRx0, asRx1, asRx2, asRx3, asRx4, asRx5, asRx6, asRx7, asRx8, asRx9]
def getC_d0 : List Duty := [(true, txRx10, (.fn 21 (.bi .pair (.var 4) txRx4))), (true, (.bi .add (.var 5) (.int 1)), txRx15)]
theorem getC_y0 : endC getC [(3, 3)] 1000 (callC Try.prog (tellA getC_t0) [] [] [] 3000 40 52 getC) = some getC_d0 := by kernel_rfl
abbrev asRx10 : Q × Bool := ((.le (.int 128) (.bi .sel (.var 4) (.var 5))), true)
abbrev asRx11 : Q × Bool := ((.le (.var 2) (.bi .add (.var 5) (.int 1))), false)
abbrev asRx12 : Q × Bool := ((.le (.int 0) (.bi .add (.var 5) (.int 1))), true)
abbrev asRx13 : Q × Bool := ((.le (.var 6) (.bi .add (.var 5) (.int 1))), false)
abbrev asRx14 : Q × Bool := ((.fit .i64 (.bi .mul txRx10 (.int 128))), true)
abbrev asRx15 : Q × Bool := ((.fit .i64 txRx36), true)
abbrev asRx16 : Q × Bool := ((.le (.int 128) txRx0), false)
abbrev asRx17 : Q × Bool := ((.le txRx36 (.int 2147483647)), true)
abbrev asRx18 : Q × Bool := ((.fit .i64 (.bi .add (.var 5) (.int 2))), true)
def getC_t1 : List (Q × Bool) := [asRx0, asRx1, asRx2, asRx3, asRx4, asRx5, asRx6, asRx10, asRx9, asRx11, asRx12, asRx13, asRx14, asRx15, asRx16, asRx17, asRx18]
def getC_d1 : List Duty := [(true, txRx36, (.fn 21 (.bi .pair (.var 4) txRx4))), (true, (.bi .add (.var 5) (.int 2)), txRx15)]
theorem getC_y1 : endC getC [(3, 3)] 1000 (callC Try.prog (tellA getC_t1) [] [] [] 3000 40 52 getC) = some getC_d1 := by kernel_rfl
abbrev asRx19 : Q × Bool := ((.le (.int 128) txRx0), true)
abbrev asRx20 : Q × Bool := ((.le (.var 2) (.bi .add (.var 5) (.int 2))), false)
abbrev asRx21 : Q × Bool := ((.le (.int 0) (.bi .add (.var 5) (.int 2))), true)
abbrev asRx22 : Q × Bool := ((.le (.var 6) (.bi .add (.var 5) (.int 2))), false)
abbrev asRx23 : Q × Bool := ((.fit .i64 (.bi .mul txRx36 (.int 128))), true)
abbrev asRx24 : Q × Bool := ((.fit .i64 txRx38), true)
abbrev asRx25 : Q × Bool := ((.le (.int 128) txRx1), false)
abbrev asRx26 : Q × Bool := ((.le txRx38 (.int 2147483647)), true)
abbrev asRx27 : Q × Bool := ((.fit .i64 (.bi .add (.var 5) (.int 3))), true)
def getC_t2 : List (Q × Bool) := [asRx0, asRx1, asRx2, asRx3, asRx4, asRx5, asRx6, asRx10, asRx9, asRx11, asRx12, asRx13, asRx14, asRx15, asRx19, asRx18, asRx20, asRx21, asRx22, asRx23, asRx24, asRx25, asRx26, asRx27]
def getC_d2 : List Duty := [(true, txRx38, (.fn 21 (.bi .pair (.var 4) txRx4))), (true, (.bi .add (.var 5) (.int 3)), txRx15)]
theorem getC_y2 : endC getC [(3, 3)] 1000 (callC Try.prog (tellA getC_t2) [] [] [] 3000 40 52 getC) = some getC_d2 := by kernel_rfl
abbrev asRx28 : Q × Bool := ((.le (.int 128) txRx1), true)
abbrev asRx29 : Q × Bool := ((.le (.var 2) (.bi .add (.var 5) (.int 3))), false)
abbrev asRx30 : Q × Bool := ((.le (.int 0) (.bi .add (.var 5) (.int 3))), true)
abbrev asRx31 : Q × Bool := ((.le (.var 6) (.bi .add (.var 5) (.int 3))), false)
abbrev asRx32 : Q × Bool := ((.fit .i64 (.bi .mul txRx38 (.int 128))), true)
abbrev asRx33 : Q × Bool := ((.fit .i64 txRx39), true)
abbrev asRx34 : Q × Bool := ((.le (.int 128) txRx2), false)
abbrev asRx35 : Q × Bool := ((.le txRx39 (.int 2147483647)), true)
abbrev asRx36 : Q × Bool := ((.fit .i64 (.bi .add (.var 5) (.int 4))), true)
def getC_t3 : List (Q × Bool) := [asRx0, asRx1, asRx2, asRx3, asRx4, asRx5, asRx6, asRx10, asRx9, asRx11, asRx12, asRx13, asRx14, asRx15, asRx19, asRx18, asRx20, asRx21, asRx22, asRx23, asRx24, asRx28, asRx27, asRx29, asRx30, asRx31, asRx32, asRx33, asRx34, asRx35, asRx36]
def getC_d3 : List Duty := [(true, txRx39, (.fn 21 (.bi .pair (.var 4) txRx4))), (true, (.bi .add (.var 5) (.int 4)), txRx15)]
theorem getC_y3 : endC getC [(3, 3)] 1000 (callC Try.prog (tellA getC_t3) [] [] [] 3000 40 52 getC) = some getC_d3 := by kernel_rfl
abbrev asRx37 : Q × Bool := ((.le (.int 128) txRx2), true)
abbrev asRx38 : Q × Bool := ((.le (.var 2) (.bi .add (.var 5) (.int 4))), false)
abbrev asRx39 : Q × Bool := ((.le (.int 0) (.bi .add (.var 5) (.int 4))), true)
abbrev asRx40 : Q × Bool := ((.le (.var 6) (.bi .add (.var 5) (.int 4))), false)
abbrev asRx41 : Q × Bool := ((.fit .i64 (.bi .mul txRx39 (.int 128))), true)
abbrev asRx42 : Q × Bool := ((.fit .i64 txRx40), true)
abbrev asRx43 : Q × Bool := ((.le (.int 128) txRx3), false)
abbrev asRx44 : Q × Bool := ((.le txRx40 (.int 2147483647)), true)
abbrev asRx45 : Q × Bool := ((.fit .i64 (.bi .add (.var 5) (.int 5))), true)
def getC_t4 : List (Q × Bool) := [asRx0, asRx1, asRx2, asRx3, asRx4, asRx5, asRx6, asRx10, asRx9, asRx11, asRx12, asRx13, asRx14, asRx15, asRx19, asRx18, asRx20, asRx21, asRx22, asRx23, asRx24, asRx28, asRx27, asRx29, asRx30, asRx31, asRx32, asRx33, asRx37, asRx36, asRx38, asRx39, asRx40, asRx41, asRx42, asRx43, asRx44, asRx45]
def getC_d4 : List Duty := [(true, txRx40, (.fn 21 (.bi .pair (.var 4) txRx4))), (true, (.bi .add (.var 5) (.int 5)), txRx15)]
theorem getC_y4 : endC getC [(3, 3)] 1000 (callC Try.prog (tellA getC_t4) [] [] [] 3000 40 52 getC) = some getC_d4 := by kernel_rfl
theorem getC_holds : CHolds Try.prog 52 getC F := by
  refine cholds_of sound (tableNil _ _) (specsNil _ _) (oversNil _ _) (fuel := 3000) (depth := 40) (by kernel_rfl) fun d hp hR hA => ?_
  have hp := allTold'_iff.2 hp
  simp only [getC, allTold', dutiesTold, factsA, factsC, factsP, factsR, AV.facts, RW.facts, inK, and_true, Q.holds', E.i, E.s, E.n, D.nat, E.den, BO.den, UO.den, TO.den, D.toInt_int, D.toList_list, D.ints_ofInts, i64min, i64max, u8min, u8max, u16min, u16max, u32min, u32max, u64min, u64max, i32min, i32max, Om.sub, selI, ints_app, ints_cut, ints_upd, ints_rep, ints_splice, ints_seg, len_ints] at hp hR hA
  have hx : ∀ c ∈ (d 4).ints, 0 ≤ c ∧ c ≤ 255 := hR.2
  obtain ⟨c0, c1, c2, c3, c4, h0, h1, h2, h3, h4, g0, g1, g2, g3, g4, hn⟩ := num_at (x := (d 4).ints) (o := (d 5).toInt) (t := (d 2).toInt) (by omega) (by omega) hx
  have k0 := hp
  simp only [F20, allTold', dutiesTold, factsA, factsC, factsP, factsR, AV.facts, RW.facts, inK, and_true, Q.holds', E.i, E.s, E.n, D.nat, E.den, BO.den, UO.den, TO.den, D.toInt_int, D.toList_list, D.ints_ofInts, i64min, i64max, u8min, u8max, u16min, u16max, u32min, u32max, u64min, u64max, i32min, i32max, Om.sub, selI, ints_app, ints_cut, ints_upd, ints_rep, ints_splice, ints_seg, len_ints] at k0
  rcases hn with hn | hn | hn | hn | hn | hn | hn | hn | hn | hn | hn | hn | hn
  · exfalso
    have hv := hn.2
    simp only [hv] at k0
    omega
  · exfalso
    have hv := hn.2.2
    simp only [hv] at k0
    omega
  · have hv := hn.2.2
    have r0 : iopI .rem .i64 c0 128 = c0 := by rw [rem_emod _ (by omega)]; omega
    refine ⟨tellA getC_t0, _, _, _, tellA_ok (allTold'_iff.1 ?_), getC_y0, dutiesTold_ok ?_⟩
    · simp only [getC_t0, F20, allTold', dutiesTold, factsA, factsC, factsP, factsR, AV.facts, RW.facts, inK, and_true, Q.holds', E.i, E.s, E.n, D.nat, E.den, BO.den, UO.den, TO.den, D.toInt_int, D.toList_list, D.ints_ofInts, i64min, i64max, u8min, u8max, u16min, u16max, u32min, u32max, u64min, u64max, i32min, i32max, Om.sub, selI, ints_app, ints_cut, ints_upd, ints_rep, ints_splice, ints_seg, len_ints]
      try simp only [← h0, ← h1, ← h2, ← h3, ← h4, r0]
      and_intros <;> first | omega | trivial
    · simp only [getC_d0, F20, F21, F22, F23, F24, allTold', dutiesTold, factsA, factsC, factsP, factsR, AV.facts, RW.facts, inK, and_true, Q.holds', E.i, E.s, E.n, D.nat, E.den, BO.den, UO.den, TO.den, D.toInt_int, D.toList_list, D.ints_ofInts, i64min, i64max, u8min, u8max, u16min, u16max, u32min, u32max, u64min, u64max, i32min, i32max, Om.sub, selI, ints_app, ints_cut, ints_upd, ints_rep, ints_splice, ints_seg, len_ints]
      try simp only [← h0, ← h1, ← h2, ← h3, ← h4, r0, hv]
      first | done | omega | (and_intros <;> first | rfl | omega | trivial)
  · exfalso
    have hv := hn.2.2.2
    simp only [hv] at k0
    omega
  · have hv := hn.2.2.2
    have r0 : iopI .rem .i64 c0 128 = c0 - 128 := by rw [rem_emod _ (by omega)]; omega
    have r1 : iopI .rem .i64 c1 128 = c1 := by rw [rem_emod _ (by omega)]; omega
    refine ⟨tellA getC_t1, _, _, _, tellA_ok (allTold'_iff.1 ?_), getC_y1, dutiesTold_ok ?_⟩
    · simp only [getC_t1, F20, allTold', dutiesTold, factsA, factsC, factsP, factsR, AV.facts, RW.facts, inK, and_true, Q.holds', E.i, E.s, E.n, D.nat, E.den, BO.den, UO.den, TO.den, D.toInt_int, D.toList_list, D.ints_ofInts, i64min, i64max, u8min, u8max, u16min, u16max, u32min, u32max, u64min, u64max, i32min, i32max, Om.sub, selI, ints_app, ints_cut, ints_upd, ints_rep, ints_splice, ints_seg, len_ints]
      try simp only [← h0, ← h1, ← h2, ← h3, ← h4, r0, r1]
      and_intros <;> first | omega | trivial
    · simp only [getC_d1, F20, F21, F22, F23, F24, allTold', dutiesTold, factsA, factsC, factsP, factsR, AV.facts, RW.facts, inK, and_true, Q.holds', E.i, E.s, E.n, D.nat, E.den, BO.den, UO.den, TO.den, D.toInt_int, D.toList_list, D.ints_ofInts, i64min, i64max, u8min, u8max, u16min, u16max, u32min, u32max, u64min, u64max, i32min, i32max, Om.sub, selI, ints_app, ints_cut, ints_upd, ints_rep, ints_splice, ints_seg, len_ints]
      try simp only [← h0, ← h1, ← h2, ← h3, ← h4, r0, r1, hv]
      first | done | omega | (and_intros <;> first | rfl | omega | trivial)
  · exfalso
    have hv := hn.2.2.2.2
    simp only [hv] at k0
    omega
  · have hv := hn.2.2.2.2
    have r0 : iopI .rem .i64 c0 128 = c0 - 128 := by rw [rem_emod _ (by omega)]; omega
    have r1 : iopI .rem .i64 c1 128 = c1 - 128 := by rw [rem_emod _ (by omega)]; omega
    have r2 : iopI .rem .i64 c2 128 = c2 := by rw [rem_emod _ (by omega)]; omega
    refine ⟨tellA getC_t2, _, _, _, tellA_ok (allTold'_iff.1 ?_), getC_y2, dutiesTold_ok ?_⟩
    · simp only [getC_t2, F20, allTold', dutiesTold, factsA, factsC, factsP, factsR, AV.facts, RW.facts, inK, and_true, Q.holds', E.i, E.s, E.n, D.nat, E.den, BO.den, UO.den, TO.den, D.toInt_int, D.toList_list, D.ints_ofInts, i64min, i64max, u8min, u8max, u16min, u16max, u32min, u32max, u64min, u64max, i32min, i32max, Om.sub, selI, ints_app, ints_cut, ints_upd, ints_rep, ints_splice, ints_seg, len_ints]
      try simp only [← h0, ← h1, ← h2, ← h3, ← h4, r0, r1, r2]
      and_intros <;> first | omega | trivial
    · simp only [getC_d2, F20, F21, F22, F23, F24, allTold', dutiesTold, factsA, factsC, factsP, factsR, AV.facts, RW.facts, inK, and_true, Q.holds', E.i, E.s, E.n, D.nat, E.den, BO.den, UO.den, TO.den, D.toInt_int, D.toList_list, D.ints_ofInts, i64min, i64max, u8min, u8max, u16min, u16max, u32min, u32max, u64min, u64max, i32min, i32max, Om.sub, selI, ints_app, ints_cut, ints_upd, ints_rep, ints_splice, ints_seg, len_ints]
      try simp only [← h0, ← h1, ← h2, ← h3, ← h4, r0, r1, r2, hv]
      first | done | omega | (and_intros <;> first | rfl | omega | trivial)
  · exfalso
    have hv := hn.2.2.2.2.2
    simp only [hv] at k0
    omega
  · have hv := hn.2.2.2.2.2
    have r0 : iopI .rem .i64 c0 128 = c0 - 128 := by rw [rem_emod _ (by omega)]; omega
    have r1 : iopI .rem .i64 c1 128 = c1 - 128 := by rw [rem_emod _ (by omega)]; omega
    have r2 : iopI .rem .i64 c2 128 = c2 - 128 := by rw [rem_emod _ (by omega)]; omega
    have r3 : iopI .rem .i64 c3 128 = c3 := by rw [rem_emod _ (by omega)]; omega
    refine ⟨tellA getC_t3, _, _, _, tellA_ok (allTold'_iff.1 ?_), getC_y3, dutiesTold_ok ?_⟩
    · simp only [getC_t3, F20, allTold', dutiesTold, factsA, factsC, factsP, factsR, AV.facts, RW.facts, inK, and_true, Q.holds', E.i, E.s, E.n, D.nat, E.den, BO.den, UO.den, TO.den, D.toInt_int, D.toList_list, D.ints_ofInts, i64min, i64max, u8min, u8max, u16min, u16max, u32min, u32max, u64min, u64max, i32min, i32max, Om.sub, selI, ints_app, ints_cut, ints_upd, ints_rep, ints_splice, ints_seg, len_ints]
      try simp only [← h0, ← h1, ← h2, ← h3, ← h4, r0, r1, r2, r3]
      and_intros <;> first | omega | trivial
    · simp only [getC_d3, F20, F21, F22, F23, F24, allTold', dutiesTold, factsA, factsC, factsP, factsR, AV.facts, RW.facts, inK, and_true, Q.holds', E.i, E.s, E.n, D.nat, E.den, BO.den, UO.den, TO.den, D.toInt_int, D.toList_list, D.ints_ofInts, i64min, i64max, u8min, u8max, u16min, u16max, u32min, u32max, u64min, u64max, i32min, i32max, Om.sub, selI, ints_app, ints_cut, ints_upd, ints_rep, ints_splice, ints_seg, len_ints]
      try simp only [← h0, ← h1, ← h2, ← h3, ← h4, r0, r1, r2, r3, hv]
      first | done | omega | (and_intros <;> first | rfl | omega | trivial)
  · exfalso
    have hv := hn.2.2.2.2.2.2
    simp only [hv] at k0
    omega
  · have hv := hn.2.2.2.2.2.2.2
    have r0 : iopI .rem .i64 c0 128 = c0 - 128 := by rw [rem_emod _ (by omega)]; omega
    have r1 : iopI .rem .i64 c1 128 = c1 - 128 := by rw [rem_emod _ (by omega)]; omega
    have r2 : iopI .rem .i64 c2 128 = c2 - 128 := by rw [rem_emod _ (by omega)]; omega
    have r3 : iopI .rem .i64 c3 128 = c3 - 128 := by rw [rem_emod _ (by omega)]; omega
    have r4 : iopI .rem .i64 c4 128 = c4 := by rw [rem_emod _ (by omega)]; omega
    refine ⟨tellA getC_t4, _, _, _, tellA_ok (allTold'_iff.1 ?_), getC_y4, dutiesTold_ok ?_⟩
    · simp only [getC_t4, F20, allTold', dutiesTold, factsA, factsC, factsP, factsR, AV.facts, RW.facts, inK, and_true, Q.holds', E.i, E.s, E.n, D.nat, E.den, BO.den, UO.den, TO.den, D.toInt_int, D.toList_list, D.ints_ofInts, i64min, i64max, u8min, u8max, u16min, u16max, u32min, u32max, u64min, u64max, i32min, i32max, Om.sub, selI, ints_app, ints_cut, ints_upd, ints_rep, ints_splice, ints_seg, len_ints]
      try simp only [← h0, ← h1, ← h2, ← h3, ← h4, r0, r1, r2, r3, r4]
      and_intros <;> first | omega | trivial
    · simp only [getC_d4, F20, F21, F22, F23, F24, allTold', dutiesTold, factsA, factsC, factsP, factsR, AV.facts, RW.facts, inK, and_true, Q.holds', E.i, E.s, E.n, D.nat, E.den, BO.den, UO.den, TO.den, D.toInt_int, D.toList_list, D.ints_ofInts, i64min, i64max, u8min, u8max, u16min, u16max, u32min, u32max, u64min, u64max, i32min, i32max, Om.sub, selI, ints_app, ints_cut, ints_upd, ints_rep, ints_splice, ints_seg, len_ints]
      try simp only [← h0, ← h1, ← h2, ← h3, ← h4, r0, r1, r2, r3, r4, hv]
      first | done | omega | (and_intros <;> first | rfl | omega | trivial)
  · exfalso
    have hv := hn.2.2.2.2.2.2.2
    simp only [hv] at k0
    omega
  · exfalso
    have hv := hn.2.2.2.2.2.2
    simp only [hv] at k0
    omega

def getB : CSpec := { args := [.sslice 3 (.int 0) (.var 2) (.var 3) false, .sint .i64 (.var 5)], next := 2, rows := [(3, .eseq ⟨.u8, .var 6, .var 4⟩)], pre := [(.le (.int 0) (.var 5), true), (.le (.var 5) (.var 2), true), (.le (.var 2) (.var 6), true), (.le (.var 2) (.var 3), true), (.le (.var 2) (.int 1000000), true), (.le (.int 1) (.var 3), true), (.eq (.fn 20 (.bi .pair (.var 4) txRx4)) (.int 0), false)], res := .tuple [.int .i64 0, .int .i64 0, .agg [.sint .i64 (.fn 23 (.bi .pair (.var 4) txRx4)), .sint .i64 (.fn 24 (.bi .pair (.var 4) txRx4))]], frows := [], same := [3] }
abbrev asRx46 : Q × Bool := ((.le (.var 2) (.var 5)), true)
def getB_t0 : List (Q × Bool) := [asRx0, asRx46, asRx5]
def getB_d0 : List Duty := [(true, (.int 4), (.fn 23 (.bi .pair (.var 4) txRx4))), (true, (.var 2), (.fn 24 (.bi .pair (.var 4) txRx4)))]
theorem getB_y0 : endC getB [(3, 3)] 1000 (callC Try.prog (tellA getB_t0) [] [] [] 3000 40 52 getB) = some getB_d0 := by kernel_rfl
abbrev asRx47 : Q × Bool := ((.eq (.bi .sel (.var 4) (.var 5)) (.int 128)), true)
def getB_t1 : List (Q × Bool) := [asRx0, asRx1, asRx2, asRx3, asRx47]
def getB_d1 : List Duty := [(true, (.int 4), (.fn 23 (.bi .pair (.var 4) txRx4))), (true, (.var 5), (.fn 24 (.bi .pair (.var 4) txRx4)))]
theorem getB_y1 : endC getB [(3, 3)] 1000 (callC Try.prog (tellA getB_t1) [] [] [] 3000 40 52 getB) = some getB_d1 := by kernel_rfl
abbrev asRx48 : Q × Bool := ((.le (.var 2) (.bi .add (.var 5) (.int 1))), true)
def getB_t2 : List (Q × Bool) := [asRx0, asRx1, asRx2, asRx3, asRx4, asRx5, asRx6, asRx10, asRx9, asRx48]
def getB_d2 : List Duty := [(true, (.int 4), (.fn 23 (.bi .pair (.var 4) txRx4))), (true, (.var 2), (.fn 24 (.bi .pair (.var 4) txRx4)))]
theorem getB_y2 : endC getB [(3, 3)] 1000 (callC Try.prog (tellA getB_t2) [] [] [] 3000 40 52 getB) = some getB_d2 := by kernel_rfl
abbrev asRx49 : Q × Bool := ((.le (.var 2) (.bi .add (.var 5) (.int 2))), true)
def getB_t3 : List (Q × Bool) := [asRx0, asRx1, asRx2, asRx3, asRx4, asRx5, asRx6, asRx10, asRx9, asRx11, asRx12, asRx13, asRx14, asRx15, asRx19, asRx18, asRx49]
def getB_d3 : List Duty := [(true, (.int 4), (.fn 23 (.bi .pair (.var 4) txRx4))), (true, (.var 2), (.fn 24 (.bi .pair (.var 4) txRx4)))]
theorem getB_y3 : endC getB [(3, 3)] 1000 (callC Try.prog (tellA getB_t3) [] [] [] 3000 40 52 getB) = some getB_d3 := by kernel_rfl
abbrev asRx50 : Q × Bool := ((.le (.var 2) (.bi .add (.var 5) (.int 3))), true)
def getB_t4 : List (Q × Bool) := [asRx0, asRx1, asRx2, asRx3, asRx4, asRx5, asRx6, asRx10, asRx9, asRx11, asRx12, asRx13, asRx14, asRx15, asRx19, asRx18, asRx20, asRx21, asRx22, asRx23, asRx24, asRx28, asRx27, asRx50]
def getB_d4 : List Duty := [(true, (.int 4), (.fn 23 (.bi .pair (.var 4) txRx4))), (true, (.var 2), (.fn 24 (.bi .pair (.var 4) txRx4)))]
theorem getB_y4 : endC getB [(3, 3)] 1000 (callC Try.prog (tellA getB_t4) [] [] [] 3000 40 52 getB) = some getB_d4 := by kernel_rfl
abbrev asRx51 : Q × Bool := ((.le (.var 2) (.bi .add (.var 5) (.int 4))), true)
def getB_t5 : List (Q × Bool) := [asRx0, asRx1, asRx2, asRx3, asRx4, asRx5, asRx6, asRx10, asRx9, asRx11, asRx12, asRx13, asRx14, asRx15, asRx19, asRx18, asRx20, asRx21, asRx22, asRx23, asRx24, asRx28, asRx27, asRx29, asRx30, asRx31, asRx32, asRx33, asRx37, asRx36, asRx51]
def getB_d5 : List Duty := [(true, (.int 4), (.fn 23 (.bi .pair (.var 4) txRx4))), (true, (.var 2), (.fn 24 (.bi .pair (.var 4) txRx4)))]
theorem getB_y5 : endC getB [(3, 3)] 1000 (callC Try.prog (tellA getB_t5) [] [] [] 3000 40 52 getB) = some getB_d5 := by kernel_rfl
abbrev asRx52 : Q × Bool := ((.le (.int 128) txRx3), true)
def getB_t6 : List (Q × Bool) := [asRx0, asRx1, asRx2, asRx3, asRx4, asRx5, asRx6, asRx10, asRx9, asRx11, asRx12, asRx13, asRx14, asRx15, asRx19, asRx18, asRx20, asRx21, asRx22, asRx23, asRx24, asRx28, asRx27, asRx29, asRx30, asRx31, asRx32, asRx33, asRx37, asRx36, asRx38, asRx39, asRx40, asRx41, asRx42, asRx52]
def getB_d6 : List Duty := [(true, (.int 5), (.fn 23 (.bi .pair (.var 4) txRx4))), (true, (.var 5), (.fn 24 (.bi .pair (.var 4) txRx4)))]
theorem getB_y6 : endC getB [(3, 3)] 1000 (callC Try.prog (tellA getB_t6) [] [] [] 3000 40 52 getB) = some getB_d6 := by kernel_rfl
abbrev asRx53 : Q × Bool := ((.le txRx40 (.int 2147483647)), false)
def getB_t7 : List (Q × Bool) := [asRx0, asRx1, asRx2, asRx3, asRx4, asRx5, asRx6, asRx10, asRx9, asRx11, asRx12, asRx13, asRx14, asRx15, asRx19, asRx18, asRx20, asRx21, asRx22, asRx23, asRx24, asRx28, asRx27, asRx29, asRx30, asRx31, asRx32, asRx33, asRx37, asRx36, asRx38, asRx39, asRx40, asRx41, asRx42, asRx43, asRx53]
def getB_d7 : List Duty := [(true, (.int 5), (.fn 23 (.bi .pair (.var 4) txRx4))), (true, (.var 5), (.fn 24 (.bi .pair (.var 4) txRx4)))]
theorem getB_y7 : endC getB [(3, 3)] 1000 (callC Try.prog (tellA getB_t7) [] [] [] 3000 40 52 getB) = some getB_d7 := by kernel_rfl
theorem getB_holds : CHolds Try.prog 52 getB F := by
  refine cholds_of sound (tableNil _ _) (specsNil _ _) (oversNil _ _) (fuel := 3000) (depth := 40) (by kernel_rfl) fun d hp hR hA => ?_
  have hp := allTold'_iff.2 hp
  simp only [getB, allTold', dutiesTold, factsA, factsC, factsP, factsR, AV.facts, RW.facts, inK, and_true, Q.holds', E.i, E.s, E.n, D.nat, E.den, BO.den, UO.den, TO.den, D.toInt_int, D.toList_list, D.ints_ofInts, i64min, i64max, u8min, u8max, u16min, u16max, u32min, u32max, u64min, u64max, i32min, i32max, Om.sub, selI, ints_app, ints_cut, ints_upd, ints_rep, ints_splice, ints_seg, len_ints] at hp hR hA
  have hx : ∀ c ∈ (d 4).ints, 0 ≤ c ∧ c ≤ 255 := hR.2
  obtain ⟨c0, c1, c2, c3, c4, h0, h1, h2, h3, h4, g0, g1, g2, g3, g4, hn⟩ := num_at (x := (d 4).ints) (o := (d 5).toInt) (t := (d 2).toInt) (by omega) (by omega) hx
  have k0 := hp
  simp only [F20, allTold', dutiesTold, factsA, factsC, factsP, factsR, AV.facts, RW.facts, inK, and_true, Q.holds', E.i, E.s, E.n, D.nat, E.den, BO.den, UO.den, TO.den, D.toInt_int, D.toList_list, D.ints_ofInts, i64min, i64max, u8min, u8max, u16min, u16max, u32min, u32max, u64min, u64max, i32min, i32max, Om.sub, selI, ints_app, ints_cut, ints_upd, ints_rep, ints_splice, ints_seg, len_ints] at k0
  rcases hn with hn | hn | hn | hn | hn | hn | hn | hn | hn | hn | hn | hn | hn
  · have hv := hn.2
    refine ⟨tellA getB_t0, _, _, _, tellA_ok (allTold'_iff.1 ?_), getB_y0, dutiesTold_ok ?_⟩
    · simp only [getB_t0, F20, allTold', dutiesTold, factsA, factsC, factsP, factsR, AV.facts, RW.facts, inK, and_true, Q.holds', E.i, E.s, E.n, D.nat, E.den, BO.den, UO.den, TO.den, D.toInt_int, D.toList_list, D.ints_ofInts, i64min, i64max, u8min, u8max, u16min, u16max, u32min, u32max, u64min, u64max, i32min, i32max, Om.sub, selI, ints_app, ints_cut, ints_upd, ints_rep, ints_splice, ints_seg, len_ints]
      try simp only [← h0, ← h1, ← h2, ← h3, ← h4]
      and_intros <;> first | omega | trivial
    · simp only [getB_d0, F20, F21, F22, F23, F24, allTold', dutiesTold, factsA, factsC, factsP, factsR, AV.facts, RW.facts, inK, and_true, Q.holds', E.i, E.s, E.n, D.nat, E.den, BO.den, UO.den, TO.den, D.toInt_int, D.toList_list, D.ints_ofInts, i64min, i64max, u8min, u8max, u16min, u16max, u32min, u32max, u64min, u64max, i32min, i32max, Om.sub, selI, ints_app, ints_cut, ints_upd, ints_rep, ints_splice, ints_seg, len_ints]
      try simp only [← h0, ← h1, ← h2, ← h3, ← h4, hv]
      first | done | omega | (and_intros <;> first | rfl | omega | trivial)
  · have hv := hn.2.2
    refine ⟨tellA getB_t1, _, _, _, tellA_ok (allTold'_iff.1 ?_), getB_y1, dutiesTold_ok ?_⟩
    · simp only [getB_t1, F20, allTold', dutiesTold, factsA, factsC, factsP, factsR, AV.facts, RW.facts, inK, and_true, Q.holds', E.i, E.s, E.n, D.nat, E.den, BO.den, UO.den, TO.den, D.toInt_int, D.toList_list, D.ints_ofInts, i64min, i64max, u8min, u8max, u16min, u16max, u32min, u32max, u64min, u64max, i32min, i32max, Om.sub, selI, ints_app, ints_cut, ints_upd, ints_rep, ints_splice, ints_seg, len_ints]
      try simp only [← h0, ← h1, ← h2, ← h3, ← h4]
      and_intros <;> first | omega | trivial
    · simp only [getB_d1, F20, F21, F22, F23, F24, allTold', dutiesTold, factsA, factsC, factsP, factsR, AV.facts, RW.facts, inK, and_true, Q.holds', E.i, E.s, E.n, D.nat, E.den, BO.den, UO.den, TO.den, D.toInt_int, D.toList_list, D.ints_ofInts, i64min, i64max, u8min, u8max, u16min, u16max, u32min, u32max, u64min, u64max, i32min, i32max, Om.sub, selI, ints_app, ints_cut, ints_upd, ints_rep, ints_splice, ints_seg, len_ints]
      try simp only [← h0, ← h1, ← h2, ← h3, ← h4, hv]
      first | done | omega | (and_intros <;> first | rfl | omega | trivial)
  · exfalso
    have hv := hn.2.2
    simp only [hv] at k0
    omega
  · have hv := hn.2.2.2
    have r0 : iopI .rem .i64 c0 128 = c0 - 128 := by rw [rem_emod _ (by omega)]; omega
    refine ⟨tellA getB_t2, _, _, _, tellA_ok (allTold'_iff.1 ?_), getB_y2, dutiesTold_ok ?_⟩
    · simp only [getB_t2, F20, allTold', dutiesTold, factsA, factsC, factsP, factsR, AV.facts, RW.facts, inK, and_true, Q.holds', E.i, E.s, E.n, D.nat, E.den, BO.den, UO.den, TO.den, D.toInt_int, D.toList_list, D.ints_ofInts, i64min, i64max, u8min, u8max, u16min, u16max, u32min, u32max, u64min, u64max, i32min, i32max, Om.sub, selI, ints_app, ints_cut, ints_upd, ints_rep, ints_splice, ints_seg, len_ints]
      try simp only [← h0, ← h1, ← h2, ← h3, ← h4, r0]
      and_intros <;> first | omega | trivial
    · simp only [getB_d2, F20, F21, F22, F23, F24, allTold', dutiesTold, factsA, factsC, factsP, factsR, AV.facts, RW.facts, inK, and_true, Q.holds', E.i, E.s, E.n, D.nat, E.den, BO.den, UO.den, TO.den, D.toInt_int, D.toList_list, D.ints_ofInts, i64min, i64max, u8min, u8max, u16min, u16max, u32min, u32max, u64min, u64max, i32min, i32max, Om.sub, selI, ints_app, ints_cut, ints_upd, ints_rep, ints_splice, ints_seg, len_ints]
      try simp only [← h0, ← h1, ← h2, ← h3, ← h4, r0, hv]
      first | done | omega | (and_intros <;> first | rfl | omega | trivial)
  · exfalso
    have hv := hn.2.2.2
    simp only [hv] at k0
    omega
  · have hv := hn.2.2.2.2
    have r0 : iopI .rem .i64 c0 128 = c0 - 128 := by rw [rem_emod _ (by omega)]; omega
    have r1 : iopI .rem .i64 c1 128 = c1 - 128 := by rw [rem_emod _ (by omega)]; omega
    refine ⟨tellA getB_t3, _, _, _, tellA_ok (allTold'_iff.1 ?_), getB_y3, dutiesTold_ok ?_⟩
    · simp only [getB_t3, F20, allTold', dutiesTold, factsA, factsC, factsP, factsR, AV.facts, RW.facts, inK, and_true, Q.holds', E.i, E.s, E.n, D.nat, E.den, BO.den, UO.den, TO.den, D.toInt_int, D.toList_list, D.ints_ofInts, i64min, i64max, u8min, u8max, u16min, u16max, u32min, u32max, u64min, u64max, i32min, i32max, Om.sub, selI, ints_app, ints_cut, ints_upd, ints_rep, ints_splice, ints_seg, len_ints]
      try simp only [← h0, ← h1, ← h2, ← h3, ← h4, r0, r1]
      and_intros <;> first | omega | trivial
    · simp only [getB_d3, F20, F21, F22, F23, F24, allTold', dutiesTold, factsA, factsC, factsP, factsR, AV.facts, RW.facts, inK, and_true, Q.holds', E.i, E.s, E.n, D.nat, E.den, BO.den, UO.den, TO.den, D.toInt_int, D.toList_list, D.ints_ofInts, i64min, i64max, u8min, u8max, u16min, u16max, u32min, u32max, u64min, u64max, i32min, i32max, Om.sub, selI, ints_app, ints_cut, ints_upd, ints_rep, ints_splice, ints_seg, len_ints]
      try simp only [← h0, ← h1, ← h2, ← h3, ← h4, r0, r1, hv]
      first | done | omega | (and_intros <;> first | rfl | omega | trivial)
  · exfalso
    have hv := hn.2.2.2.2
    simp only [hv] at k0
    omega
  · have hv := hn.2.2.2.2.2
    have r0 : iopI .rem .i64 c0 128 = c0 - 128 := by rw [rem_emod _ (by omega)]; omega
    have r1 : iopI .rem .i64 c1 128 = c1 - 128 := by rw [rem_emod _ (by omega)]; omega
    have r2 : iopI .rem .i64 c2 128 = c2 - 128 := by rw [rem_emod _ (by omega)]; omega
    refine ⟨tellA getB_t4, _, _, _, tellA_ok (allTold'_iff.1 ?_), getB_y4, dutiesTold_ok ?_⟩
    · simp only [getB_t4, F20, allTold', dutiesTold, factsA, factsC, factsP, factsR, AV.facts, RW.facts, inK, and_true, Q.holds', E.i, E.s, E.n, D.nat, E.den, BO.den, UO.den, TO.den, D.toInt_int, D.toList_list, D.ints_ofInts, i64min, i64max, u8min, u8max, u16min, u16max, u32min, u32max, u64min, u64max, i32min, i32max, Om.sub, selI, ints_app, ints_cut, ints_upd, ints_rep, ints_splice, ints_seg, len_ints]
      try simp only [← h0, ← h1, ← h2, ← h3, ← h4, r0, r1, r2]
      and_intros <;> first | omega | trivial
    · simp only [getB_d4, F20, F21, F22, F23, F24, allTold', dutiesTold, factsA, factsC, factsP, factsR, AV.facts, RW.facts, inK, and_true, Q.holds', E.i, E.s, E.n, D.nat, E.den, BO.den, UO.den, TO.den, D.toInt_int, D.toList_list, D.ints_ofInts, i64min, i64max, u8min, u8max, u16min, u16max, u32min, u32max, u64min, u64max, i32min, i32max, Om.sub, selI, ints_app, ints_cut, ints_upd, ints_rep, ints_splice, ints_seg, len_ints]
      try simp only [← h0, ← h1, ← h2, ← h3, ← h4, r0, r1, r2, hv]
      first | done | omega | (and_intros <;> first | rfl | omega | trivial)
  · exfalso
    have hv := hn.2.2.2.2.2
    simp only [hv] at k0
    omega
  · have hv := hn.2.2.2.2.2.2
    have r0 : iopI .rem .i64 c0 128 = c0 - 128 := by rw [rem_emod _ (by omega)]; omega
    have r1 : iopI .rem .i64 c1 128 = c1 - 128 := by rw [rem_emod _ (by omega)]; omega
    have r2 : iopI .rem .i64 c2 128 = c2 - 128 := by rw [rem_emod _ (by omega)]; omega
    have r3 : iopI .rem .i64 c3 128 = c3 - 128 := by rw [rem_emod _ (by omega)]; omega
    refine ⟨tellA getB_t5, _, _, _, tellA_ok (allTold'_iff.1 ?_), getB_y5, dutiesTold_ok ?_⟩
    · simp only [getB_t5, F20, allTold', dutiesTold, factsA, factsC, factsP, factsR, AV.facts, RW.facts, inK, and_true, Q.holds', E.i, E.s, E.n, D.nat, E.den, BO.den, UO.den, TO.den, D.toInt_int, D.toList_list, D.ints_ofInts, i64min, i64max, u8min, u8max, u16min, u16max, u32min, u32max, u64min, u64max, i32min, i32max, Om.sub, selI, ints_app, ints_cut, ints_upd, ints_rep, ints_splice, ints_seg, len_ints]
      try simp only [← h0, ← h1, ← h2, ← h3, ← h4, r0, r1, r2, r3]
      and_intros <;> first | omega | trivial
    · simp only [getB_d5, F20, F21, F22, F23, F24, allTold', dutiesTold, factsA, factsC, factsP, factsR, AV.facts, RW.facts, inK, and_true, Q.holds', E.i, E.s, E.n, D.nat, E.den, BO.den, UO.den, TO.den, D.toInt_int, D.toList_list, D.ints_ofInts, i64min, i64max, u8min, u8max, u16min, u16max, u32min, u32max, u64min, u64max, i32min, i32max, Om.sub, selI, ints_app, ints_cut, ints_upd, ints_rep, ints_splice, ints_seg, len_ints]
      try simp only [← h0, ← h1, ← h2, ← h3, ← h4, r0, r1, r2, r3, hv]
      first | done | omega | (and_intros <;> first | rfl | omega | trivial)
  · exfalso
    have hv := hn.2.2.2.2.2.2.2
    simp only [hv] at k0
    omega
  · have hv := hn.2.2.2.2.2.2.2
    have r0 : iopI .rem .i64 c0 128 = c0 - 128 := by rw [rem_emod _ (by omega)]; omega
    have r1 : iopI .rem .i64 c1 128 = c1 - 128 := by rw [rem_emod _ (by omega)]; omega
    have r2 : iopI .rem .i64 c2 128 = c2 - 128 := by rw [rem_emod _ (by omega)]; omega
    have r3 : iopI .rem .i64 c3 128 = c3 - 128 := by rw [rem_emod _ (by omega)]; omega
    have r4 : iopI .rem .i64 c4 128 = c4 := by rw [rem_emod _ (by omega)]; omega
    refine ⟨tellA getB_t7, _, _, _, tellA_ok (allTold'_iff.1 ?_), getB_y7, dutiesTold_ok ?_⟩
    · simp only [getB_t7, F20, allTold', dutiesTold, factsA, factsC, factsP, factsR, AV.facts, RW.facts, inK, and_true, Q.holds', E.i, E.s, E.n, D.nat, E.den, BO.den, UO.den, TO.den, D.toInt_int, D.toList_list, D.ints_ofInts, i64min, i64max, u8min, u8max, u16min, u16max, u32min, u32max, u64min, u64max, i32min, i32max, Om.sub, selI, ints_app, ints_cut, ints_upd, ints_rep, ints_splice, ints_seg, len_ints]
      try simp only [← h0, ← h1, ← h2, ← h3, ← h4, r0, r1, r2, r3, r4]
      and_intros <;> first | omega | trivial
    · simp only [getB_d7, F20, F21, F22, F23, F24, allTold', dutiesTold, factsA, factsC, factsP, factsR, AV.facts, RW.facts, inK, and_true, Q.holds', E.i, E.s, E.n, D.nat, E.den, BO.den, UO.den, TO.den, D.toInt_int, D.toList_list, D.ints_ofInts, i64min, i64max, u8min, u8max, u16min, u16max, u32min, u32max, u64min, u64max, i32min, i32max, Om.sub, selI, ints_app, ints_cut, ints_upd, ints_rep, ints_splice, ints_seg, len_ints]
      try simp only [← h0, ← h1, ← h2, ← h3, ← h4, r0, r1, r2, r3, r4, hv]
      first | done | omega | (and_intros <;> first | rfl | omega | trivial)
  · have hv := hn.2.2.2.2.2.2
    have r0 : iopI .rem .i64 c0 128 = c0 - 128 := by rw [rem_emod _ (by omega)]; omega
    have r1 : iopI .rem .i64 c1 128 = c1 - 128 := by rw [rem_emod _ (by omega)]; omega
    have r2 : iopI .rem .i64 c2 128 = c2 - 128 := by rw [rem_emod _ (by omega)]; omega
    have r3 : iopI .rem .i64 c3 128 = c3 - 128 := by rw [rem_emod _ (by omega)]; omega
    have r4 : iopI .rem .i64 c4 128 = c4 - 128 := by rw [rem_emod _ (by omega)]; omega
    refine ⟨tellA getB_t6, _, _, _, tellA_ok (allTold'_iff.1 ?_), getB_y6, dutiesTold_ok ?_⟩
    · simp only [getB_t6, F20, allTold', dutiesTold, factsA, factsC, factsP, factsR, AV.facts, RW.facts, inK, and_true, Q.holds', E.i, E.s, E.n, D.nat, E.den, BO.den, UO.den, TO.den, D.toInt_int, D.toList_list, D.ints_ofInts, i64min, i64max, u8min, u8max, u16min, u16max, u32min, u32max, u64min, u64max, i32min, i32max, Om.sub, selI, ints_app, ints_cut, ints_upd, ints_rep, ints_splice, ints_seg, len_ints]
      try simp only [← h0, ← h1, ← h2, ← h3, ← h4, r0, r1, r2, r3, r4]
      and_intros <;> first | omega | trivial
    · simp only [getB_d6, F20, F21, F22, F23, F24, allTold', dutiesTold, factsA, factsC, factsP, factsR, AV.facts, RW.facts, inK, and_true, Q.holds', E.i, E.s, E.n, D.nat, E.den, BO.den, UO.den, TO.den, D.toInt_int, D.toList_list, D.ints_ofInts, i64min, i64max, u8min, u8max, u16min, u16max, u32min, u32max, u64min, u64max, i32min, i32max, Om.sub, selI, ints_app, ints_cut, ints_upd, ints_rep, ints_splice, ints_seg, len_ints]
      try simp only [← h0, ← h1, ← h2, ← h3, ← h4, r0, r1, r2, r3, r4, hv]
      first | done | omega | (and_intros <;> first | rfl | omega | trivial)

def numberR : CSpec := { args := [.ptr 1 0, .sint .i64 (.var 7), .sint .i64 (.var 8), .sint .i64 (.var 11)], next := 2, rows := [(1, .cells 47 0 false false [.sslice 3 (.int 0) (.var 2) (.var 3) false, .sint .i64 (.var 5), .sint .i64 (.var 9), .sint .i64 (.var 10)]), (3, .eseq ⟨.u8, .var 6, .var 4⟩)], pre := [(.le (.int 0) (.var 5), true), (.le (.var 5) (.var 2), true), (.le (.var 2) (.var 6), true), (.le (.var 2) (.var 3), true), (.le (.var 2) (.int 1000000), true), (.le (.int 1) (.var 3), true), (.eq (.var 11) (.int 0), false)], res := .sint .i64 (.fn 50 txRx37), frows := [(1, .cells 47 0 false false [.sslice 3 (.int 0) (.var 2) (.var 3) false, .sint .i64 (.fn 51 txRx37), .sint .i64 (.fn 52 txRx37), .sint .i64 (.fn 53 txRx37)])], same := [1, 3] }
abbrev asRx54 : Q × Bool := ((.eq (.var 9) (.int 0)), false)
def numberR_t0 : List (Q × Bool) := [asRx54]
def numberR_d0 : List Duty := [(true, (.int 0), (.fn 50 txRx37)), (true, (.var 5), (.fn 51 txRx37)), (true, (.var 9), (.fn 52 txRx37)), (true, (.var 10), (.fn 53 txRx37))]
theorem numberR_y0 : endC numberR [(1, 1), (3, 3)] 1000 (callC Try.prog (tellA numberR_t0) [] [(52, getC), (52, getB)] [] 3000 40 36 numberR) = some numberR_d0 := by kernel_rfl
abbrev asRx55 : Q × Bool := ((.eq (.var 9) (.int 0)), true)
abbrev asRx56 : Q × Bool := ((.le (.var 5) (.var 2)), true)
abbrev asRx57 : Q × Bool := ((.le (.var 2) (.var 6)), true)
abbrev asRx58 : Q × Bool := ((.le (.var 2) (.var 3)), true)
abbrev asRx59 : Q × Bool := ((.le (.var 2) (.int 1000000)), true)
abbrev asRx60 : Q × Bool := ((.le (.int 1) (.var 3)), true)
abbrev asRx61 : Q × Bool := ((.eq (.fn 20 (.bi .pair (.var 4) txRx4)) (.int 0)), false)
abbrev asRx62 : Q × Bool := ((.eq (.fn 23 (.bi .pair (.var 4) txRx4)) (.int 0)), false)
def numberR_t1 : List (Q × Bool) := [asRx55, asRx2, asRx56, asRx57, asRx58, asRx59, asRx60, asRx61, asRx62]
def numberR_d1 : List Duty := [(true, (.int 0), (.fn 50 txRx37)), (true, (.var 5), (.fn 51 txRx37)), (true, (.fn 23 (.bi .pair (.var 4) txRx4)), (.fn 52 txRx37)), (true, (.fn 24 (.bi .pair (.var 4) txRx4)), (.fn 53 txRx37))]
theorem numberR_y1 : endC numberR [(1, 1), (3, 3)] 1000 (callC Try.prog (tellA numberR_t1) [] [(52, getC), (52, getB)] [] 3000 40 36 numberR) = some numberR_d1 := by kernel_rfl
abbrev asRx63 : Q × Bool := ((.eq (.fn 20 (.bi .pair (.var 4) txRx4)) (.int 0)), true)
abbrev asRx64 : Q × Bool := ((.le (.fn 21 (.bi .pair (.var 4) txRx4)) (.var 8)), false)
abbrev asRx65 : Q × Bool := ((.eq (.var 11) (.int 0)), false)
def numberR_t2 : List (Q × Bool) := [asRx55, asRx2, asRx56, asRx57, asRx58, asRx59, asRx60, asRx63, asRx64, asRx65]
def numberR_d2 : List Duty := [(true, (.int 0), (.fn 50 txRx37)), (true, (.var 5), (.fn 51 txRx37)), (true, (.var 11), (.fn 52 txRx37)), (true, (.var 5), (.fn 53 txRx37))]
theorem numberR_y2 : endC numberR [(1, 1), (3, 3)] 1000 (callC Try.prog (tellA numberR_t2) [] [(52, getC), (52, getB)] [] 3000 40 36 numberR) = some numberR_d2 := by kernel_rfl
abbrev asRx66 : Q × Bool := ((.le (.fn 21 (.bi .pair (.var 4) txRx4)) (.var 8)), true)
abbrev asRx67 : Q × Bool := ((.le (.var 7) (.fn 21 (.bi .pair (.var 4) txRx4))), false)
def numberR_t3 : List (Q × Bool) := [asRx55, asRx2, asRx56, asRx57, asRx58, asRx59, asRx60, asRx63, asRx66, asRx67]
def numberR_d3 : List Duty := [(true, (.int 0), (.fn 50 txRx37)), (true, (.var 5), (.fn 51 txRx37)), (true, (.int 5), (.fn 52 txRx37)), (true, (.var 5), (.fn 53 txRx37))]
theorem numberR_y3 : endC numberR [(1, 1), (3, 3)] 1000 (callC Try.prog (tellA numberR_t3) [] [(52, getC), (52, getB)] [] 3000 40 36 numberR) = some numberR_d3 := by kernel_rfl
abbrev asRx68 : Q × Bool := ((.le (.var 7) (.fn 21 (.bi .pair (.var 4) txRx4))), true)
def numberR_t4 : List (Q × Bool) := [asRx55, asRx2, asRx56, asRx57, asRx58, asRx59, asRx60, asRx63, asRx66, asRx68]
def numberR_d4 : List Duty := [(true, (.fn 21 (.bi .pair (.var 4) txRx4)), (.fn 50 txRx37)), (true, txRx15, (.fn 51 txRx37)), (true, (.var 9), (.fn 52 txRx37)), (true, (.var 10), (.fn 53 txRx37))]
theorem numberR_y4 : endC numberR [(1, 1), (3, 3)] 1000 (callC Try.prog (tellA numberR_t4) [] [(52, getC), (52, getB)] [] 3000 40 36 numberR) = some numberR_d4 := by kernel_rfl
theorem numberR_holds : CHolds Try.prog 36 numberR F := by
  refine cholds_of sound (tableNil _ _) (specsCons getC_holds (specsCons getB_holds (specsNil _ _))) (oversNil _ _) (fuel := 3000) (depth := 40) (by kernel_rfl) fun d hp hR hA => ?_
  have hp := allTold'_iff.2 hp
  simp only [numberR, allTold', dutiesTold, factsA, factsC, factsP, factsR, AV.facts, RW.facts, inK, and_true, Q.holds', E.i, E.s, E.n, D.nat, E.den, BO.den, UO.den, TO.den, D.toInt_int, D.toList_list, D.ints_ofInts, i64min, i64max, u8min, u8max, u16min, u16max, u32min, u32max, u64min, u64max, i32min, i32max, Om.sub, selI, ints_app, ints_cut, ints_upd, ints_rep, ints_splice, ints_seg, len_ints] at hp hR hA
  by_cases e0 : (d 9).toInt = 0
  · by_cases k0 : (numL (prt (d 4).ints (d 5).toInt (d 2).toInt)).1 = 0
    · have nv := num_val (x := (d 4).ints) (o := (d 5).toInt) (t := (d 2).toInt) (by omega) (by omega) hR.2.2 k0
      by_cases hi : (d 8).toInt < (numL (prt (d 4).ints (d 5).toInt (d 2).toInt)).2.1
      · refine ⟨tellA numberR_t2, _, _, _, tellA_ok (allTold'_iff.1 ?_), numberR_y2, dutiesTold_ok ?_⟩
        · simp only [numberR_t2, F20, F21, F22, allTold', dutiesTold, factsA, factsC, factsP, factsR, AV.facts, RW.facts, inK, and_true, Q.holds', E.i, E.s, E.n, D.nat, E.den, BO.den, UO.den, TO.den, D.toInt_int, D.toList_list, D.ints_ofInts, i64min, i64max, u8min, u8max, u16min, u16max, u32min, u32max, u64min, u64max, i32min, i32max, Om.sub, selI, ints_app, ints_cut, ints_upd, ints_rep, ints_splice, ints_seg, len_ints]
          first | done | omega | (and_intros <;> first | omega | trivial)
        · simp only [numberR_d2, F21, F22, F50, F51, F52, F53, allTold', dutiesTold, factsA, factsC, factsP, factsR, AV.facts, RW.facts, inK, and_true, Q.holds', E.i, E.s, E.n, D.nat, E.den, BO.den, UO.den, TO.den, D.toInt_int, D.toList_list, D.ints_ofInts, i64min, i64max, u8min, u8max, u16min, u16max, u32min, u32max, u64min, u64max, i32min, i32max, Om.sub, selI, ints_app, ints_cut, ints_upd, ints_rep, ints_splice, ints_seg, len_ints]
          simp only [rdS_hi e0 k0 hi]
          first | done | omega | (and_intros <;> first | rfl | omega | exact cut0 _ _ | exact cutC (by omega) (by omega) | trivial)
      · by_cases lo : (numL (prt (d 4).ints (d 5).toInt (d 2).toInt)).2.1 < (d 7).toInt
        · refine ⟨tellA numberR_t3, _, _, _, tellA_ok (allTold'_iff.1 ?_), numberR_y3, dutiesTold_ok ?_⟩
          · simp only [numberR_t3, F20, F21, F22, allTold', dutiesTold, factsA, factsC, factsP, factsR, AV.facts, RW.facts, inK, and_true, Q.holds', E.i, E.s, E.n, D.nat, E.den, BO.den, UO.den, TO.den, D.toInt_int, D.toList_list, D.ints_ofInts, i64min, i64max, u8min, u8max, u16min, u16max, u32min, u32max, u64min, u64max, i32min, i32max, Om.sub, selI, ints_app, ints_cut, ints_upd, ints_rep, ints_splice, ints_seg, len_ints]
            first | done | omega | (and_intros <;> first | omega | trivial)
          · simp only [numberR_d3, F21, F22, F50, F51, F52, F53, allTold', dutiesTold, factsA, factsC, factsP, factsR, AV.facts, RW.facts, inK, and_true, Q.holds', E.i, E.s, E.n, D.nat, E.den, BO.den, UO.den, TO.den, D.toInt_int, D.toList_list, D.ints_ofInts, i64min, i64max, u8min, u8max, u16min, u16max, u32min, u32max, u64min, u64max, i32min, i32max, Om.sub, selI, ints_app, ints_cut, ints_upd, ints_rep, ints_splice, ints_seg, len_ints]
            simp only [rdS_lo e0 k0 hi lo]
            first | done | omega | (and_intros <;> first | rfl | omega | exact cut0 _ _ | exact cutC (by omega) (by omega) | trivial)
        · refine ⟨tellA numberR_t4, _, _, _, tellA_ok (allTold'_iff.1 ?_), numberR_y4, dutiesTold_ok ?_⟩
          · simp only [numberR_t4, F20, F21, F22, allTold', dutiesTold, factsA, factsC, factsP, factsR, AV.facts, RW.facts, inK, and_true, Q.holds', E.i, E.s, E.n, D.nat, E.den, BO.den, UO.den, TO.den, D.toInt_int, D.toList_list, D.ints_ofInts, i64min, i64max, u8min, u8max, u16min, u16max, u32min, u32max, u64min, u64max, i32min, i32max, Om.sub, selI, ints_app, ints_cut, ints_upd, ints_rep, ints_splice, ints_seg, len_ints]
            first | done | omega | (and_intros <;> first | omega | trivial)
          · simp only [numberR_d4, F21, F22, F50, F51, F52, F53, allTold', dutiesTold, factsA, factsC, factsP, factsR, AV.facts, RW.facts, inK, and_true, Q.holds', E.i, E.s, E.n, D.nat, E.den, BO.den, UO.den, TO.den, D.toInt_int, D.toList_list, D.ints_ofInts, i64min, i64max, u8min, u8max, u16min, u16max, u32min, u32max, u64min, u64max, i32min, i32max, Om.sub, selI, ints_app, ints_cut, ints_upd, ints_rep, ints_splice, ints_seg, len_ints]
            simp only [rdS_ok e0 k0 hi lo]
            first | done | omega | (and_intros <;> first | rfl | omega | exact cut0 _ _ | exact cutC (by omega) (by omega) | trivial)
    · have en := errI_ne (numL (prt (d 4).ints (d 5).toInt (d 2).toInt)).1
      refine ⟨tellA numberR_t1, _, _, _, tellA_ok (allTold'_iff.1 ?_), numberR_y1, dutiesTold_ok ?_⟩
      · simp only [numberR_t1, F20, F50, F51, F52, F53, F23, F24, allTold', dutiesTold, factsA, factsC, factsP, factsR, AV.facts, RW.facts, inK, and_true, Q.holds', E.i, E.s, E.n, D.nat, E.den, BO.den, UO.den, TO.den, D.toInt_int, D.toList_list, D.ints_ofInts, i64min, i64max, u8min, u8max, u16min, u16max, u32min, u32max, u64min, u64max, i32min, i32max, Om.sub, selI, ints_app, ints_cut, ints_upd, ints_rep, ints_splice, ints_seg, len_ints]
        try simp only [rdS_bad e0 k0]
        first | done | omega | (and_intros <;> first | rfl | omega | exact cut0 _ _ | exact cutC (by omega) (by omega) | trivial)
      · simp only [numberR_d1, F50, F51, F52, F53, F23, F24, allTold', dutiesTold, factsA, factsC, factsP, factsR, AV.facts, RW.facts, inK, and_true, Q.holds', E.i, E.s, E.n, D.nat, E.den, BO.den, UO.den, TO.den, D.toInt_int, D.toList_list, D.ints_ofInts, i64min, i64max, u8min, u8max, u16min, u16max, u32min, u32max, u64min, u64max, i32min, i32max, Om.sub, selI, ints_app, ints_cut, ints_upd, ints_rep, ints_splice, ints_seg, len_ints]
        try simp only [rdS_bad e0 k0]
        first | done | omega | (and_intros <;> first | rfl | omega | exact cut0 _ _ | exact cutC (by omega) (by omega) | trivial)
  · refine ⟨tellA numberR_t0, _, _, _, tellA_ok (allTold'_iff.1 ?_), numberR_y0, dutiesTold_ok ?_⟩
    · simp only [numberR_t0, F20, F21, F22, allTold', dutiesTold, factsA, factsC, factsP, factsR, AV.facts, RW.facts, inK, and_true, Q.holds', E.i, E.s, E.n, D.nat, E.den, BO.den, UO.den, TO.den, D.toInt_int, D.toList_list, D.ints_ofInts, i64min, i64max, u8min, u8max, u16min, u16max, u32min, u32max, u64min, u64max, i32min, i32max, Om.sub, selI, ints_app, ints_cut, ints_upd, ints_rep, ints_splice, ints_seg, len_ints]
      first | done | omega | (and_intros <;> first | omega | trivial)
    · simp only [numberR_d0, F21, F22, F50, F51, F52, F53, allTold', dutiesTold, factsA, factsC, factsP, factsR, AV.facts, RW.facts, inK, and_true, Q.holds', E.i, E.s, E.n, D.nat, E.den, BO.den, UO.den, TO.den, D.toInt_int, D.toList_list, D.ints_ofInts, i64min, i64max, u8min, u8max, u16min, u16max, u32min, u32max, u64min, u64max, i32min, i32max, Om.sub, selI, ints_app, ints_cut, ints_upd, ints_rep, ints_splice, ints_seg, len_ints]
      simp only [rdS_err e0]
      first | done | omega | (and_intros <;> first | rfl | omega | exact cut0 _ _ | exact cutC (by omega) (by omega) | trivial)

def bytesR : CSpec := { args := [.ptr 1 0, .sint .i64 (.var 7)], next := 2, rows := [(1, .cells 47 0 false false [.sslice 3 (.int 0) (.var 2) (.var 3) false, .sint .i64 (.var 5), .sint .i64 (.var 9), .sint .i64 (.var 10)]), (3, .eseq ⟨.u8, .var 6, .var 4⟩)], pre := [(.le (.int 0) (.var 5), true), (.le (.var 5) (.var 2), true), (.le (.var 2) (.var 6), true), (.le (.var 2) (.var 3), true), (.le (.var 2) (.int 1000000), true), (.le (.int 1) (.var 3), true), (.eq (.fn 56 txRx16) (.int 0), true)], res := .sslice 5 (.int 0) (.fn 54 txRx16) (.fn 54 txRx16) true, frows := [(1, .cells 47 0 false false [.sslice 3 (.int 0) (.var 2) (.var 3) false, .sint .i64 (.fn 55 txRx16), .sint .i64 (.fn 56 txRx16), .sint .i64 (.fn 57 txRx16)]), (5, .seq ⟨5, .u8, .fn 54 txRx16, .fn 58 txRx16, true, false⟩)], same := [1, 3] }
abbrev asRx69 : Q × Bool := ((.eq (.fn 52 txRx35) (.int 0)), true)
abbrev asRx70 : Q × Bool := ((.fit .i64 (.bi .sub (.var 2) (.fn 51 txRx35))), true)
abbrev asRx71 : Q × Bool := ((.le (.fn 50 txRx35) (.bi .sub (.var 2) (.fn 51 txRx35))), true)
abbrev asRx72 : Q × Bool := ((.fit .i64 (.bi .add (.fn 51 txRx35) (.fn 50 txRx35))), true)
abbrev asRx73 : Q × Bool := ((.le (.int 0) (.fn 51 txRx35)), true)
abbrev asRx74 : Q × Bool := ((.le (.fn 51 txRx35) (.bi .add (.fn 51 txRx35) (.fn 50 txRx35))), true)
abbrev asRx75 : Q × Bool := ((.le (.bi .add (.fn 51 txRx35) (.fn 50 txRx35)) (.var 3)), true)
abbrev asRx76 : Q × Bool := ((.le (.bi .add (.fn 51 txRx35) txRx41) (.var 6)), true)
abbrev asRx77 : Q × Bool := ((.le (.bi .mul txRx41 (.int 2)) (.int 281474976710656)), true)
def bytesR_t0 : List (Q × Bool) := [asRx2, asRx56, asRx57, asRx58, asRx59, asRx60, asRx69, asRx0, asRx70, asRx71, asRx72, asRx73, asRx74, asRx75, asRx76, asRx77]
def bytesR_d0 : List Duty := [(true, txRx41, (.fn 54 txRx16)), (true, txRx41, (.fn 54 txRx16)), (true, (.bi .add (.fn 51 txRx35) (.fn 50 txRx35)), (.fn 55 txRx16)), (true, (.fn 52 txRx35), (.fn 56 txRx16)), (true, (.fn 53 txRx35), (.fn 57 txRx16)), (true, txRx41, (.fn 54 txRx16)), (false, (.tr .cut (.var 4) (.fn 51 txRx35) (.bi .add (.fn 51 txRx35) txRx41)), (.fn 58 txRx16))]
theorem bytesR_y0 : endC bytesR [(5, 9), (1, 1), (3, 3)] 1000 (callC Try.prog (tellA bytesR_t0) [] [(36, numberR)] [] 3000 40 15 bytesR) = some bytesR_d0 := by kernel_rfl
theorem bytesR_holds : CHolds Try.prog 15 bytesR F := by
  refine cholds_of sound (tableNil _ _) (specsCons numberR_holds (specsNil _ _)) (oversNil _ _) (fuel := 3000) (depth := 40) (by kernel_rfl) fun d hp hR hA => ?_
  have hp := allTold'_iff.2 hp
  simp only [bytesR, allTold', dutiesTold, factsA, factsC, factsP, factsR, AV.facts, RW.facts, inK, and_true, Q.holds', E.i, E.s, E.n, D.nat, E.den, BO.den, UO.den, TO.den, D.toInt_int, D.toList_list, D.ints_ofInts, i64min, i64max, u8min, u8max, u16min, u16max, u32min, u32max, u64min, u64max, i32min, i32max, Om.sub, selI, ints_app, ints_cut, ints_upd, ints_rep, ints_splice, ints_seg, len_ints] at hp hR hA
  simp only [F56, allTold', dutiesTold, factsA, factsC, factsP, factsR, AV.facts, RW.facts, inK, and_true, Q.holds', E.i, E.s, E.n, D.nat, E.den, BO.den, UO.den, TO.den, D.toInt_int, D.toList_list, D.ints_ofInts, i64min, i64max, u8min, u8max, u16min, u16max, u32min, u32max, u64min, u64max, i32min, i32max, Om.sub, selI, ints_app, ints_cut, ints_upd, ints_rep, ints_splice, ints_seg, len_ints] at hp
  have si := rdS_in (x := (d 4).ints) (a := (d 5).toInt) (t := (d 2).toInt) (e := (d 9).toInt) (f := (d 10).toInt) (lo := 0) (hi := (d 7).toInt) (ab := 3) (by omega) (by omega) (by omega) hR.2.2
  have sn := rdS_nn (x := (d 4).ints) (a := (d 5).toInt) (t := (d 2).toInt) (e := (d 9).toInt) (f := (d 10).toInt) (hi := (d 7).toInt) (ab := 3) (by omega) (by omega) hR.2.2
  rcases rdSB (x := (d 4).ints) (a := (d 5).toInt) (t := (d 2).toInt) (e := (d 9).toInt) (f := (d 10).toInt) (mo := (d 7).toInt) (by omega) (by omega) hR.2.2 with ⟨s1, s2⟩ | ⟨s1, s2, s3⟩ | ⟨s1, s2, s3⟩
  · exfalso
    have hq := hp.2.2.2.2.2.2
    rw [s2] at hq
    exact s1 hq
  · exfalso
    have hq := hp.2.2.2.2.2.2
    rw [s3] at hq
    cases hq
  · refine ⟨tellA bytesR_t0, _, _, _, tellA_ok (allTold'_iff.1 ?_), bytesR_y0, dutiesTold_ok ?_⟩
    · simp only [bytesR_t0, F20, F50, F51, F52, F53, F54, F55, F56, F57, F58, allTold', dutiesTold, factsA, factsC, factsP, factsR, AV.facts, RW.facts, inK, and_true, Q.holds', E.i, E.s, E.n, D.nat, E.den, BO.den, UO.den, TO.den, D.toInt_int, D.toList_list, D.ints_ofInts, i64min, i64max, u8min, u8max, u16min, u16max, u32min, u32max, u64min, u64max, i32min, i32max, Om.sub, selI, ints_app, ints_cut, ints_upd, ints_rep, ints_splice, ints_seg, len_ints]
      try simp only [s3]
      first | done | omega | (and_intros <;> first | rfl | omega | exact cut0 _ _ | exact cutC (by omega) (by omega) | trivial)
    · simp only [bytesR_d0, F50, F51, F52, F53, F54, F55, F56, F57, F58, allTold', dutiesTold, factsA, factsC, factsP, factsR, AV.facts, RW.facts, inK, and_true, Q.holds', E.i, E.s, E.n, D.nat, E.den, BO.den, UO.den, TO.den, D.toInt_int, D.toList_list, D.ints_ofInts, i64min, i64max, u8min, u8max, u16min, u16max, u32min, u32max, u64min, u64max, i32min, i32max, Om.sub, selI, ints_app, ints_cut, ints_upd, ints_rep, ints_splice, ints_seg, len_ints]
      try simp only [s3]
      first | done | omega | (and_intros <;> first | rfl | omega | exact cut0 _ _ | exact cutC (by omega) (by omega) | trivial)

def bytesRN : CSpec := { args := [.ptr 1 0, .sint .i64 (.var 7)], next := 2, rows := [(1, .cells 47 0 false false [.sslice 3 (.int 0) (.var 2) (.var 3) false, .sint .i64 (.var 5), .sint .i64 (.var 9), .sint .i64 (.var 10)]), (3, .eseq ⟨.u8, .var 6, .var 4⟩)], pre := [(.le (.int 0) (.var 5), true), (.le (.var 5) (.var 2), true), (.le (.var 2) (.var 6), true), (.le (.var 2) (.var 3), true), (.le (.var 2) (.int 1000000), true), (.le (.int 1) (.var 3), true), (.eq (.fn 56 txRx16) (.int 0), false)], res := .nilslice, frows := [(1, .cells 47 0 false false [.sslice 3 (.int 0) (.var 2) (.var 3) false, .sint .i64 (.fn 55 txRx16), .sint .i64 (.fn 56 txRx16), .sint .i64 (.fn 57 txRx16)])], same := [1, 3] }
abbrev asRx78 : Q × Bool := ((.eq (.fn 52 txRx35) (.int 0)), false)
def bytesRN_t0 : List (Q × Bool) := [asRx2, asRx56, asRx57, asRx58, asRx59, asRx60, asRx78]
def bytesRN_d0 : List Duty := [(true, (.fn 51 txRx35), (.fn 55 txRx16)), (true, (.fn 52 txRx35), (.fn 56 txRx16)), (true, (.fn 53 txRx35), (.fn 57 txRx16))]
theorem bytesRN_y0 : endC bytesRN [(1, 1), (3, 3)] 1000 (callC Try.prog (tellA bytesRN_t0) [] [(36, numberR)] [] 3000 40 15 bytesRN) = some bytesRN_d0 := by kernel_rfl
abbrev asRx79 : Q × Bool := ((.le (.fn 50 txRx35) (.bi .sub (.var 2) (.fn 51 txRx35))), false)
def bytesRN_t1 : List (Q × Bool) := [asRx2, asRx56, asRx57, asRx58, asRx59, asRx60, asRx69, asRx0, asRx70, asRx79]
def bytesRN_d1 : List Duty := [(true, (.var 5), (.fn 55 txRx16)), (true, (.int 4), (.fn 56 txRx16)), (true, (.var 2), (.fn 57 txRx16))]
theorem bytesRN_y1 : endC bytesRN [(1, 1), (3, 3)] 1000 (callC Try.prog (tellA bytesRN_t1) [] [(36, numberR)] [] 3000 40 15 bytesRN) = some bytesRN_d1 := by kernel_rfl
theorem bytesRN_holds : CHolds Try.prog 15 bytesRN F := by
  refine cholds_of sound (tableNil _ _) (specsCons numberR_holds (specsNil _ _)) (oversNil _ _) (fuel := 3000) (depth := 40) (by kernel_rfl) fun d hp hR hA => ?_
  have hp := allTold'_iff.2 hp
  simp only [bytesRN, allTold', dutiesTold, factsA, factsC, factsP, factsR, AV.facts, RW.facts, inK, and_true, Q.holds', E.i, E.s, E.n, D.nat, E.den, BO.den, UO.den, TO.den, D.toInt_int, D.toList_list, D.ints_ofInts, i64min, i64max, u8min, u8max, u16min, u16max, u32min, u32max, u64min, u64max, i32min, i32max, Om.sub, selI, ints_app, ints_cut, ints_upd, ints_rep, ints_splice, ints_seg, len_ints] at hp hR hA
  simp only [F56, allTold', dutiesTold, factsA, factsC, factsP, factsR, AV.facts, RW.facts, inK, and_true, Q.holds', E.i, E.s, E.n, D.nat, E.den, BO.den, UO.den, TO.den, D.toInt_int, D.toList_list, D.ints_ofInts, i64min, i64max, u8min, u8max, u16min, u16max, u32min, u32max, u64min, u64max, i32min, i32max, Om.sub, selI, ints_app, ints_cut, ints_upd, ints_rep, ints_splice, ints_seg, len_ints] at hp
  have si := rdS_in (x := (d 4).ints) (a := (d 5).toInt) (t := (d 2).toInt) (e := (d 9).toInt) (f := (d 10).toInt) (lo := 0) (hi := (d 7).toInt) (ab := 3) (by omega) (by omega) (by omega) hR.2.2
  have sn := rdS_nn (x := (d 4).ints) (a := (d 5).toInt) (t := (d 2).toInt) (e := (d 9).toInt) (f := (d 10).toInt) (hi := (d 7).toInt) (ab := 3) (by omega) (by omega) hR.2.2
  rcases rdSB (x := (d 4).ints) (a := (d 5).toInt) (t := (d 2).toInt) (e := (d 9).toInt) (f := (d 10).toInt) (mo := (d 7).toInt) (by omega) (by omega) hR.2.2 with ⟨s1, s2⟩ | ⟨s1, s2, s3⟩ | ⟨s1, s2, s3⟩
  · refine ⟨tellA bytesRN_t0, _, _, _, tellA_ok (allTold'_iff.1 ?_), bytesRN_y0, dutiesTold_ok ?_⟩
    · simp only [bytesRN_t0, F20, F50, F51, F52, F53, F54, F55, F56, F57, F58, allTold', dutiesTold, factsA, factsC, factsP, factsR, AV.facts, RW.facts, inK, and_true, Q.holds', E.i, E.s, E.n, D.nat, E.den, BO.den, UO.den, TO.den, D.toInt_int, D.toList_list, D.ints_ofInts, i64min, i64max, u8min, u8max, u16min, u16max, u32min, u32max, u64min, u64max, i32min, i32max, Om.sub, selI, ints_app, ints_cut, ints_upd, ints_rep, ints_splice, ints_seg, len_ints]
      try simp only [s2]
      first | done | omega | (and_intros <;> first | rfl | omega | exact cut0 _ _ | exact cutC (by omega) (by omega) | trivial)
    · simp only [bytesRN_d0, F50, F51, F52, F53, F54, F55, F56, F57, F58, allTold', dutiesTold, factsA, factsC, factsP, factsR, AV.facts, RW.facts, inK, and_true, Q.holds', E.i, E.s, E.n, D.nat, E.den, BO.den, UO.den, TO.den, D.toInt_int, D.toList_list, D.ints_ofInts, i64min, i64max, u8min, u8max, u16min, u16max, u32min, u32max, u64min, u64max, i32min, i32max, Om.sub, selI, ints_app, ints_cut, ints_upd, ints_rep, ints_splice, ints_seg, len_ints]
      try simp only [s2]
      first | done | omega | (and_intros <;> first | rfl | omega | exact cut0 _ _ | exact cutC (by omega) (by omega) | trivial)
  · refine ⟨tellA bytesRN_t1, _, _, _, tellA_ok (allTold'_iff.1 ?_), bytesRN_y1, dutiesTold_ok ?_⟩
    · simp only [bytesRN_t1, F20, F50, F51, F52, F53, F54, F55, F56, F57, F58, allTold', dutiesTold, factsA, factsC, factsP, factsR, AV.facts, RW.facts, inK, and_true, Q.holds', E.i, E.s, E.n, D.nat, E.den, BO.den, UO.den, TO.den, D.toInt_int, D.toList_list, D.ints_ofInts, i64min, i64max, u8min, u8max, u16min, u16max, u32min, u32max, u64min, u64max, i32min, i32max, Om.sub, selI, ints_app, ints_cut, ints_upd, ints_rep, ints_splice, ints_seg, len_ints]
      try simp only [s3]
      first | done | omega | (and_intros <;> first | rfl | omega | exact cut0 _ _ | exact cutC (by omega) (by omega) | trivial)
    · simp only [bytesRN_d1, F50, F51, F52, F53, F54, F55, F56, F57, F58, allTold', dutiesTold, factsA, factsC, factsP, factsR, AV.facts, RW.facts, inK, and_true, Q.holds', E.i, E.s, E.n, D.nat, E.den, BO.den, UO.den, TO.den, D.toInt_int, D.toList_list, D.ints_ofInts, i64min, i64max, u8min, u8max, u16min, u16max, u32min, u32max, u64min, u64max, i32min, i32max, Om.sub, selI, ints_app, ints_cut, ints_upd, ints_rep, ints_splice, ints_seg, len_ints]
      try simp only [s3]
      first | done | omega | (and_intros <;> first | rfl | omega | exact cut0 _ _ | exact cutC (by omega) (by omega) | trivial)
  · exfalso
    have hq := hp.2.2.2.2.2.2
    rw [s3] at hq
    exact hq s1

def textR : CSpec := { args := [.ptr 1 0, .sint .i64 (.var 7)], next := 2, rows := [(1, .cells 47 0 false false [.sslice 3 (.int 0) (.var 2) (.var 3) false, .sint .i64 (.var 5), .sint .i64 (.var 9), .sint .i64 (.var 10)]), (3, .eseq ⟨.u8, .var 6, .var 4⟩)], pre := [(.le (.int 0) (.var 5), true), (.le (.var 5) (.var 2), true), (.le (.var 2) (.var 6), true), (.le (.var 2) (.var 3), true), (.le (.var 2) (.int 1000000), true), (.le (.int 1) (.var 3), true)], res := .sstr (.fn 54 txRx16) (.fn 58 txRx16), frows := [(1, .cells 47 0 false false [.sslice 3 (.int 0) (.var 2) (.var 3) false, .sint .i64 (.fn 55 txRx16), .sint .i64 (.fn 56 txRx16), .sint .i64 (.fn 57 txRx16)])], same := [1, 3] }
abbrev asRx80 : Q × Bool := ((.eq (.fn 56 txRx16) (.int 0)), false)
def textR_t0 : List (Q × Bool) := [asRx2, asRx56, asRx57, asRx58, asRx59, asRx60, asRx80]
def textR_d0 : List Duty := [(true, (.int 0), (.fn 54 txRx16)), (false, (.lits []), (.fn 58 txRx16))]
theorem textR_y0 : endC textR [(1, 1), (3, 3)] 1000 (callC Try.prog (tellA textR_t0) [] [(15, bytesR), (15, bytesRN)] [] 3000 40 17 textR) = some textR_d0 := by kernel_rfl
abbrev asRx81 : Q × Bool := ((.eq (.fn 56 txRx16) (.int 0)), true)
def textR_t1 : List (Q × Bool) := [asRx2, asRx56, asRx57, asRx58, asRx59, asRx60, asRx81]
def textR_d1 : List Duty := []
theorem textR_y1 : endC textR [(1, 1), (3, 3)] 1000 (callC Try.prog (tellA textR_t1) [] [(15, bytesR), (15, bytesRN)] [] 3000 40 17 textR) = some textR_d1 := by kernel_rfl
theorem textR_holds : CHolds Try.prog 17 textR F := by
  refine cholds_of sound (tableNil _ _) (specsCons bytesR_holds (specsCons bytesRN_holds (specsNil _ _))) (oversNil _ _) (fuel := 3000) (depth := 40) (by kernel_rfl) fun d hp hR hA => ?_
  have hp := allTold'_iff.2 hp
  simp only [textR, allTold', dutiesTold, factsA, factsC, factsP, factsR, AV.facts, RW.facts, inK, and_true, Q.holds', E.i, E.s, E.n, D.nat, E.den, BO.den, UO.den, TO.den, D.toInt_int, D.toList_list, D.ints_ofInts, i64min, i64max, u8min, u8max, u16min, u16max, u32min, u32max, u64min, u64max, i32min, i32max, Om.sub, selI, ints_app, ints_cut, ints_upd, ints_rep, ints_splice, ints_seg, len_ints] at hp hR hA
  by_cases e0 : (rdB (d 4).ints (d 5).toInt (d 2).toInt (d 9).toInt (d 10).toInt (d 7).toInt).2.2.1 = 0
  · refine ⟨tellA textR_t1, _, _, _, tellA_ok (allTold'_iff.1 ?_), textR_y1, dutiesTold_ok ?_⟩
    · simp only [textR_t1, F20, F54, F55, F56, F57, F58, allTold', dutiesTold, factsA, factsC, factsP, factsR, AV.facts, RW.facts, inK, and_true, Q.holds', E.i, E.s, E.n, D.nat, E.den, BO.den, UO.den, TO.den, D.toInt_int, D.toList_list, D.ints_ofInts, i64min, i64max, u8min, u8max, u16min, u16max, u32min, u32max, u64min, u64max, i32min, i32max, Om.sub, selI, ints_app, ints_cut, ints_upd, ints_rep, ints_splice, ints_seg, len_ints]
      skip
      first | done | omega | (and_intros <;> first | rfl | omega | exact cut0 _ _ | exact cutC (by omega) (by omega) | trivial)
    · simp only [textR_d1, F54, F55, F56, F57, F58, allTold', dutiesTold, factsA, factsC, factsP, factsR, AV.facts, RW.facts, inK, and_true, Q.holds', E.i, E.s, E.n, D.nat, E.den, BO.den, UO.den, TO.den, D.toInt_int, D.toList_list, D.ints_ofInts, i64min, i64max, u8min, u8max, u16min, u16max, u32min, u32max, u64min, u64max, i32min, i32max, Om.sub, selI, ints_app, ints_cut, ints_upd, ints_rep, ints_splice, ints_seg, len_ints]
      skip
      first | done | omega | (and_intros <;> first | rfl | omega | exact cut0 _ _ | exact cutC (by omega) (by omega) | trivial)
  · have z := rdB_zero e0
    refine ⟨tellA textR_t0, _, _, _, tellA_ok (allTold'_iff.1 ?_), textR_y0, dutiesTold_ok ?_⟩
    · simp only [textR_t0, F20, F54, F55, F56, F57, F58, allTold', dutiesTold, factsA, factsC, factsP, factsR, AV.facts, RW.facts, inK, and_true, Q.holds', E.i, E.s, E.n, D.nat, E.den, BO.den, UO.den, TO.den, D.toInt_int, D.toList_list, D.ints_ofInts, i64min, i64max, u8min, u8max, u16min, u16max, u32min, u32max, u64min, u64max, i32min, i32max, Om.sub, selI, ints_app, ints_cut, ints_upd, ints_rep, ints_splice, ints_seg, len_ints]
      try simp only [z]
      first | done | omega | (and_intros <;> first | rfl | omega | exact cut0 _ _ | exact cutC (by omega) (by omega) | trivial)
    · simp only [textR_d0, F54, F55, F56, F57, F58, allTold', dutiesTold, factsA, factsC, factsP, factsR, AV.facts, RW.facts, inK, and_true, Q.holds', E.i, E.s, E.n, D.nat, E.den, BO.den, UO.den, TO.den, D.toInt_int, D.toList_list, D.ints_ofInts, i64min, i64max, u8min, u8max, u16min, u16max, u32min, u32max, u64min, u64max, i32min, i32max, Om.sub, selI, ints_app, ints_cut, ints_upd, ints_rep, ints_splice, ints_seg, len_ints]
      try simp only [z]
      first | done | omega | (and_intros <;> first | rfl | omega | exact cut0 _ _ | exact cutC (by omega) (by omega) | trivial)

def idR : CSpec := { args := [.ptr 1 0], next := 2, rows := [(1, .cells 47 0 false false [.sslice 3 (.int 0) (.var 2) (.var 3) false, .sint .i64 (.var 5), .sint .i64 (.var 9), .sint .i64 (.var 10)]), (3, .eseq ⟨.u8, .var 6, .var 4⟩)], pre := [(.le (.int 0) (.var 5), true), (.le (.var 5) (.var 2), true), (.le (.var 2) (.var 6), true), (.le (.var 2) (.var 3), true), (.le (.var 2) (.int 1000000), true), (.le (.int 1) (.var 3), true)], res := .agg [.sint .u8 txRx19, .sint .u8 txRx20, .sint .u8 txRx21, .sint .u8 txRx22, .sint .u8 txRx23, .sint .u8 txRx24, .sint .u8 txRx25, .sint .u8 txRx26, .sint .u8 txRx27, .sint .u8 txRx28, .sint .u8 txRx29, .sint .u8 txRx30, .sint .u8 txRx31, .sint .u8 txRx32, .sint .u8 txRx33, .sint .u8 txRx34], frows := [(1, .cells 47 0 false false [.sslice 3 (.int 0) (.var 2) (.var 3) false, .sint .i64 (.fn 61 (.bi .pair (.var 4) txRx13)), .sint .i64 (.fn 62 (.bi .pair (.var 4) txRx13)), .sint .i64 (.fn 63 (.bi .pair (.var 4) txRx13))])], same := [1, 3] }
def idR_t0 : List (Q × Bool) := [asRx54]
def idR_d0 : List Duty := [(true, (.int 0), txRx19), (true, (.int 0), txRx20), (true, (.int 0), txRx21), (true, (.int 0), txRx22), (true, (.int 0), txRx23), (true, (.int 0), txRx24), (true, (.int 0), txRx25), (true, (.int 0), txRx26), (true, (.int 0), txRx27), (true, (.int 0), txRx28), (true, (.int 0), txRx29), (true, (.int 0), txRx30), (true, (.int 0), txRx31), (true, (.int 0), txRx32), (true, (.int 0), txRx33), (true, (.int 0), txRx34), (true, (.var 5), (.fn 61 (.bi .pair (.var 4) txRx13))), (true, (.var 9), (.fn 62 (.bi .pair (.var 4) txRx13))), (true, (.var 10), (.fn 63 (.bi .pair (.var 4) txRx13)))]
theorem idR_y0 : endC idR [(1, 1), (3, 3)] 1000 (callC Try.prog (tellA idR_t0) [] [] [] 3000 40 19 idR) = some idR_d0 := by kernel_rfl
abbrev asRx82 : Q × Bool := ((.fit .i64 (.bi .sub (.var 2) (.var 5))), true)
abbrev asRx83 : Q × Bool := ((.le (.int 16) (.bi .sub (.var 2) (.var 5))), false)
def idR_t1 : List (Q × Bool) := [asRx55, asRx0, asRx82, asRx83]
def idR_d1 : List Duty := [(true, (.int 0), txRx19), (true, (.int 0), txRx20), (true, (.int 0), txRx21), (true, (.int 0), txRx22), (true, (.int 0), txRx23), (true, (.int 0), txRx24), (true, (.int 0), txRx25), (true, (.int 0), txRx26), (true, (.int 0), txRx27), (true, (.int 0), txRx28), (true, (.int 0), txRx29), (true, (.int 0), txRx30), (true, (.int 0), txRx31), (true, (.int 0), txRx32), (true, (.int 0), txRx33), (true, (.int 0), txRx34), (true, (.var 5), (.fn 61 (.bi .pair (.var 4) txRx13))), (true, (.int 4), (.fn 62 (.bi .pair (.var 4) txRx13))), (true, (.var 2), (.fn 63 (.bi .pair (.var 4) txRx13)))]
theorem idR_y1 : endC idR [(1, 1), (3, 3)] 1000 (callC Try.prog (tellA idR_t1) [] [] [] 3000 40 19 idR) = some idR_d1 := by kernel_rfl
abbrev asRx84 : Q × Bool := ((.le (.int 16) (.bi .sub (.var 2) (.var 5))), true)
abbrev asRx85 : Q × Bool := ((.fit .i64 (.bi .add (.var 5) (.int 16))), true)
abbrev asRx86 : Q × Bool := ((.le (.var 5) (.bi .add (.var 5) (.int 16))), true)
abbrev asRx87 : Q × Bool := ((.le (.bi .add (.var 5) (.int 16)) (.var 3)), true)
abbrev asRx88 : Q × Bool := ((.le (.bi .add (.var 5) (.int 16)) (.var 6)), true)
def idR_t2 : List (Q × Bool) := [asRx55, asRx0, asRx82, asRx84, asRx85, asRx2, asRx86, asRx87, asRx60, asRx88]
def idR_d2 : List Duty := [(true, (.bi .sel txRx9 (.int 0)), txRx19), (true, (.bi .sel txRx9 (.int 1)), txRx20), (true, (.bi .sel txRx9 (.int 2)), txRx21), (true, (.bi .sel txRx9 (.int 3)), txRx22), (true, (.bi .sel txRx9 (.int 4)), txRx23), (true, (.bi .sel txRx9 (.int 5)), txRx24), (true, (.bi .sel txRx9 (.int 6)), txRx25), (true, (.bi .sel txRx9 (.int 7)), txRx26), (true, (.bi .sel txRx9 (.int 8)), txRx27), (true, (.bi .sel txRx9 (.int 9)), txRx28), (true, (.bi .sel txRx9 (.int 10)), txRx29), (true, (.bi .sel txRx9 (.int 11)), txRx30), (true, (.bi .sel txRx9 (.int 12)), txRx31), (true, (.bi .sel txRx9 (.int 13)), txRx32), (true, (.bi .sel txRx9 (.int 14)), txRx33), (true, (.bi .sel txRx9 (.int 15)), txRx34), (true, (.bi .add (.var 5) (.int 16)), (.fn 61 (.bi .pair (.var 4) txRx13))), (true, (.var 9), (.fn 62 (.bi .pair (.var 4) txRx13))), (true, (.var 10), (.fn 63 (.bi .pair (.var 4) txRx13)))]
theorem idR_y2 : endC idR [(1, 1), (3, 3)] 1000 (callC Try.prog (tellA idR_t2) [] [] [] 3000 40 19 idR) = some idR_d2 := by kernel_rfl
theorem idR_holds : CHolds Try.prog 19 idR F := by
  refine cholds_of sound (tableNil _ _) (specsNil _ _) (oversNil _ _) (fuel := 3000) (depth := 40) (by kernel_rfl) fun d hp hR hA => ?_
  have hp := allTold'_iff.2 hp
  simp only [idR, allTold', dutiesTold, factsA, factsC, factsP, factsR, AV.facts, RW.facts, inK, and_true, Q.holds', E.i, E.s, E.n, D.nat, E.den, BO.den, UO.den, TO.den, D.toInt_int, D.toList_list, D.ints_ofInts, i64min, i64max, u8min, u8max, u16min, u16max, u32min, u32max, u64min, u64max, i32min, i32max, Om.sub, selI, ints_app, ints_cut, ints_upd, ints_rep, ints_splice, ints_seg, len_ints] at hp hR hA
  by_cases e0 : (d 9).toInt = 0
  · by_cases g : (d 2).toInt - (d 5).toInt < 16
    · refine ⟨tellA idR_t1, _, _, _, tellA_ok (allTold'_iff.1 ?_), idR_y1, dutiesTold_ok ?_⟩
      · simp only [idR_t1, F20, F21, F22, allTold', dutiesTold, factsA, factsC, factsP, factsR, AV.facts, RW.facts, inK, and_true, Q.holds', E.i, E.s, E.n, D.nat, E.den, BO.den, UO.den, TO.den, D.toInt_int, D.toList_list, D.ints_ofInts, i64min, i64max, u8min, u8max, u16min, u16max, u32min, u32max, u64min, u64max, i32min, i32max, Om.sub, selI, ints_app, ints_cut, ints_upd, ints_rep, ints_splice, ints_seg, len_ints]
        first | done | omega | (and_intros <;> first | omega | trivial)
      · simp only [idR_d1, F21, F22, F60, F61, F62, F63, allTold', dutiesTold, factsA, factsC, factsP, factsR, AV.facts, RW.facts, inK, and_true, Q.holds', E.i, E.s, E.n, D.nat, E.den, BO.den, UO.den, TO.den, D.toInt_int, D.toList_list, D.ints_ofInts, i64min, i64max, u8min, u8max, u16min, u16max, u32min, u32max, u64min, u64max, i32min, i32max, Om.sub, selI, ints_app, ints_cut, ints_upd, ints_rep, ints_splice, ints_seg, len_ints]
        simp only [rdI_few e0 g]
        first | done | omega | (and_intros <;> first | rfl | omega | exact cut0 _ _ | exact cutC (by omega) (by omega) | trivial)
    · refine ⟨tellA idR_t2, _, _, _, tellA_ok (allTold'_iff.1 ?_), idR_y2, dutiesTold_ok ?_⟩
      · simp only [idR_t2, F20, F21, F22, allTold', dutiesTold, factsA, factsC, factsP, factsR, AV.facts, RW.facts, inK, and_true, Q.holds', E.i, E.s, E.n, D.nat, E.den, BO.den, UO.den, TO.den, D.toInt_int, D.toList_list, D.ints_ofInts, i64min, i64max, u8min, u8max, u16min, u16max, u32min, u32max, u64min, u64max, i32min, i32max, Om.sub, selI, ints_app, ints_cut, ints_upd, ints_rep, ints_splice, ints_seg, len_ints]
        first | done | omega | (and_intros <;> first | omega | trivial)
      · simp only [idR_d2, F21, F22, F60, F61, F62, F63, allTold', dutiesTold, factsA, factsC, factsP, factsR, AV.facts, RW.facts, inK, and_true, Q.holds', E.i, E.s, E.n, D.nat, E.den, BO.den, UO.den, TO.den, D.toInt_int, D.toList_list, D.ints_ofInts, i64min, i64max, u8min, u8max, u16min, u16max, u32min, u32max, u64min, u64max, i32min, i32max, Om.sub, selI, ints_app, ints_cut, ints_upd, ints_rep, ints_splice, ints_seg, len_ints]
        simp only [rdI_ok e0 g]
        and_intros <;> first | exact selT _ _ _ _ | exact cut16 _ (by omega) (by omega) (by omega) (by omega) | rfl | omega | trivial
  · refine ⟨tellA idR_t0, _, _, _, tellA_ok (allTold'_iff.1 ?_), idR_y0, dutiesTold_ok ?_⟩
    · simp only [idR_t0, F20, F21, F22, allTold', dutiesTold, factsA, factsC, factsP, factsR, AV.facts, RW.facts, inK, and_true, Q.holds', E.i, E.s, E.n, D.nat, E.den, BO.den, UO.den, TO.den, D.toInt_int, D.toList_list, D.ints_ofInts, i64min, i64max, u8min, u8max, u16min, u16max, u32min, u32max, u64min, u64max, i32min, i32max, Om.sub, selI, ints_app, ints_cut, ints_upd, ints_rep, ints_splice, ints_seg, len_ints]
      first | done | omega | (and_intros <;> first | omega | trivial)
    · simp only [idR_d0, F21, F22, F60, F61, F62, F63, allTold', dutiesTold, factsA, factsC, factsP, factsR, AV.facts, RW.facts, inK, and_true, Q.holds', E.i, E.s, E.n, D.nat, E.den, BO.den, UO.den, TO.den, D.toInt_int, D.toList_list, D.ints_ofInts, i64min, i64max, u8min, u8max, u16min, u16max, u32min, u32max, u64min, u64max, i32min, i32max, Om.sub, selI, ints_app, ints_cut, ints_upd, ints_rep, ints_splice, ints_seg, len_ints]
      simp only [rdI_err e0]
      first | done | omega | (and_intros <;> first | rfl | omega | exact cut0 _ _ | exact cutC (by omega) (by omega) | trivial)

def endR : CSpec := { args := [.ptr 1 0], next := 2, rows := [(1, .cells 47 0 false false [.sslice 3 (.int 0) (.var 2) (.var 3) false, .sint .i64 (.var 5), .sint .i64 (.var 9), .sint .i64 (.var 10)]), (3, .eseq ⟨.u8, .var 6, .var 4⟩)], pre := [(.le (.int 0) (.var 5), true), (.le (.var 5) (.var 2), true), (.le (.var 2) (.var 6), true), (.le (.var 2) (.var 3), true), (.le (.var 2) (.int 1000000), true), (.le (.int 1) (.var 3), true)], res := .agg [.sint .i64 (.fn 64 txRx13), .sint .i64 (.fn 65 txRx13)], frows := [(1, .cells 47 0 false false [.sslice 3 (.int 0) (.var 2) (.var 3) false, .sint .i64 (.var 5), .sint .i64 (.var 9), .sint .i64 (.var 10)])], same := [1, 3] }
def endR_t0 : List (Q × Bool) := [asRx54]
def endR_d0 : List Duty := [(true, (.var 9), (.fn 64 txRx13)), (true, (.var 10), (.fn 65 txRx13))]
theorem endR_y0 : endC endR [(1, 1), (3, 3)] 1000 (callC Try.prog (tellA endR_t0) [] [] [] 3000 40 27 endR) = some endR_d0 := by kernel_rfl
def endR_t1 : List (Q × Bool) := [asRx55, asRx0, asRx1]
def endR_d1 : List Duty := [(true, (.int 4), (.fn 64 txRx13)), (true, (.var 5), (.fn 65 txRx13))]
theorem endR_y1 : endC endR [(1, 1), (3, 3)] 1000 (callC Try.prog (tellA endR_t1) [] [] [] 3000 40 27 endR) = some endR_d1 := by kernel_rfl
def endR_t2 : List (Q × Bool) := [asRx55, asRx0, asRx46]
def endR_d2 : List Duty := [(true, (.var 9), (.fn 64 txRx13)), (true, (.var 10), (.fn 65 txRx13))]
theorem endR_y2 : endC endR [(1, 1), (3, 3)] 1000 (callC Try.prog (tellA endR_t2) [] [] [] 3000 40 27 endR) = some endR_d2 := by kernel_rfl
theorem endR_holds : CHolds Try.prog 27 endR F := by
  refine cholds_of sound (tableNil _ _) (specsNil _ _) (oversNil _ _) (fuel := 3000) (depth := 40) (by kernel_rfl) fun d hp hR hA => ?_
  have hp := allTold'_iff.2 hp
  simp only [endR, allTold', dutiesTold, factsA, factsC, factsP, factsR, AV.facts, RW.facts, inK, and_true, Q.holds', E.i, E.s, E.n, D.nat, E.den, BO.den, UO.den, TO.den, D.toInt_int, D.toList_list, D.ints_ofInts, i64min, i64max, u8min, u8max, u16min, u16max, u32min, u32max, u64min, u64max, i32min, i32max, Om.sub, selI, ints_app, ints_cut, ints_upd, ints_rep, ints_splice, ints_seg, len_ints] at hp hR hA
  by_cases e0 : (d 9).toInt = 0
  · by_cases g : (d 5).toInt < (d 2).toInt
    · refine ⟨tellA endR_t1, _, _, _, tellA_ok (allTold'_iff.1 ?_), endR_y1, dutiesTold_ok ?_⟩
      · simp only [endR_t1, F20, F21, F22, allTold', dutiesTold, factsA, factsC, factsP, factsR, AV.facts, RW.facts, inK, and_true, Q.holds', E.i, E.s, E.n, D.nat, E.den, BO.den, UO.den, TO.den, D.toInt_int, D.toList_list, D.ints_ofInts, i64min, i64max, u8min, u8max, u16min, u16max, u32min, u32max, u64min, u64max, i32min, i32max, Om.sub, selI, ints_app, ints_cut, ints_upd, ints_rep, ints_splice, ints_seg, len_ints]
        first | done | omega | (and_intros <;> first | omega | trivial)
      · simp only [endR_d1, F21, F22, F64, F65, allTold', dutiesTold, factsA, factsC, factsP, factsR, AV.facts, RW.facts, inK, and_true, Q.holds', E.i, E.s, E.n, D.nat, E.den, BO.den, UO.den, TO.den, D.toInt_int, D.toList_list, D.ints_ofInts, i64min, i64max, u8min, u8max, u16min, u16max, u32min, u32max, u64min, u64max, i32min, i32max, Om.sub, selI, ints_app, ints_cut, ints_upd, ints_rep, ints_splice, ints_seg, len_ints]
        simp only [rdE_more e0 g]
        first | done | omega | (and_intros <;> first | rfl | omega | exact cut0 _ _ | exact cutC (by omega) (by omega) | trivial)
    · refine ⟨tellA endR_t2, _, _, _, tellA_ok (allTold'_iff.1 ?_), endR_y2, dutiesTold_ok ?_⟩
      · simp only [endR_t2, F20, F21, F22, allTold', dutiesTold, factsA, factsC, factsP, factsR, AV.facts, RW.facts, inK, and_true, Q.holds', E.i, E.s, E.n, D.nat, E.den, BO.den, UO.den, TO.den, D.toInt_int, D.toList_list, D.ints_ofInts, i64min, i64max, u8min, u8max, u16min, u16max, u32min, u32max, u64min, u64max, i32min, i32max, Om.sub, selI, ints_app, ints_cut, ints_upd, ints_rep, ints_splice, ints_seg, len_ints]
        first | done | omega | (and_intros <;> first | omega | trivial)
      · simp only [endR_d2, F21, F22, F64, F65, allTold', dutiesTold, factsA, factsC, factsP, factsR, AV.facts, RW.facts, inK, and_true, Q.holds', E.i, E.s, E.n, D.nat, E.den, BO.den, UO.den, TO.den, D.toInt_int, D.toList_list, D.ints_ofInts, i64min, i64max, u8min, u8max, u16min, u16max, u32min, u32max, u64min, u64max, i32min, i32max, Om.sub, selI, ints_app, ints_cut, ints_upd, ints_rep, ints_splice, ints_seg, len_ints]
        simp only [rdE_ok e0 g]
        first | done | omega | (and_intros <;> first | rfl | omega | exact cut0 _ _ | exact cutC (by omega) (by omega) | trivial)
  · refine ⟨tellA endR_t0, _, _, _, tellA_ok (allTold'_iff.1 ?_), endR_y0, dutiesTold_ok ?_⟩
    · simp only [endR_t0, F20, F21, F22, allTold', dutiesTold, factsA, factsC, factsP, factsR, AV.facts, RW.facts, inK, and_true, Q.holds', E.i, E.s, E.n, D.nat, E.den, BO.den, UO.den, TO.den, D.toInt_int, D.toList_list, D.ints_ofInts, i64min, i64max, u8min, u8max, u16min, u16max, u32min, u32max, u64min, u64max, i32min, i32max, Om.sub, selI, ints_app, ints_cut, ints_upd, ints_rep, ints_splice, ints_seg, len_ints]
      first | done | omega | (and_intros <;> first | omega | trivial)
    · simp only [endR_d0, F21, F22, F64, F65, allTold', dutiesTold, factsA, factsC, factsP, factsR, AV.facts, RW.facts, inK, and_true, Q.holds', E.i, E.s, E.n, D.nat, E.den, BO.den, UO.den, TO.den, D.toInt_int, D.toList_list, D.ints_ofInts, i64min, i64max, u8min, u8max, u16min, u16max, u32min, u32max, u64min, u64max, i32min, i32max, Om.sub, selI, ints_app, ints_cut, ints_upd, ints_rep, ints_splice, ints_seg, len_ints]
      simp only [rdE_err e0]
      first | done | omega | (and_intros <;> first | rfl | omega | exact cut0 _ _ | exact cutC (by omega) (by omega) | trivial)

def tabB : List LEntry := []
def specsB : List (FuncId × CSpec) := []
def oversB : Overs := []
theorem tabB_ok : TableOK Try.prog tabB F := tableNil _ _
theorem specsB_ok : SpecsOK Try.prog specsB F := specsNil _ _
theorem oversB_ok : OversOK Try.prog oversB F := oversNil _ _
end Go.Proofs.Ytdldnaecfhaofaa.Rx
