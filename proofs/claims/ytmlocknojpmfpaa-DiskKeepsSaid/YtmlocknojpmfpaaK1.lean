/-
 Contracts of this seat: what loops and calls leave, for all inputs. No condition.
-/
import Derived.Test.YtmlocknojpmfpaaSycp
import Derived.Test.YtmlocknojpmfpaaSyfm
import Derived.Test.YtmlocknojpmfpaaCo
import Derived.Test.YtmlocknojpmfpaaShelf
set_option linter.unusedSimpArgs false
set_option linter.unusedVariables false
namespace Go.Proofs.Ytmlocknojpmfpaa.K1
open Go.RowKit Go.Ev Go.Proofs.Ytmlocknojpmfpaa.Co


def bytP (x : D) : D := x.toList[0]?.getD (.int 0)
def synP (x : D) : Bool := decide (x.ints[1]?.getD 0 ≠ 0)
abbrev txK10 : E := (.bi .sel (.bi .sel (.var 0) (.var 2)) (.int 0))
abbrev zK131 : E := (.bi .sel (.var 0) (.var 1))
abbrev txK11 : E := (.bi .sel zK131 (.int 0))
abbrev txK12 : E := (.bi .pair (.var 0) (.bi .pair (.var 1) (.int 0)))
abbrev zK126 : E := (.bi .pair (.var 2) (.int 0))
abbrev txK13 : E := (.bi .pair (.var 0) zK126)
abbrev txK14 : E := (.bi .pair (.var 2) (.bi .pair (.var 1) (.int 0)))
abbrev txK15 : E := (.bi .pair (.lits []) (.bi .pair (.var 8) (.int 0)))
abbrev txK16 : E := (.bi .pair (.lits []) (.bi .pair (.lits []) (.int 0)))
abbrev zK113 : E := (.bi (.iop .rem .i64) (.var 0) (.var 1))
abbrev txK17 : E := (.bi .add zK113 (.var 1))
abbrev txK18 : E := (.bi .pair (.bi .app (.var 8) txK11) (.int 0))
abbrev txK19 : E := (.bi .pair (.lits []) (.bi .pair txK11 (.int 0)))
abbrev txK110 : E := (.bi .pair (.var 1) (.bi .pair (.var 2) txK15))
abbrev txK111 : E := (.bi .pair (.var 1) (.bi .pair (.var 2) txK16))
abbrev zK10 : E := (.bi .add (.var 1) (.int 1))
abbrev txK112 : E := (.bi .pair zK10 (.bi .pair (.var 2) txK15))
abbrev txK113 : E := (.bi .pair zK10 (.bi .pair (.var 2) txK16))
abbrev txK114 : E := (.bi .pair (.var 2) (.bi .pair (.lits []) txK18))
abbrev zK12 : E := (.bi .pair (.var 0) txK110)
abbrev txK115 : E := (.un .len (.fn 45 zK12))
abbrev txK116 : E := (.un .len (.fn 46 zK12))
abbrev txK117 : E := (.un .len (.fn 44 zK12))
abbrev zK13 : E := (.bi .pair (.var 0) txK111)
abbrev txK118 : E := (.un .len (.fn 45 zK13))
abbrev txK119 : E := (.un .len (.fn 46 zK13))
abbrev txK120 : E := (.un .len (.fn 44 zK13))
abbrev txK121 : E := (.bi .pair zK10 (.bi .pair (.var 2) txK19))
abbrev zK110 : E := (.bi .pair (.var 0) txK112)
abbrev txK122 : E := (.un .len (.fn 44 zK110))
abbrev txK123 : E := (.un .len (.fn 46 zK110))
abbrev zK19 : E := (.bi .pair (.var 0) txK113)
abbrev txK124 : E := (.un .len (.fn 44 zK19))
abbrev txK125 : E := (.un .len (.fn 46 zK19))
abbrev txK126 : E := (.bi .pair zK10 txK114)
abbrev zK117 : E := (.bi .pair (.var 0) txK121)
abbrev txK127 : E := (.un .len (.fn 44 zK117))
abbrev txK128 : E := (.un .len (.fn 46 zK117))
abbrev zK111 : E := (.bi .pair (.var 0) txK126)
abbrev txK129 : E := (.un .len (.fn 44 zK111))
abbrev txK130 : E := (.un .len (.fn 46 zK111))
abbrev zK11 : E := (.bi (.iop .add .i64) (.var 9) (.int 1))
abbrev zK14 : E := (.bi .add (.var 10) (.int (-1)))
abbrev zK15 : Nat × RW := (1, .cells 37 0 false false [.ptr 1 0, .int .i64 3000, .mapv 3, .any, .any, .any])
abbrev zK16 : E := (.bi .add (.var 7) (.un .len txK11))
abbrev zK17 : E := (.bi .add (.var 3) (.un .len txK11))
abbrev zK18 : Nat × RW := (1, .cells 37 0 false false [.ptr 1 0, .int .i64 3000, .mapv 3, .sint .i64 (.var 10), .bool false, .sint .i64 (.var 9)])
abbrev zK112 : Nat × RW := (5, .cells 82 0 false false [.nilslice, .nilslice])
abbrev zK114 : E := (.bi .add (.var 1) (.fn 30 txK13))
abbrev zK115 : E := (.bi .add (.var 2) (.int 1))
abbrev zK116 : Nat × RW := (1, .cells 37 0 false false [.ptr 1 0, .int .i64 3000, .mapv 3, .sint .i64 (.var 10), .bool true, .sint .i64 (.var 9)])
abbrev zK118 : Duty := (false, (.fn 44 zK110), (.fn 44 zK12))
abbrev zK119 : Duty := (false, (.fn 46 zK110), (.fn 46 zK12))
abbrev zK120 : Duty := (false, (.fn 44 zK111), (.fn 44 zK12))
abbrev zK121 : Duty := (false, (.fn 46 zK111), (.fn 46 zK12))
abbrev zK122 : E := (.bi .add (.var 1) (.un .len txK10))
abbrev zK123 : Duty := (false, (.fn 44 zK19), (.fn 44 zK13))
abbrev zK124 : Duty := (false, (.fn 46 zK19), (.fn 46 zK13))
abbrev zK125 : Nat × RW := (5, .cells 82 0 false false [.nilslice, .sslice 13 (.int 0) (.var 7) (.var 7) true])
abbrev zK127 : Nat × RW := (5, .cells 82 0 false false [.nilslice, .sslice 13 (.int 0) txK116 txK116 true])
abbrev zK128 : E := (.bi .add (.int 0) (.fn 30 txK12))
abbrev zK129 : Nat × RW := (13, .seq ⟨5, .u8, .un .len (.fn 46 zK12), .fn 46 zK12, true, false⟩)
abbrev zK130 : Nat × RW := (7, .seq ⟨5, .u8, .un .len (.fn 44 zK12), .fn 44 zK12, true, false⟩)
def lenP : List D → Int
 | [] => 0
 | x :: l => (bytP x).toList.length + lenP l
def goK (f : Int) : List D → Int → List Int × List Int → List Int × List Int
 | [], _, p => p
 | x :: r, i, p => if 0 ≤ f ∧ f ≤ i then p else goK f r (i + 1) (if synP x then (p.1 ++ p.2, []) else (p.1, p.2 ++ (bytP x).ints))
def gos (a : D) : List Int × List Int := goK (argD a 2).toInt ((argD a 0).toList.drop (argD a 1).toInt.toNat) (argD a 1).toInt ((argD a 3).ints, (argD a 4).ints)
def F : Nat → D → D
 | 7 => fun a => .int ((argD a 0).toInt % (argD a 1).toInt)
 | 30 => fun a => .int (lenP (((argD a 0).toList.take 61).drop (argD a 1).toInt.toNat))
 | 40 => fun a => .int (if (argD a 0).toInt < 0 then -1 else (argD a 0).toInt - (argD a 1).toInt)
 | 43 => fun a => .int (if (argD a 0).toInt < 0 then 9223372036854775807 else (argD a 0).toInt)
 | 44 => fun a => D.ofInts ((gos a).1 ++ (gos a).2)
 | 45 => fun a => D.ofInts (gos a).1
 | 46 => fun a => D.ofInts (gos a).2
 | 98 => fun a => a
 | _ => fun x => x
theorem F7 (x n : D) : F 7 (.list [x, .list [n, .int 0]]) = .int (x.toInt % n.toInt) := rfl
theorem F30 (x i : D) : F 30 (.list [x, .list [i, .int 0]]) = .int (lenP ((x.toList.take 61).drop i.toInt.toNat)) := rfl
theorem F40 (f i : D) : F 40 (.list [f, .list [i, .int 0]]) = .int (if f.toInt < 0 then -1 else f.toInt - i.toInt) := rfl
theorem F43 (f : D) : F 43 (.list [f, .int 0]) = .int (if f.toInt < 0 then 9223372036854775807 else f.toInt) := rfl
abbrev goE (l i f s u : D) : List Int × List Int := goK f.toInt (l.toList.drop i.toInt.toNat) i.toInt (s.ints, u.ints)
theorem F44 (l i f s u : D) : F 44 (.list [l, .list [i, .list [f, .list [s, .list [u, .int 0]]]]]) = D.ofInts ((goE l i f s u).1 ++ (goE l i f s u).2) := rfl
theorem F45 (l i f s u : D) : F 45 (.list [l, .list [i, .list [f, .list [s, .list [u, .int 0]]]]]) = D.ofInts (goE l i f s u).1 := rfl
theorem F46 (l i f s u : D) : F 46 (.list [l, .list [i, .list [f, .list [s, .list [u, .int 0]]]]]) = D.ofInts (goE l i f s u).2 := rfl

theorem goE0 (l i f s u : D) : goE l i f s u = goK f.toInt (l.toList.drop i.toInt.toNat) i.toInt (s.ints, u.ints) := rfl
theorem gk : type_of% (And.intro @F30 (And.intro @F40 (And.intro @F43 (And.intro @F44 (And.intro @F45 (And.intro @F46 (And.intro @goE0 (And.intro @D.ints_ofInts (And.intro @D.toInt_int (And.intro @Int.toNat_zero (And.intro @Int.toNat_one (And.intro @List.append_nil.{0} (And.intro @List.nil_append.{0} (@List.length_nil.{0})))))))))))))) := And.intro @F30 (And.intro @F40 (And.intro @F43 (And.intro @F44 (And.intro @F45 (And.intro @F46 (And.intro @goE0 (And.intro @D.ints_ofInts (And.intro @D.toInt_int (And.intro @Int.toNat_zero (And.intro @Int.toNat_one (And.intro @List.append_nil.{0} (And.intro @List.nil_append.{0} (@List.length_nil.{0})))))))))))))
theorem ap3 (x y z : D) : (D.list (x.toList ++ (y.toList ++ z.toList))).ints = x.ints ++ (y.ints ++ z.ints) := by
 simp [D.ints, D.toList]
theorem lenP_nn : ∀ l : List D, 0 ≤ lenP l
 | [] => by simp [lenP]
 | x :: l => by have := lenP_nn l; simp only [lenP]; omega
theorem lenP_end {l : List D} {i : Nat} (h : l.length ≤ i ∨ 61 ≤ i) : lenP ((l.take 61).drop i) = 0 := by
 rw [List.drop_of_length_le (by rw [List.length_take]; omega)]; rfl
theorem lenP_step {l : List D} {i : Nat} (h : i < l.length) (h2 : i < 61) : lenP ((l.take 61).drop i) = ((bytP (l[i]?.getD (.int 0))).toList.length : Int) + lenP ((l.take 61).drop (i + 1)) := by
 have h3 : i < (l.take 61).length := by rw [List.length_take]; omega
 rw [List.drop_eq_getElem_cons h3]
 simp only [lenP]
 rw [List.getElem_take, List.getElem?_eq_getElem h]
 rfl
theorem goK_out {f i : Int} (h0 : 0 ≤ f) (h : f ≤ i) (l : List D) (p : List Int × List Int) : goK f l i p = p := by
 cases l with
 | nil => rfl
 | cons x l => simp [goK, h0, h]
theorem goK_end {f : Int} {l : List D} {i : Int} (h : (l.length : Int) ≤ i) (p : List Int × List Int) : goK f (l.drop i.toNat) i p = p := by
 rw [List.drop_of_length_le (by omega)]; rfl
theorem goK_step {f : Int} {l : List D} {i : Int} (h0 : 0 ≤ i) (h : i < l.length) (hf : f < 0 ∨ i < f) (p : List Int × List Int) :
  goK f (l.drop i.toNat) i p = goK f (l.drop (i + 1).toNat) (i + 1) (if synP (l[i.toNat]?.getD (.int 0)) then (p.1 ++ p.2, []) else (p.1, p.2 ++ (bytP (l[i.toNat]?.getD (.int 0))).ints)) := by
 have h1 : i.toNat < l.length := by omega
 rw [List.drop_eq_getElem_cons h1, goK, if_neg (by omega), show (i + 1).toNat = i.toNat + 1 by omega, List.getElem?_eq_getElem h1]
 rfl
theorem goK_len {f : Int} : ∀ (l : List D) (i : Int) (p : List Int × List Int), p.1.length ≤ (goK f l i p).1.length ∧ p.1.length + p.2.length ≤ (goK f l i p).1.length + (goK f l i p).2.length
 | [], i, p => ⟨Nat.le_refl _, Nat.le_refl _⟩
 | x :: r, i, p => by
  unfold goK
  split
  ·exact ⟨Nat.le_refl _, Nat.le_refl _⟩
  ·have h := goK_len (f := f) r (i + 1) (if synP x then (p.1 ++ p.2, []) else (p.1, p.2 ++ (bytP x).ints))
   by_cases hs : synP x = true
   ·simp only [hs, if_true, List.length_append, List.length_nil] at h ⊢
    omega
   ·simp only [hs, Bool.false_eq_true, if_false, List.length_append] at h ⊢
    omega

theorem cloneL_holds : LibHolds Try.prog 64 (.clone) := fun s w h => Try.stringslite_Clone s w h

theorem keysL0_holds : LibHolds Try.prog 35 (.keys 58 9) := ⟨Try.underlying9, fun bx b nn D0 R W h1 h2 h3 h4 h5 => Try.keys35_58 bx b nn D0 R W h1 h2 h3 h4 h5⟩

def knownC : CSpec := ⟨[], 0, [], [], .bool true, [], []⟩
set_option maxRecDepth 100000 in
theorem knownC_y : endC knownC [] 1000 (callW Try.prog F noAsk [] [] [(64, .lib (.clone)), (35, .lib (.keys 58 9))] 8000 80 4 knownC) = some [] := by kernel_rfl
theorem knownC_holds : CHolds Try.prog 4 knownC F := choldsW_of sound (tableNil _ _) (specsNil _ _) (oversLib cloneL_holds (oversLib keysL0_holds (oversNil _ _))) (by kernel_rfl) fun d _ _ _ => ⟨noAsk, [], 1000, [], noAsk_ok _, knownC_y, fun p hp => by cases hp⟩

def pickC : CSpec := { args := [.sint .i64 (.var 0), .sint .i64 (.var 1)], next := 0, rows := [], pre := [(.le (.int 1) (.var 1), true)], res := .sint .i64 (.fn 7 (argsE [.var 0, .var 1])), frows := [], same := [] }
abbrev asK10 : Q × Bool := ((.le (.int 1) (.var 1)), true)
abbrev asK11 : Q × Bool := ((.eq (.var 1) (.int 0)), false)
abbrev asK12 : Q × Bool := ((.le (.int 0) zK113), true)
def pickC_t0 : List (Q × Bool) := [asK10, asK11, asK12]
def pickC_d0 : List Duty := [(true, zK113, (.fn 7 txK12))]
theorem pickC_y0 : endC pickC [] 1000 (callC Try.prog (tellA pickC_t0) [] [] [] 3000 40 30 pickC) = some pickC_d0 := by kernel_rfl
abbrev asK13 : Q × Bool := ((.le (.int 0) zK113), false)
abbrev asK14 : Q × Bool := ((.fit .i64 txK17), true)
def pickC_t1 : List (Q × Bool) := [asK10, asK11, asK13, asK14]
def pickC_d1 : List Duty := [(true, txK17, (.fn 7 txK12))]
theorem pickC_y1 : endC pickC [] 1000 (callC Try.prog (tellA pickC_t1) [] [] [] 3000 40 30 pickC) = some pickC_d1 := by kernel_rfl
theorem pickC_holds : CHolds Try.prog 30 pickC F := by
 refine cholds_of sound (tableNil _ _) (specsNil _ _) (oversNil _ _) (fuel := 3000) (depth := 40) (by kernel_rfl) fun d hp hR hA => ?_
 have hp := allTold'_iff.2 hp
 simp only [pickC, tl] at hp hR hA
 have e1 := emod_in (x := (d 0).toInt) (n := (d 1).toInt) (by omega)
 have e2 := tmod_or .i64 (x := (d 0).toInt) (n := (d 1).toInt) (by omega)
 by_cases h : 0 ≤ iopI .rem .i64 (d 0).toInt (d 1).toInt
 ·refine ⟨tellA pickC_t0, _, _, _, tellA_ok (allTold'_iff.1 ?_), pickC_y0, dutiesTold_ok ?_⟩
  ·simp only [pickC_t0, tl]
   omega
  ·simp only [pickC_d0, F7, tl]
   omega
 ·refine ⟨tellA pickC_t1, _, _, _, tellA_ok (allTold'_iff.1 ?_), pickC_y1, dutiesTold_ok ?_⟩
  ·simp only [pickC_t1, tl]
   omega
  ·simp only [pickC_d1, F7, tl]
   omega

def modC : CSpec := { args := [.sint .i64 (.var 0), .sint .i64 (.var 1)], next := 0, rows := [], pre := [(.le (.int 1) (.var 1), true)], res := .sint .i64 (.fn 7 (argsE [.var 0, .var 1])), frows := [], same := [] }
def modC_t0 : List (Q × Bool) := [asK11, asK12]
def modC_d0 : List Duty := [(true, zK113, (.fn 7 txK12))]
theorem modC_y0 : endC modC [] 1000 (callC Try.prog (tellA modC_t0) [] [] [] 3000 40 51 modC) = some modC_d0 := by kernel_rfl
def modC_t1 : List (Q × Bool) := [asK11, asK13, asK14]
def modC_d1 : List Duty := [(true, txK17, (.fn 7 txK12))]
theorem modC_y1 : endC modC [] 1000 (callC Try.prog (tellA modC_t1) [] [] [] 3000 40 51 modC) = some modC_d1 := by kernel_rfl
theorem modC_holds : CHolds Try.prog 51 modC F := by
 refine cholds_of sound (tableNil _ _) (specsNil _ _) (oversNil _ _) (fuel := 3000) (depth := 40) (by kernel_rfl) fun d hp hR hA => ?_
 have hp := allTold'_iff.2 hp
 simp only [modC, tl] at hp hR hA
 have e1 := emod_in (x := (d 0).toInt) (n := (d 1).toInt) (by omega)
 have e2 := tmod_or .i64 (x := (d 0).toInt) (n := (d 1).toInt) (by omega)
 by_cases h : 0 ≤ iopI .rem .i64 (d 0).toInt (d 1).toInt
 ·refine ⟨tellA modC_t0, _, _, _, tellA_ok (allTold'_iff.1 ?_), modC_y0, dutiesTold_ok ?_⟩
  ·simp only [modC_t0, tl]
   omega
  ·simp only [modC_d0, F7, tl]
   omega
 ·refine ⟨tellA modC_t1, _, _, _, tellA_ok (allTold'_iff.1 ?_), modC_y1, dutiesTold_ok ?_⟩
  ·simp only [modC_t1, tl]
   omega
  ·simp only [modC_d1, F7, tl]
   omega

def sumL : LSpec := { n := 195, next := 0, pat := [(0, .pv (.agg [.sl (.int .u8), .bool]) (.var 0)), (8, .sint .i64 (.var 1)), (9, .sint .i64 (.var 2))], rows := [], pre := [(.le (.int 0) (.var 2), true), (.le (.var 2) (.int 61), true), (.le (.int 0) (.var 1), true), (.le (.int 0) (.fn 30 txK13), true), (.le zK114 (.int 4611686018427387904), true), (.le (.un .len (.var 0)) (.int 9223372036854775807), true)], x := 0, fin := [(8, .sint .i64 zK114), (0, .pv (.agg [.sl (.int .u8), .bool]) (.var 0))], frows := [], same := [], chg := [0, 8, 9, 18, 19, 20, 21, 22, 23, 24, 25, 26, 27, 28, 29, 30, 31, 32, 33, 34, 35] }
abbrev asK15 : Q × Bool := ((.fit .i64 (.un .len (.var 0))), true)
abbrev asK16 : Q × Bool := ((.le (.un .len (.var 0)) (.var 2)), false)
abbrev asK17 : Q × Bool := ((.le (.int 61) (.var 2)), false)
abbrev asK18 : Q × Bool := ((.le (.int 0) (.var 2)), true)
abbrev asK19 : Q × Bool := ((.fit .i64 (.un .len txK10)), true)
abbrev asK110 : Q × Bool := ((.fit .i64 zK122), true)
abbrev asK111 : Q × Bool := ((.fit .i64 zK115), true)
def sumL_t0 : List (Q × Bool) := [asK15, asK16, asK17, asK18, asK19, asK110, asK111]
def sumL_d0 : List Duty := [(true, (.bi .add zK122 (.fn 30 (.bi .pair (.var 0) (.bi .pair zK115 (.int 0))))), zK114)]
def sumL_h0 : List (Nat × E) := [(2, zK115), (1, zK122), (0, (.var 0))]
theorem sumL_h0_a : lookE sumL_h0 0 = (.var 0) ∧ lookE sumL_h0 1 = zK122 ∧ lookE sumL_h0 2 = zK115 := ⟨rfl, rfl, rfl⟩
theorem sumL_y0 : nextD sumL sumL_h0 [] (roundC Try.prog [] [] [] 3000 40 5 [4, 1, 0, 1, 1, 1] (tellA sumL_t0) sumL) = some sumL_d0 := by kernel_rfl
abbrev asK112 : Q × Bool := ((.le (.un .len (.var 0)) (.var 2)), true)
def sumL_t1 : List (Q × Bool) := [asK15, asK112]
def sumL_d1 : List Duty := [(true, (.var 1), zK114)]
theorem sumL_y1 : endD sumL [] 1000 (roundC Try.prog [] [] [] 3000 40 5 [4, 1, 0, 1, 1, 1] (tellA sumL_t1) sumL) = some sumL_d1 := by kernel_rfl
abbrev asK113 : Q × Bool := ((.le (.int 61) (.var 2)), true)
def sumL_t2 : List (Q × Bool) := [asK15, asK16, asK113]
def sumL_d2 : List Duty := [(true, (.var 1), zK114)]
theorem sumL_y2 : endD sumL [] 1000 (roundC Try.prog [] [] [] 3000 40 5 [4, 1, 0, 1, 1, 1] (tellA sumL_t2) sumL) = some sumL_d2 := by kernel_rfl
theorem sumL_holds : LHolds Try.prog (loopAt Try.prog 5 [4, 1, 0, 1, 1, 1]) sumL F := by
 refine loop_roundsC sound (tableNil _ _) (specsNil _ _) (oversNil _ _) (fuel := 3000) (depth := 40) (by kernel_rfl) (by kernel_rfl) (by kernel_rfl) (fun d => (61 - (d 2).toInt).toNat) fun d hp hR hA => ?_
 have hp := allTold'_iff.2 hp
 simp only [sumL, tl] at hp hR hA
 simp only [F30, tl] at hp
 have g0 : (d 0).ints.length = (d 0).toList.length := (len_ints _).symm
 have hnn := lenP_nn (((d 0).toList.take 61).drop (d 2).toInt.toNat)
 have z0 : Int.toNat 0 = 0 := rfl
 by_cases h : ((d 0).toList.length : Int) ≤ (d 2).toInt
 ·refine ⟨tellA sumL_t1, tellA_ok (allTold'_iff.1 ?_), .inl ⟨_, _, _, sumL_y1, dutiesTold_ok ?_⟩⟩
  ·simp only [sumL_t1, tl]
   omega
  ·simp only [sumL_d1, F30, tl]
   rw [lenP_end (.inl (by omega))]
   omega
 ·by_cases h2 : 61 ≤ (d 2).toInt
  ·refine ⟨tellA sumL_t2, tellA_ok (allTold'_iff.1 ?_), .inl ⟨_, _, _, sumL_y2, dutiesTold_ok ?_⟩⟩
   ·simp only [sumL_t2, tl]
    omega
   ·simp only [sumL_d2, F30, tl]
    rw [lenP_end (.inr (by omega))]
    omega
  ·have e := lenP_step (l := (d 0).toList) (i := (d 2).toInt.toNat) (by omega) (by omega)
   have hnn2 := lenP_nn (((d 0).toList.take 61).drop ((d 2).toInt.toNat + 1))
   unfold bytP at e
   have hi : ((d 2).toInt + 1).toNat = (d 2).toInt.toNat + 1 := by omega
   refine ⟨tellA sumL_t0, tellA_ok (allTold'_iff.1 ?_), .inr ⟨sumL_h0, _, _, sumL_y0, dutiesTold_ok ?_, allTold'_iff.1 ?_, ?_⟩⟩
   ·simp only [sumL_t0, z0, tl]
    simp only [len_ints] at *
    omega
   ·simp only [sumL_d0, F30, z0, hi, tl]
    simp only [len_ints] at *
    omega
   ·simp only [sumL, sumL_h0_a, F30, z0, hi, tl]
    simp only [len_ints] at *
    omega
   ·simp only [sumL_h0_a, tl]
    omega

def k0i0 : LSpec := { n := 195, next := 7, pat := [(0, .pv (.agg [.sl (.int .u8), .bool]) (.var 0)), (1, .sint .i64 (.var 2)), (10, .ptr 1 0), (11, .nilslice), (12, .empty), (13, .sint .i64 (.var 1))], rows := [zK18, (3, .map [⟨.str ⟨#[102]⟩, .ptr 5 0, 0⟩] 1), zK112], pre := [(.le (.int 0) (.var 1), true), (.le (.var 1) (.un .len (.var 0)), true), (.le (.un .len (.var 0)) (.int 60), true), (.le zK128 (.int 3000), true), (.eq (.var 10) (.fn 40 txK14), true), (.le (.var 1) (.fn 43 zK126), true), (.le (.int 1) txK118, false), (.le (.int 1) txK119, false)], x := 2, fin := [(11, .nilslice), (12, .empty), (10, .ptr 1 0), (0, .pv (.agg [.sl (.int .u8), .bool]) (.var 0)), (1, .sint .i64 (.var 2))], frows := [zK15, (3, .map [⟨.str ⟨#[102]⟩, .ptr 5 0, 0⟩] 1), zK112], same := [1, 3, 5], chg := [0, 1, 10, 11, 12, 13, 14, 15, 66, 67, 68, 69, 70, 71, 72, 73, 74, 75, 76, 77, 78, 79, 80, 81, 82, 83, 84, 85, 86, 87, 88, 89, 90, 91, 92, 93, 94, 95, 96, 97, 98, 99, 100, 101, 102, 103, 104, 105, 106, 107, 108, 109, 110, 111, 112, 113, 114, 115, 116, 117, 118, 119, 120, 121, 122, 123, 124, 125, 126, 127, 128, 129, 130, 131, 132, 133, 134, 135, 136, 137, 138] }
def k0o0 : LSpec := { n := 195, next := 7, pat := [(0, .pv (.agg [.sl (.int .u8), .bool]) (.var 0)), (1, .sint .i64 (.var 2)), (10, .ptr 1 0), (11, .nilslice), (12, .empty), (13, .sint .i64 (.var 1))], rows := [zK116, (3, .map [⟨.str ⟨#[102]⟩, .ptr 5 0, 0⟩] 1), zK112], pre := [(.le (.int 0) (.var 1), true), (.le (.var 1) (.un .len (.var 0)), true), (.le (.un .len (.var 0)) (.int 60), true), (.le zK128 (.int 3000), true), (.le (.int 0) (.var 2), true), (.le zK115 (.var 1), true), (.eq (.var 10) (.int 0), true), (.le (.int 1) txK118, false), (.le (.int 1) txK119, false)], x := 2, fin := [(11, .nilslice), (12, .empty), (10, .ptr 1 0), (0, .pv (.agg [.sl (.int .u8), .bool]) (.var 0)), (1, .sint .i64 (.var 2))], frows := [zK15, (3, .map [⟨.str ⟨#[102]⟩, .ptr 5 0, 0⟩] 1), zK112], same := [1, 3, 5], chg := [0, 1, 10, 11, 12, 13, 14, 15, 66, 67, 68, 69, 70, 71, 72, 73, 74, 75, 76, 77, 78, 79, 80, 81, 82, 83, 84, 85, 86, 87, 88, 89, 90, 91, 92, 93, 94, 95, 96, 97, 98, 99, 100, 101, 102, 103, 104, 105, 106, 107, 108, 109, 110, 111, 112, 113, 114, 115, 116, 117, 118, 119, 120, 121, 122, 123, 124, 125, 126, 127, 128, 129, 130, 131, 132, 133, 134, 135, 136, 137, 138] }
def k0 : Nat → LSpec
 | 0 => k0i0
 | _ => k0o0
abbrev asK114 : Q × Bool := ((.le (.un .len (.var 0)) (.var 1)), true)
def k0i0_t0 : List (Q × Bool) := [asK15, asK114]
def k0i0_d0 : List Duty := []
theorem k0i0_y0 : endD (k0 0) [(1, 1), (3, 3), (5, 5)] 1000 (roundC Try.prog [] [] [(64, .lib (.clone)), (35, .lib (.keys 58 9))] 3000 40 5 [4, 1, 0, 1, 1, 1, 1, 1, 1, 1, 1] (tellA k0i0_t0) (k0 0)) = some k0i0_d0 := by kernel_rfl
abbrev asK115 : Q × Bool := ((.le (.un .len (.var 0)) (.var 1)), false)
abbrev asK116 : Q × Bool := ((.le (.int 0) (.var 1)), true)
abbrev asK117 : Q × Bool := ((.eq (.bi .sel zK131 (.int 1)) (.int 0)), false)
abbrev asK118 : Q × Bool := ((.eq (.var 10) (.int 0)), true)
abbrev asK119 : Q × Bool := ((.le (.var 2) (.var 1)), true)
abbrev asK120 : Q × Bool := ((.fit .i64 zK10), true)
def k0i0_t1 : List (Q × Bool) := [asK15, asK115, asK116, asK117, asK118, asK18, asK119, asK120]
def k0i0_d1 : List Duty := []
def k0i0_h1 : List (Nat × E) := [(9, (.var 9)), (10, (.var 10)), (1, zK10), (2, (.var 2)), (0, (.var 0))]
theorem k0i0_h1_a : lookE k0i0_h1 0 = (.var 0) ∧ lookE k0i0_h1 1 = zK10 ∧ lookE k0i0_h1 2 = (.var 2) ∧ lookE k0i0_h1 9 = (.var 9) ∧ lookE k0i0_h1 10 = (.var 10) := ⟨rfl, rfl, rfl, rfl, rfl⟩
theorem k0i0_y1 : nextJ (k0 0) (k0 1) k0i0_h1 [(5, 5), (3, 3), (1, 1)] (roundC Try.prog [] [] [(64, .lib (.clone)), (35, .lib (.keys 58 9))] 3000 40 5 [4, 1, 0, 1, 1, 1, 1, 1, 1, 1, 1] (tellA k0i0_t1) (k0 0)) = some k0i0_d1 := by kernel_rfl
abbrev asK121 : Q × Bool := ((.eq (.bi .sel zK131 (.int 1)) (.int 0)), true)
abbrev asK122 : Q × Bool := ((.fit .i64 (.un .len txK11)), true)
abbrev asK123 : Q × Bool := ((.le (.un .len txK11) (.int 3000)), true)
def k0i0_t2 : List (Q × Bool) := [asK15, asK115, asK116, asK121, asK122, asK123, asK118, asK18, asK119, asK120]
def k0i0_d2 : List Duty := []
def k0i0_h2 : List (Nat × E) := [(9, (.var 9)), (10, (.var 10)), (1, zK10), (2, (.var 2)), (0, (.var 0))]
theorem k0i0_h2_a : lookE k0i0_h2 0 = (.var 0) ∧ lookE k0i0_h2 1 = zK10 ∧ lookE k0i0_h2 2 = (.var 2) ∧ lookE k0i0_h2 9 = (.var 9) ∧ lookE k0i0_h2 10 = (.var 10) := ⟨rfl, rfl, rfl, rfl, rfl⟩
theorem k0i0_y2 : nextJ (k0 0) (k0 1) k0i0_h2 [(5, 5), (3, 3), (1, 1)] (roundC Try.prog [] [] [(64, .lib (.clone)), (35, .lib (.keys 58 9))] 3000 40 5 [4, 1, 0, 1, 1, 1, 1, 1, 1, 1, 1] (tellA k0i0_t2) (k0 0)) = some k0i0_d2 := by kernel_rfl
abbrev asK124 : Q × Bool := ((.eq (.var 10) (.int 0)), false)
abbrev asK125 : Q × Bool := ((.eq (.var 10) (.int (-1))), true)
abbrev asK126 : Q × Bool := ((.le (.int 0) (.var 2)), false)
def k0i0_t3 : List (Q × Bool) := [asK15, asK115, asK116, asK117, asK124, asK125, asK126, asK120]
def k0i0_d3 : List Duty := []
def k0i0_h3 : List (Nat × E) := [(9, zK11), (10, (.var 10)), (1, zK10), (2, (.var 2)), (0, (.var 0))]
theorem k0i0_h3_a : lookE k0i0_h3 0 = (.var 0) ∧ lookE k0i0_h3 1 = zK10 ∧ lookE k0i0_h3 2 = (.var 2) ∧ lookE k0i0_h3 9 = zK11 ∧ lookE k0i0_h3 10 = (.var 10) := ⟨rfl, rfl, rfl, rfl, rfl⟩
theorem k0i0_y3 : nextJ (k0 0) (k0 0) k0i0_h3 [(5, 5), (3, 3), (1, 1)] (roundC Try.prog [] [] [(64, .lib (.clone)), (35, .lib (.keys 58 9))] 3000 40 5 [4, 1, 0, 1, 1, 1, 1, 1, 1, 1, 1] (tellA k0i0_t3) (k0 0)) = some k0i0_d3 := by kernel_rfl
abbrev asK127 : Q × Bool := ((.eq (.var 10) (.int (-1))), false)
abbrev asK128 : Q × Bool := ((.fit .i64 zK14), true)
abbrev asK129 : Q × Bool := ((.le (.var 2) (.var 1)), false)
def k0i0_t4 : List (Q × Bool) := [asK15, asK115, asK116, asK117, asK124, asK127, asK128, asK18, asK129, asK120]
def k0i0_d4 : List Duty := []
def k0i0_h4 : List (Nat × E) := [(9, zK11), (10, zK14), (1, zK10), (2, (.var 2)), (0, (.var 0))]
theorem k0i0_h4_a : lookE k0i0_h4 0 = (.var 0) ∧ lookE k0i0_h4 1 = zK10 ∧ lookE k0i0_h4 2 = (.var 2) ∧ lookE k0i0_h4 9 = zK11 ∧ lookE k0i0_h4 10 = zK14 := ⟨rfl, rfl, rfl, rfl, rfl⟩
theorem k0i0_y4 : nextJ (k0 0) (k0 0) k0i0_h4 [(5, 5), (3, 3), (1, 1)] (roundC Try.prog [] [] [(64, .lib (.clone)), (35, .lib (.keys 58 9))] 3000 40 5 [4, 1, 0, 1, 1, 1, 1, 1, 1, 1, 1] (tellA k0i0_t4) (k0 0)) = some k0i0_d4 := by kernel_rfl
abbrev asK130 : Q × Bool := ((.eq (.un .len txK11) (.int 0)), true)
def k0i0_t5 : List (Q × Bool) := [asK15, asK115, asK116, asK121, asK122, asK123, asK124, asK125, asK130, asK126, asK120]
def k0i0_d5 : List Duty := []
def k0i0_h5 : List (Nat × E) := [(9, zK11), (10, (.var 10)), (1, zK10), (2, (.var 2)), (0, (.var 0))]
theorem k0i0_h5_a : lookE k0i0_h5 0 = (.var 0) ∧ lookE k0i0_h5 1 = zK10 ∧ lookE k0i0_h5 2 = (.var 2) ∧ lookE k0i0_h5 9 = zK11 ∧ lookE k0i0_h5 10 = (.var 10) := ⟨rfl, rfl, rfl, rfl, rfl⟩
theorem k0i0_y5 : nextJ (k0 0) (k0 0) k0i0_h5 [(5, 5), (3, 3), (1, 1)] (roundC Try.prog [] [] [(64, .lib (.clone)), (35, .lib (.keys 58 9))] 3000 40 5 [4, 1, 0, 1, 1, 1, 1, 1, 1, 1, 1] (tellA k0i0_t5) (k0 0)) = some k0i0_d5 := by kernel_rfl
def k0i0_t6 : List (Q × Bool) := [asK15, asK115, asK116, asK121, asK122, asK123, asK124, asK127, asK128, asK130, asK18, asK129, asK120]
def k0i0_d6 : List Duty := []
def k0i0_h6 : List (Nat × E) := [(9, zK11), (10, zK14), (1, zK10), (2, (.var 2)), (0, (.var 0))]
theorem k0i0_h6_a : lookE k0i0_h6 0 = (.var 0) ∧ lookE k0i0_h6 1 = zK10 ∧ lookE k0i0_h6 2 = (.var 2) ∧ lookE k0i0_h6 9 = zK11 ∧ lookE k0i0_h6 10 = zK14 := ⟨rfl, rfl, rfl, rfl, rfl⟩
theorem k0i0_y6 : nextJ (k0 0) (k0 0) k0i0_h6 [(5, 5), (3, 3), (1, 1)] (roundC Try.prog [] [] [(64, .lib (.clone)), (35, .lib (.keys 58 9))] 3000 40 5 [4, 1, 0, 1, 1, 1, 1, 1, 1, 1, 1] (tellA k0i0_t6) (k0 0)) = some k0i0_d6 := by kernel_rfl
def k0o0_t0 : List (Q × Bool) := [asK15, asK114]
def k0o0_d0 : List Duty := []
theorem k0o0_y0 : endD (k0 1) [(1, 1), (3, 3), (5, 5)] 1000 (roundC Try.prog [] [] [(64, .lib (.clone)), (35, .lib (.keys 58 9))] 3000 40 5 [4, 1, 0, 1, 1, 1, 1, 1, 1, 1, 1] (tellA k0o0_t0) (k0 1)) = some k0o0_d0 := by kernel_rfl
def k0o0_t1 : List (Q × Bool) := [asK15, asK115, asK116, asK117, asK18, asK119, asK120]
def k0o0_d1 : List Duty := []
def k0o0_h1 : List (Nat × E) := [(9, (.var 9)), (10, (.var 10)), (1, zK10), (2, (.var 2)), (0, (.var 0))]
theorem k0o0_h1_a : lookE k0o0_h1 0 = (.var 0) ∧ lookE k0o0_h1 1 = zK10 ∧ lookE k0o0_h1 2 = (.var 2) ∧ lookE k0o0_h1 9 = (.var 9) ∧ lookE k0o0_h1 10 = (.var 10) := ⟨rfl, rfl, rfl, rfl, rfl⟩
theorem k0o0_y1 : nextJ (k0 1) (k0 1) k0o0_h1 [(5, 5), (3, 3), (1, 1)] (roundC Try.prog [] [] [(64, .lib (.clone)), (35, .lib (.keys 58 9))] 3000 40 5 [4, 1, 0, 1, 1, 1, 1, 1, 1, 1, 1] (tellA k0o0_t1) (k0 1)) = some k0o0_d1 := by kernel_rfl
def k0o0_t2 : List (Q × Bool) := [asK15, asK115, asK116, asK121, asK18, asK119, asK120]
def k0o0_d2 : List Duty := []
def k0o0_h2 : List (Nat × E) := [(9, (.var 9)), (10, (.var 10)), (1, zK10), (2, (.var 2)), (0, (.var 0))]
theorem k0o0_h2_a : lookE k0o0_h2 0 = (.var 0) ∧ lookE k0o0_h2 1 = zK10 ∧ lookE k0o0_h2 2 = (.var 2) ∧ lookE k0o0_h2 9 = (.var 9) ∧ lookE k0o0_h2 10 = (.var 10) := ⟨rfl, rfl, rfl, rfl, rfl⟩
theorem k0o0_y2 : nextJ (k0 1) (k0 1) k0o0_h2 [(5, 5), (3, 3), (1, 1)] (roundC Try.prog [] [] [(64, .lib (.clone)), (35, .lib (.keys 58 9))] 3000 40 5 [4, 1, 0, 1, 1, 1, 1, 1, 1, 1, 1] (tellA k0o0_t2) (k0 1)) = some k0o0_d2 := by kernel_rfl
set_option maxHeartbeats 16000000 in
theorem k0_holds : ∀ i, i < 2 → LHolds Try.prog (loopAt Try.prog 5 [4, 1, 0, 1, 1, 1, 1, 1, 1, 1, 1]) (k0 i) F := by
 refine loop_famC sound (tableNil _ _) (specsNil _ _) (oversLib cloneL_holds (oversLib keysL0_holds (oversNil _ _))) (fuel := 3000) (depth := 40) (by kernel_rfl) (fun i d => match i with | 0 => ((d 0).toList.length - (d 1).toInt).toNat | _ => ((d 0).toList.length - (d 1).toInt).toNat) ?_
 intro i hi d hp hR hA
 match i, hi with
 | 0, _ =>
   have hp := allTold'_iff.2 hp
   simp only [k0, k0i0, tl] at hp hR hA
   simp only [gk, tl] at hp
   obtain ⟨p1, p2, p3, p4, i1, i2, e1, e2⟩ := hp
   have g0 : (d 0).ints.length = (d 0).toList.length := (len_ints _).symm
   by_cases h : ((d 0).toList.length : Int) ≤ (d 1).toInt
   ·have he := goK_end (f := (d 2).toInt) h ([], [])
    simp only [he] at e1 e2
    refine ⟨tellA k0i0_t0, tellA_ok (allTold'_iff.1 ?_), .inl ⟨_, _, _, k0i0_y0, dutiesTold_ok ?_⟩⟩
    all_goals (try simp only [k0i0_t0, k0i0_d0, gk, he, tl])
    all_goals (first | exact True.intro | omega | (and_intros <;> first | exact True.intro | omega | (rfl; done) | assumption | (rw [ap3, List.append_assoc]; done) | (rw [ap3, hb0, List.append_nil]; done) | (simp only [List.length_append] at *; omega)))
   ·have hl := lenP_step (l := (d 0).toList) (i := (d 1).toInt.toNat) (by omega) (by omega)
    have hn := lenP_nn (((d 0).toList.take 61).drop ((d 1).toInt.toNat + 1))
    have hi : ((d 1).toInt + 1).toNat = (d 1).toInt.toNat + 1 := by omega
    have hst := goK_step (f := (d 2).toInt) (l := (d 0).toList) (i := (d 1).toInt) p1 (by omega)
    simp only [hi] at hst
    generalize hX : (d 0).toList[(d 1).toInt.toNat]?.getD (D.int 0) = X at *
    generalize hB : bytP X = B at *
    generalize hN : X.ints[1]?.getD 0 = N at *
    unfold bytP at hB
    have g1 : B.ints.length = B.toList.length := (len_ints _).symm
    have hsy : synP X = decide (N ≠ 0) := by unfold synP; rw [hN]
    by_cases ho : (d 2).toInt = (d 1).toInt
    ·have hq := goK_out (f := (d 2).toInt) (i := (d 1).toInt) (by omega) (by omega) ((d 0).toList.drop (d 1).toInt.toNat) ([], [])
     simp only [hq] at e1 e2
     have hq2 := goK_out (f := (d 2).toInt) (i := (d 1).toInt + 1) (by omega) (by omega) ((d 0).toList.drop ((d 1).toInt + 1).toNat) ([], [])
     rw [hi] at hq2
     by_cases hs : N = 0
     ·refine ⟨tellA k0i0_t2, tellA_ok (allTold'_iff.1 ?_), .inr ⟨1, k0i0_h2, _, _, by decide, k0i0_y2, dutiesTold_ok ?_, allTold'_iff.1 ?_, ?_⟩⟩
      all_goals (try simp only [k0i0_t2, k0i0_d2, k0, k0i0, k0o0, k0i0_h2_a, gk, hX, hN, hB, hi, hq, hq2, tl])
      all_goals (first | exact True.intro | omega | (and_intros <;> first | exact True.intro | omega | (rfl; done) | assumption | (rw [ap3, List.append_assoc]; done) | (rw [ap3, hb0, List.append_nil]; done) | (simp only [List.length_append] at *; omega)))
     ·refine ⟨tellA k0i0_t1, tellA_ok (allTold'_iff.1 ?_), .inr ⟨1, k0i0_h1, _, _, by decide, k0i0_y1, dutiesTold_ok ?_, allTold'_iff.1 ?_, ?_⟩⟩
      all_goals (try simp only [k0i0_t1, k0i0_d1, k0, k0i0, k0o0, k0i0_h1_a, gk, hX, hN, hB, hi, hq, hq2, tl])
      all_goals (first | exact True.intro | omega | (and_intros <;> first | exact True.intro | omega | (rfl; done) | assumption | (rw [ap3, List.append_assoc]; done) | (rw [ap3, hb0, List.append_nil]; done) | (simp only [List.length_append] at *; omega)))
    ·by_cases hu : (d 2).toInt < 0
     ·have hs := hst (.inl hu) ([], [])
      rw [hsy] at hs
      by_cases hz : N = 0
      ·by_cases hb : B.toList.length = 0
       ·have hb0 : B.ints = [] := List.eq_nil_of_length_eq_zero (by omega)
        simp only [hz, hb0, ne_eq, not_true_eq_false, decide_false, Bool.false_eq_true, if_false, List.nil_append, List.append_nil] at hs
        simp only [hs] at e1 e2
        refine ⟨tellA k0i0_t5, tellA_ok (allTold'_iff.1 ?_), .inr ⟨0, k0i0_h5, _, _, by decide, k0i0_y5, dutiesTold_ok ?_, allTold'_iff.1 ?_, ?_⟩⟩
        all_goals (try simp only [k0i0_t5, k0i0_d5, k0, k0i0, k0o0, k0i0_h5_a, gk, hX, hN, hB, hi, hs, hb0, tl])
        all_goals (first | exact True.intro | omega | (and_intros <;> first | exact True.intro | omega | (rfl; done) | assumption | (rw [ap3, List.append_assoc]; done) | (rw [ap3, hb0, List.append_nil]; done) | (simp only [List.length_append] at *; omega)))
       ·simp only [hz, ne_eq, not_true_eq_false, decide_false, Bool.false_eq_true, if_false, List.nil_append, List.append_nil] at hs
        simp only [hs] at e1 e2
        have hk := goK_len (f := (d 2).toInt) ((d 0).toList.drop ((d 1).toInt.toNat + 1)) ((d 1).toInt + 1) ([], B.ints)
        (exfalso; (try simp only [D.ints_ofInts, List.length_nil, List.length_append] at *); omega)
      ·simp only [ne_eq, hz, not_false_eq_true, decide_true, if_true, List.nil_append, List.append_nil] at hs
       simp only [hs] at e1 e2
       refine ⟨tellA k0i0_t3, tellA_ok (allTold'_iff.1 ?_), .inr ⟨0, k0i0_h3, _, _, by decide, k0i0_y3, dutiesTold_ok ?_, allTold'_iff.1 ?_, ?_⟩⟩
       all_goals (try simp only [k0i0_t3, k0i0_d3, k0, k0i0, k0o0, k0i0_h3_a, gk, hX, hN, hB, hi, hs, tl])
       all_goals (first | exact True.intro | omega | (and_intros <;> first | exact True.intro | omega | (rfl; done) | assumption | (rw [ap3, List.append_assoc]; done) | (rw [ap3, hb0, List.append_nil]; done) | (simp only [List.length_append] at *; omega)))
     ·have hf : (d 1).toInt < (d 2).toInt := by omega
      have hs := hst (.inr hf) ([], [])
      rw [hsy] at hs
      by_cases hz : N = 0
      ·by_cases hb : B.toList.length = 0
       ·have hb0 : B.ints = [] := List.eq_nil_of_length_eq_zero (by omega)
        simp only [hz, hb0, ne_eq, not_true_eq_false, decide_false, Bool.false_eq_true, if_false, List.nil_append, List.append_nil] at hs
        simp only [hs] at e1 e2
        refine ⟨tellA k0i0_t6, tellA_ok (allTold'_iff.1 ?_), .inr ⟨0, k0i0_h6, _, _, by decide, k0i0_y6, dutiesTold_ok ?_, allTold'_iff.1 ?_, ?_⟩⟩
        all_goals (try simp only [k0i0_t6, k0i0_d6, k0, k0i0, k0o0, k0i0_h6_a, gk, hX, hN, hB, hi, hs, hb0, tl])
        all_goals (first | exact True.intro | omega | (and_intros <;> first | exact True.intro | omega | (rfl; done) | assumption | (rw [ap3, List.append_assoc]; done) | (rw [ap3, hb0, List.append_nil]; done) | (simp only [List.length_append] at *; omega)))
       ·simp only [hz, ne_eq, not_true_eq_false, decide_false, Bool.false_eq_true, if_false, List.nil_append, List.append_nil] at hs
        simp only [hs] at e1 e2
        have hk := goK_len (f := (d 2).toInt) ((d 0).toList.drop ((d 1).toInt.toNat + 1)) ((d 1).toInt + 1) ([], B.ints)
        (exfalso; (try simp only [D.ints_ofInts, List.length_nil, List.length_append] at *); omega)
      ·simp only [ne_eq, hz, not_false_eq_true, decide_true, if_true, List.nil_append, List.append_nil] at hs
       simp only [hs] at e1 e2
       refine ⟨tellA k0i0_t4, tellA_ok (allTold'_iff.1 ?_), .inr ⟨0, k0i0_h4, _, _, by decide, k0i0_y4, dutiesTold_ok ?_, allTold'_iff.1 ?_, ?_⟩⟩
       all_goals (try simp only [k0i0_t4, k0i0_d4, k0, k0i0, k0o0, k0i0_h4_a, gk, hX, hN, hB, hi, hs, tl])
       all_goals (first | exact True.intro | omega | (and_intros <;> first | exact True.intro | omega | (rfl; done) | assumption | (rw [ap3, List.append_assoc]; done) | (rw [ap3, hb0, List.append_nil]; done) | (simp only [List.length_append] at *; omega)))
 | 1, _ =>
   have hp := allTold'_iff.2 hp
   simp only [k0, k0o0, tl] at hp hR hA
   simp only [gk, tl] at hp
   obtain ⟨p1, p2, p3, p4, o1, o2, o3, e1, e2⟩ := hp
   have g0 : (d 0).ints.length = (d 0).toList.length := (len_ints _).symm
   by_cases h : ((d 0).toList.length : Int) ≤ (d 1).toInt
   ·have he := goK_end (f := (d 2).toInt) h ([], [])
    simp only [he] at e1 e2
    refine ⟨tellA k0o0_t0, tellA_ok (allTold'_iff.1 ?_), .inl ⟨_, _, _, k0o0_y0, dutiesTold_ok ?_⟩⟩
    all_goals (try simp only [k0o0_t0, k0o0_d0, gk, he, tl])
    all_goals (first | exact True.intro | omega | (and_intros <;> first | exact True.intro | omega | (rfl; done) | assumption | (rw [ap3, List.append_assoc]; done) | (rw [ap3, hb0, List.append_nil]; done) | (simp only [List.length_append] at *; omega)))
   ·have hl := lenP_step (l := (d 0).toList) (i := (d 1).toInt.toNat) (by omega) (by omega)
    have hn := lenP_nn (((d 0).toList.take 61).drop ((d 1).toInt.toNat + 1))
    have hi : ((d 1).toInt + 1).toNat = (d 1).toInt.toNat + 1 := by omega
    have hq := goK_out (i := (d 1).toInt) o1 (by omega) ((d 0).toList.drop (d 1).toInt.toNat) ([], [])
    have hq2 := goK_out (i := (d 1).toInt + 1) o1 (by omega) ((d 0).toList.drop ((d 1).toInt + 1).toNat) ([], [])
    rw [hi] at hq2
    simp only [hq] at e1 e2
    generalize hX : (d 0).toList[(d 1).toInt.toNat]?.getD (D.int 0) = X at *
    generalize hB : bytP X = B at *
    generalize hN : X.ints[1]?.getD 0 = N at *
    unfold bytP at hB
    have g1 : B.ints.length = B.toList.length := (len_ints _).symm
    have hsy : synP X = decide (N ≠ 0) := by unfold synP; rw [hN]
    by_cases hs : N = 0
    ·refine ⟨tellA k0o0_t2, tellA_ok (allTold'_iff.1 ?_), .inr ⟨1, k0o0_h2, _, _, by decide, k0o0_y2, dutiesTold_ok ?_, allTold'_iff.1 ?_, ?_⟩⟩
     all_goals (try simp only [k0o0_t2, k0o0_d2, k0, k0i0, k0o0, k0o0_h2_a, gk, hX, hN, hB, hi, hq, hq2, tl])
     all_goals (first | exact True.intro | omega | (and_intros <;> first | exact True.intro | omega | (rfl; done) | assumption | (rw [ap3, List.append_assoc]; done) | (rw [ap3, hb0, List.append_nil]; done) | (simp only [List.length_append] at *; omega)))
    ·refine ⟨tellA k0o0_t1, tellA_ok (allTold'_iff.1 ?_), .inr ⟨1, k0o0_h1, _, _, by decide, k0o0_y1, dutiesTold_ok ?_, allTold'_iff.1 ?_, ?_⟩⟩
     all_goals (try simp only [k0o0_t1, k0o0_d1, k0, k0i0, k0o0, k0o0_h1_a, gk, hX, hN, hB, hi, hq, hq2, tl])
     all_goals (first | exact True.intro | omega | (and_intros <;> first | exact True.intro | omega | (rfl; done) | assumption | (rw [ap3, List.append_assoc]; done) | (rw [ap3, hb0, List.append_nil]; done) | (simp only [List.length_append] at *; omega)))
theorem k0i0_holds : LHolds Try.prog (loopAt Try.prog 5 [4, 1, 0, 1, 1, 1, 1, 1, 1, 1, 1]) k0i0 F := k0_holds 0 (by decide)
theorem k0o0_holds : LHolds Try.prog (loopAt Try.prog 5 [4, 1, 0, 1, 1, 1, 1, 1, 1, 1, 1]) k0o0 F := k0_holds 1 (by decide)

def k1i0 : LSpec := { n := 195, next := 7, pat := [(0, .pv (.agg [.sl (.int .u8), .bool]) (.var 0)), (1, .sint .i64 (.var 2)), (10, .ptr 1 0), (11, .nilslice), (12, .empty), (13, .sint .i64 (.var 1))], rows := [zK18, (3, .map [⟨.str ⟨#[102]⟩, .ptr 5 0, 0⟩] 1), zK112], pre := [(.le (.int 0) (.var 1), true), (.le (.var 1) (.un .len (.var 0)), true), (.le (.un .len (.var 0)) (.int 60), true), (.le zK128 (.int 3000), true), (.eq (.var 10) (.fn 40 txK14), true), (.le (.var 1) (.fn 43 zK126), true), (.le (.int 1) txK118, false), (.le (.int 1) txK119, true)], x := 2, fin := [(11, .sslice 7 (.int 0) txK120 txK120 true), (12, .empty), (10, .ptr 1 0), (0, .pv (.agg [.sl (.int .u8), .bool]) (.var 0)), (1, .sint .i64 (.var 2))], frows := [zK15, (3, .map [⟨.str ⟨#[102]⟩, .ptr 5 0, 0⟩] 1), (5, .cells 82 0 false false [.nilslice, .sslice 13 (.int 0) txK119 txK119 true]), (7, .seq ⟨5, .u8, .un .len (.fn 44 zK13), .fn 44 zK13, true, false⟩), (13, .seq ⟨5, .u8, .un .len (.fn 46 zK13), .fn 46 zK13, true, false⟩)], same := [1, 3, 5], chg := [0, 1, 10, 11, 12, 13, 14, 15, 66, 67, 68, 69, 70, 71, 72, 73, 74, 75, 76, 77, 78, 79, 80, 81, 82, 83, 84, 85, 86, 87, 88, 89, 90, 91, 92, 93, 94, 95, 96, 97, 98, 99, 100, 101, 102, 103, 104, 105, 106, 107, 108, 109, 110, 111, 112, 113, 114, 115, 116, 117, 118, 119, 120, 121, 122, 123, 124, 125, 126, 127, 128, 129, 130, 131, 132, 133, 134, 135, 136, 137, 138] }
def k1i1 : LSpec := { n := 195, next := 7, pat := [(0, .pv (.agg [.sl (.int .u8), .bool]) (.var 0)), (1, .sint .i64 (.var 2)), (10, .ptr 1 0), (11, .sslice 7 (.int 0) (.var 3) (.var 3) true), (12, .empty), (13, .sint .i64 (.var 1))], rows := [zK18, (3, .map [⟨.str ⟨#[102]⟩, .ptr 5 0, 0⟩] 1), zK125, (7, .seq ⟨5, .u8, .var 3, .var 4, true, false⟩), (13, .seq ⟨5, .u8, .var 7, .var 8, true, false⟩)], pre := [(.le (.int 0) (.var 1), true), (.le (.var 1) (.un .len (.var 0)), true), (.le (.un .len (.var 0)) (.int 60), true), (.le (.bi .add (.var 3) (.fn 30 txK12)) (.int 3000), true), (.eq (.var 10) (.fn 40 txK14), true), (.le (.var 1) (.fn 43 zK126), true), (.le (.int 1) (.var 7), true), (.eq (.var 7) (.un .len (.var 8)), true), (.eq (.var 3) (.var 7), true), (.same (.var 4) (.var 8), true), (.le (.int 1) txK115, false), (.le (.int 1) txK116, true)], x := 2, fin := [(11, .sslice 7 (.int 0) txK117 txK117 true), (12, .empty), (10, .ptr 1 0), (0, .pv (.agg [.sl (.int .u8), .bool]) (.var 0)), (1, .sint .i64 (.var 2))], frows := [zK15, (3, .map [⟨.str ⟨#[102]⟩, .ptr 5 0, 0⟩] 1), zK127, zK130, zK129], same := [1, 3, 5], chg := [0, 1, 10, 11, 12, 13, 14, 15, 66, 67, 68, 69, 70, 71, 72, 73, 74, 75, 76, 77, 78, 79, 80, 81, 82, 83, 84, 85, 86, 87, 88, 89, 90, 91, 92, 93, 94, 95, 96, 97, 98, 99, 100, 101, 102, 103, 104, 105, 106, 107, 108, 109, 110, 111, 112, 113, 114, 115, 116, 117, 118, 119, 120, 121, 122, 123, 124, 125, 126, 127, 128, 129, 130, 131, 132, 133, 134, 135, 136, 137, 138] }
def k1o1 : LSpec := { n := 195, next := 7, pat := [(0, .pv (.agg [.sl (.int .u8), .bool]) (.var 0)), (1, .sint .i64 (.var 2)), (10, .ptr 1 0), (11, .sslice 7 (.int 0) (.var 3) (.var 3) true), (12, .empty), (13, .sint .i64 (.var 1))], rows := [zK116, (3, .map [⟨.str ⟨#[102]⟩, .ptr 5 0, 0⟩] 1), zK125, (7, .seq ⟨5, .u8, .var 3, .var 4, true, false⟩), (13, .seq ⟨5, .u8, .var 7, .var 8, true, false⟩)], pre := [(.le (.int 0) (.var 1), true), (.le (.var 1) (.un .len (.var 0)), true), (.le (.un .len (.var 0)) (.int 60), true), (.le (.bi .add (.var 3) (.fn 30 txK12)) (.int 3000), true), (.le (.int 0) (.var 2), true), (.le zK115 (.var 1), true), (.eq (.var 10) (.int 0), true), (.le (.int 1) (.var 7), true), (.eq (.var 7) (.un .len (.var 8)), true), (.eq (.var 3) (.var 7), true), (.same (.var 4) (.var 8), true), (.le (.int 1) txK115, false), (.le (.int 1) txK116, true)], x := 2, fin := [(11, .sslice 7 (.int 0) txK117 txK117 true), (12, .empty), (10, .ptr 1 0), (0, .pv (.agg [.sl (.int .u8), .bool]) (.var 0)), (1, .sint .i64 (.var 2))], frows := [zK15, (3, .map [⟨.str ⟨#[102]⟩, .ptr 5 0, 0⟩] 1), zK127, zK130, zK129], same := [1, 3, 5], chg := [0, 1, 10, 11, 12, 13, 14, 15, 66, 67, 68, 69, 70, 71, 72, 73, 74, 75, 76, 77, 78, 79, 80, 81, 82, 83, 84, 85, 86, 87, 88, 89, 90, 91, 92, 93, 94, 95, 96, 97, 98, 99, 100, 101, 102, 103, 104, 105, 106, 107, 108, 109, 110, 111, 112, 113, 114, 115, 116, 117, 118, 119, 120, 121, 122, 123, 124, 125, 126, 127, 128, 129, 130, 131, 132, 133, 134, 135, 136, 137, 138] }
def k1 : Nat → LSpec
 | 0 => k1i0
 | 1 => k1i1
 | _ => k1o1
def k1i0_t0 : List (Q × Bool) := [asK15, asK115, asK116, asK117, asK124, asK125, asK126, asK120]
def k1i0_d0 : List Duty := [(true, txK124, txK120), (true, txK124, txK120), (true, txK125, txK119), (true, txK125, txK119), (true, txK124, txK120), zK123, (true, txK125, txK119), zK124]
def k1i0_h0 : List (Nat × E) := [(9, zK11), (10, (.var 10)), (1, zK10), (2, (.var 2)), (0, (.var 0))]
theorem k1i0_h0_a : lookE k1i0_h0 0 = (.var 0) ∧ lookE k1i0_h0 1 = zK10 ∧ lookE k1i0_h0 2 = (.var 2) ∧ lookE k1i0_h0 9 = zK11 ∧ lookE k1i0_h0 10 = (.var 10) := ⟨rfl, rfl, rfl, rfl, rfl⟩
theorem k1i0_y0 : nextJ (k1 0) (k1 0) k1i0_h0 [(5, 5), (3, 3), (1, 1)] (roundC Try.prog [] [] [(64, .lib (.clone)), (35, .lib (.keys 58 9))] 3000 40 5 [4, 1, 0, 1, 1, 1, 1, 1, 1, 1, 1] (tellA k1i0_t0) (k1 0)) = some k1i0_d0 := by kernel_rfl
def k1i0_t1 : List (Q × Bool) := [asK15, asK115, asK116, asK117, asK124, asK127, asK128, asK18, asK129, asK120]
def k1i0_d1 : List Duty := [(true, txK124, txK120), (true, txK124, txK120), (true, txK125, txK119), (true, txK125, txK119), (true, txK124, txK120), zK123, (true, txK125, txK119), zK124]
def k1i0_h1 : List (Nat × E) := [(9, zK11), (10, zK14), (1, zK10), (2, (.var 2)), (0, (.var 0))]
theorem k1i0_h1_a : lookE k1i0_h1 0 = (.var 0) ∧ lookE k1i0_h1 1 = zK10 ∧ lookE k1i0_h1 2 = (.var 2) ∧ lookE k1i0_h1 9 = zK11 ∧ lookE k1i0_h1 10 = zK14 := ⟨rfl, rfl, rfl, rfl, rfl⟩
theorem k1i0_y1 : nextJ (k1 0) (k1 0) k1i0_h1 [(5, 5), (3, 3), (1, 1)] (roundC Try.prog [] [] [(64, .lib (.clone)), (35, .lib (.keys 58 9))] 3000 40 5 [4, 1, 0, 1, 1, 1, 1, 1, 1, 1, 1] (tellA k1i0_t1) (k1 0)) = some k1i0_d1 := by kernel_rfl
def k1i0_t2 : List (Q × Bool) := [asK15, asK115, asK116, asK121, asK122, asK123, asK124, asK125, asK130, asK126, asK120]
def k1i0_d2 : List Duty := [(true, txK124, txK120), (true, txK124, txK120), (true, txK125, txK119), (true, txK125, txK119), (true, txK124, txK120), zK123, (true, txK125, txK119), zK124]
def k1i0_h2 : List (Nat × E) := [(9, zK11), (10, (.var 10)), (1, zK10), (2, (.var 2)), (0, (.var 0))]
theorem k1i0_h2_a : lookE k1i0_h2 0 = (.var 0) ∧ lookE k1i0_h2 1 = zK10 ∧ lookE k1i0_h2 2 = (.var 2) ∧ lookE k1i0_h2 9 = zK11 ∧ lookE k1i0_h2 10 = (.var 10) := ⟨rfl, rfl, rfl, rfl, rfl⟩
theorem k1i0_y2 : nextJ (k1 0) (k1 0) k1i0_h2 [(5, 5), (3, 3), (1, 1)] (roundC Try.prog [] [] [(64, .lib (.clone)), (35, .lib (.keys 58 9))] 3000 40 5 [4, 1, 0, 1, 1, 1, 1, 1, 1, 1, 1] (tellA k1i0_t2) (k1 0)) = some k1i0_d2 := by kernel_rfl
def k1i0_t3 : List (Q × Bool) := [asK15, asK115, asK116, asK121, asK122, asK123, asK124, asK127, asK128, asK130, asK18, asK129, asK120]
def k1i0_d3 : List Duty := [(true, txK124, txK120), (true, txK124, txK120), (true, txK125, txK119), (true, txK125, txK119), (true, txK124, txK120), zK123, (true, txK125, txK119), zK124]
def k1i0_h3 : List (Nat × E) := [(9, zK11), (10, zK14), (1, zK10), (2, (.var 2)), (0, (.var 0))]
theorem k1i0_h3_a : lookE k1i0_h3 0 = (.var 0) ∧ lookE k1i0_h3 1 = zK10 ∧ lookE k1i0_h3 2 = (.var 2) ∧ lookE k1i0_h3 9 = zK11 ∧ lookE k1i0_h3 10 = zK14 := ⟨rfl, rfl, rfl, rfl, rfl⟩
theorem k1i0_y3 : nextJ (k1 0) (k1 0) k1i0_h3 [(5, 5), (3, 3), (1, 1)] (roundC Try.prog [] [] [(64, .lib (.clone)), (35, .lib (.keys 58 9))] 3000 40 5 [4, 1, 0, 1, 1, 1, 1, 1, 1, 1, 1] (tellA k1i0_t3) (k1 0)) = some k1i0_d3 := by kernel_rfl
abbrev asK131 : Q × Bool := ((.eq (.un .len txK11) (.int 0)), false)
abbrev asK132 : Q × Bool := ((.le (.bi .mul (.un .len txK11) (.int 2)) (.int 281474976710656)), true)
def k1i0_t4 : List (Q × Bool) := [asK15, asK115, asK116, asK121, asK122, asK123, asK124, asK125, asK131, asK132, asK126, asK120]
def k1i0_d4 : List Duty := [(true, txK127, txK120), (true, txK127, txK120), (true, txK128, txK119), (true, txK128, txK119), (true, txK127, txK120), (false, (.fn 44 zK117), (.fn 44 zK13)), (true, txK128, txK119), (false, (.fn 46 zK117), (.fn 46 zK13))]
def k1i0_h4 : List (Nat × E) := [(8, txK11), (4, txK11), (7, (.un .len txK11)), (9, zK11), (10, (.var 10)), (1, zK10), (3, (.un .len txK11)), (2, (.var 2)), (0, (.var 0))]
theorem k1i0_h4_a : lookE k1i0_h4 0 = (.var 0) ∧ lookE k1i0_h4 1 = zK10 ∧ lookE k1i0_h4 2 = (.var 2) ∧ lookE k1i0_h4 3 = (.un .len txK11) ∧ lookE k1i0_h4 4 = txK11 ∧ lookE k1i0_h4 7 = (.un .len txK11) ∧ lookE k1i0_h4 8 = txK11 ∧ lookE k1i0_h4 9 = zK11 ∧ lookE k1i0_h4 10 = (.var 10) := ⟨rfl, rfl, rfl, rfl, rfl, rfl, rfl, rfl, rfl⟩
theorem k1i0_y4 : nextJ (k1 0) (k1 1) k1i0_h4 [(13, 27), (5, 5), (3, 3), (7, 29), (1, 1)] (roundC Try.prog [] [] [(64, .lib (.clone)), (35, .lib (.keys 58 9))] 3000 40 5 [4, 1, 0, 1, 1, 1, 1, 1, 1, 1, 1] (tellA k1i0_t4) (k1 0)) = some k1i0_d4 := by kernel_rfl
def k1i0_t5 : List (Q × Bool) := [asK15, asK115, asK116, asK121, asK122, asK123, asK124, asK127, asK128, asK131, asK132, asK18, asK129, asK120]
def k1i0_d5 : List Duty := [(true, txK127, txK120), (true, txK127, txK120), (true, txK128, txK119), (true, txK128, txK119), (true, txK127, txK120), (false, (.fn 44 zK117), (.fn 44 zK13)), (true, txK128, txK119), (false, (.fn 46 zK117), (.fn 46 zK13))]
def k1i0_h5 : List (Nat × E) := [(8, txK11), (4, txK11), (7, (.un .len txK11)), (9, zK11), (10, zK14), (1, zK10), (3, (.un .len txK11)), (2, (.var 2)), (0, (.var 0))]
theorem k1i0_h5_a : lookE k1i0_h5 0 = (.var 0) ∧ lookE k1i0_h5 1 = zK10 ∧ lookE k1i0_h5 2 = (.var 2) ∧ lookE k1i0_h5 3 = (.un .len txK11) ∧ lookE k1i0_h5 4 = txK11 ∧ lookE k1i0_h5 7 = (.un .len txK11) ∧ lookE k1i0_h5 8 = txK11 ∧ lookE k1i0_h5 9 = zK11 ∧ lookE k1i0_h5 10 = zK14 := ⟨rfl, rfl, rfl, rfl, rfl, rfl, rfl, rfl, rfl⟩
theorem k1i0_y5 : nextJ (k1 0) (k1 1) k1i0_h5 [(13, 27), (5, 5), (3, 3), (7, 29), (1, 1)] (roundC Try.prog [] [] [(64, .lib (.clone)), (35, .lib (.keys 58 9))] 3000 40 5 [4, 1, 0, 1, 1, 1, 1, 1, 1, 1, 1] (tellA k1i0_t5) (k1 0)) = some k1i0_d5 := by kernel_rfl
def k1i1_t0 : List (Q × Bool) := [asK15, asK114]
def k1i1_d0 : List Duty := [(true, (.var 3), txK117), (true, (.var 3), txK117), (true, (.var 7), txK116), (true, (.var 7), txK116), (true, (.var 3), txK117), (false, (.var 4), (.fn 44 zK12)), (true, (.var 7), txK116), (false, (.var 8), (.fn 46 zK12))]
theorem k1i1_y0 : endD (k1 1) [(13, 13), (7, 7), (1, 1), (3, 3), (5, 5)] 1000 (roundC Try.prog [] [] [(64, .lib (.clone)), (35, .lib (.keys 58 9))] 3000 40 5 [4, 1, 0, 1, 1, 1, 1, 1, 1, 1, 1] (tellA k1i1_t0) (k1 1)) = some k1i1_d0 := by kernel_rfl
def k1i1_t1 : List (Q × Bool) := [asK15, asK115, asK116, asK117, asK118, asK18, asK119, asK120]
def k1i1_d1 : List Duty := [(true, txK122, txK117), (true, txK122, txK117), (true, txK123, txK116), (true, txK123, txK116), (true, txK122, txK117), zK118, (true, txK123, txK116), zK119]
def k1i1_h1 : List (Nat × E) := [(8, (.var 8)), (4, (.var 4)), (7, (.var 7)), (9, (.var 9)), (10, (.var 10)), (1, zK10), (3, (.var 3)), (2, (.var 2)), (0, (.var 0))]
theorem k1i1_h1_a : lookE k1i1_h1 0 = (.var 0) ∧ lookE k1i1_h1 1 = zK10 ∧ lookE k1i1_h1 2 = (.var 2) ∧ lookE k1i1_h1 3 = (.var 3) ∧ lookE k1i1_h1 4 = (.var 4) ∧ lookE k1i1_h1 7 = (.var 7) ∧ lookE k1i1_h1 8 = (.var 8) ∧ lookE k1i1_h1 9 = (.var 9) ∧ lookE k1i1_h1 10 = (.var 10) := ⟨rfl, rfl, rfl, rfl, rfl, rfl, rfl, rfl, rfl⟩
theorem k1i1_y1 : nextJ (k1 1) (k1 2) k1i1_h1 [(13, 13), (5, 5), (3, 3), (7, 7), (1, 1)] (roundC Try.prog [] [] [(64, .lib (.clone)), (35, .lib (.keys 58 9))] 3000 40 5 [4, 1, 0, 1, 1, 1, 1, 1, 1, 1, 1] (tellA k1i1_t1) (k1 1)) = some k1i1_d1 := by kernel_rfl
abbrev asK133 : Q × Bool := ((.fit .i64 (.var 7)), true)
abbrev asK134 : Q × Bool := ((.le (.int 0) (.var 7)), true)
abbrev asK135 : Q × Bool := ((.fit .i64 (.bi .sub (.int 3000) (.var 7))), true)
abbrev asK136 : Q × Bool := ((.le (.un .len txK11) (.bi .sub (.int 3000) (.var 7))), true)
def k1i1_t2 : List (Q × Bool) := [asK15, asK115, asK116, asK121, asK122, asK133, asK134, asK135, asK136, asK118, asK18, asK119, asK120]
def k1i1_d2 : List Duty := [(true, txK122, txK117), (true, txK122, txK117), (true, txK123, txK116), (true, txK123, txK116), (true, txK122, txK117), zK118, (true, txK123, txK116), zK119]
def k1i1_h2 : List (Nat × E) := [(8, (.var 8)), (4, (.var 4)), (7, (.var 7)), (9, (.var 9)), (10, (.var 10)), (1, zK10), (3, (.var 3)), (2, (.var 2)), (0, (.var 0))]
theorem k1i1_h2_a : lookE k1i1_h2 0 = (.var 0) ∧ lookE k1i1_h2 1 = zK10 ∧ lookE k1i1_h2 2 = (.var 2) ∧ lookE k1i1_h2 3 = (.var 3) ∧ lookE k1i1_h2 4 = (.var 4) ∧ lookE k1i1_h2 7 = (.var 7) ∧ lookE k1i1_h2 8 = (.var 8) ∧ lookE k1i1_h2 9 = (.var 9) ∧ lookE k1i1_h2 10 = (.var 10) := ⟨rfl, rfl, rfl, rfl, rfl, rfl, rfl, rfl, rfl⟩
theorem k1i1_y2 : nextJ (k1 1) (k1 2) k1i1_h2 [(13, 13), (5, 5), (3, 3), (7, 7), (1, 1)] (roundC Try.prog [] [] [(64, .lib (.clone)), (35, .lib (.keys 58 9))] 3000 40 5 [4, 1, 0, 1, 1, 1, 1, 1, 1, 1, 1] (tellA k1i1_t2) (k1 1)) = some k1i1_d2 := by kernel_rfl
abbrev asK137 : Q × Bool := ((.le (.bi .mul zK16 (.int 2)) (.int 281474976710656)), true)
abbrev asK138 : Q × Bool := ((.le (.int 1) (.var 7)), true)
abbrev asK139 : Q × Bool := ((.le (.bi .mul zK17 (.int 2)) (.int 281474976710656)), true)
def k1i1_t3 : List (Q × Bool) := [asK15, asK115, asK116, asK121, asK122, asK133, asK134, asK135, asK136, asK124, asK125, asK137, asK138, asK126, asK139, asK120]
def k1i1_d3 : List Duty := [(true, txK129, txK117), (true, txK129, txK117), (true, txK130, txK116), (true, txK130, txK116), (true, txK129, txK117), zK120, (true, txK130, txK116), zK121]
def k1i1_h3 : List (Nat × E) := [(8, (.bi .app (.var 8) txK11)), (4, (.bi .app (.var 4) txK11)), (7, zK16), (9, zK11), (10, (.var 10)), (1, zK10), (3, zK17), (2, (.var 2)), (0, (.var 0))]
theorem k1i1_h3_a : lookE k1i1_h3 0 = (.var 0) ∧ lookE k1i1_h3 1 = zK10 ∧ lookE k1i1_h3 2 = (.var 2) ∧ lookE k1i1_h3 3 = zK17 ∧ lookE k1i1_h3 4 = (.bi .app (.var 4) txK11) ∧ lookE k1i1_h3 7 = zK16 ∧ lookE k1i1_h3 8 = (.bi .app (.var 8) txK11) ∧ lookE k1i1_h3 9 = zK11 ∧ lookE k1i1_h3 10 = (.var 10) := ⟨rfl, rfl, rfl, rfl, rfl, rfl, rfl, rfl, rfl⟩
theorem k1i1_y3 : nextJ (k1 1) (k1 1) k1i1_h3 [(13, 27), (5, 5), (3, 3), (7, 29), (1, 1)] (roundC Try.prog [] [] [(64, .lib (.clone)), (35, .lib (.keys 58 9))] 3000 40 5 [4, 1, 0, 1, 1, 1, 1, 1, 1, 1, 1] (tellA k1i1_t3) (k1 1)) = some k1i1_d3 := by kernel_rfl
def k1i1_t4 : List (Q × Bool) := [asK15, asK115, asK116, asK121, asK122, asK133, asK134, asK135, asK136, asK124, asK127, asK128, asK137, asK138, asK18, asK129, asK139, asK120]
def k1i1_d4 : List Duty := [(true, txK129, txK117), (true, txK129, txK117), (true, txK130, txK116), (true, txK130, txK116), (true, txK129, txK117), zK120, (true, txK130, txK116), zK121]
def k1i1_h4 : List (Nat × E) := [(8, (.bi .app (.var 8) txK11)), (4, (.bi .app (.var 4) txK11)), (7, zK16), (9, zK11), (10, zK14), (1, zK10), (3, zK17), (2, (.var 2)), (0, (.var 0))]
theorem k1i1_h4_a : lookE k1i1_h4 0 = (.var 0) ∧ lookE k1i1_h4 1 = zK10 ∧ lookE k1i1_h4 2 = (.var 2) ∧ lookE k1i1_h4 3 = zK17 ∧ lookE k1i1_h4 4 = (.bi .app (.var 4) txK11) ∧ lookE k1i1_h4 7 = zK16 ∧ lookE k1i1_h4 8 = (.bi .app (.var 8) txK11) ∧ lookE k1i1_h4 9 = zK11 ∧ lookE k1i1_h4 10 = zK14 := ⟨rfl, rfl, rfl, rfl, rfl, rfl, rfl, rfl, rfl⟩
theorem k1i1_y4 : nextJ (k1 1) (k1 1) k1i1_h4 [(13, 27), (5, 5), (3, 3), (7, 29), (1, 1)] (roundC Try.prog [] [] [(64, .lib (.clone)), (35, .lib (.keys 58 9))] 3000 40 5 [4, 1, 0, 1, 1, 1, 1, 1, 1, 1, 1] (tellA k1i1_t4) (k1 1)) = some k1i1_d4 := by kernel_rfl
def k1i1_t5 : List (Q × Bool) := [asK15, asK115, asK116, asK121, asK122, asK133, asK134, asK135, asK136, asK124, asK125, asK137, asK138, asK126, asK139, asK120]
def k1i1_d5 : List Duty := [(true, txK129, txK117), (true, txK129, txK117), (true, txK130, txK116), (true, txK130, txK116), (true, txK129, txK117), zK120, (true, txK130, txK116), zK121]
def k1i1_h5 : List (Nat × E) := [(8, (.bi .app (.var 8) txK11)), (4, (.bi .app (.var 4) txK11)), (7, zK16), (9, zK11), (10, (.var 10)), (1, zK10), (3, zK17), (2, (.var 2)), (0, (.var 0))]
theorem k1i1_h5_a : lookE k1i1_h5 0 = (.var 0) ∧ lookE k1i1_h5 1 = zK10 ∧ lookE k1i1_h5 2 = (.var 2) ∧ lookE k1i1_h5 3 = zK17 ∧ lookE k1i1_h5 4 = (.bi .app (.var 4) txK11) ∧ lookE k1i1_h5 7 = zK16 ∧ lookE k1i1_h5 8 = (.bi .app (.var 8) txK11) ∧ lookE k1i1_h5 9 = zK11 ∧ lookE k1i1_h5 10 = (.var 10) := ⟨rfl, rfl, rfl, rfl, rfl, rfl, rfl, rfl, rfl⟩
theorem k1i1_y5 : nextJ (k1 1) (k1 1) k1i1_h5 [(13, 27), (5, 5), (3, 3), (7, 29), (1, 1)] (roundC Try.prog [] [] [(64, .lib (.clone)), (35, .lib (.keys 58 9))] 3000 40 5 [4, 1, 0, 1, 1, 1, 1, 1, 1, 1, 1] (tellA k1i1_t5) (k1 1)) = some k1i1_d5 := by kernel_rfl
def k1i1_t6 : List (Q × Bool) := [asK15, asK115, asK116, asK121, asK122, asK133, asK134, asK135, asK136, asK124, asK127, asK128, asK137, asK138, asK18, asK129, asK139, asK120]
def k1i1_d6 : List Duty := [(true, txK129, txK117), (true, txK129, txK117), (true, txK130, txK116), (true, txK130, txK116), (true, txK129, txK117), zK120, (true, txK130, txK116), zK121]
def k1i1_h6 : List (Nat × E) := [(8, (.bi .app (.var 8) txK11)), (4, (.bi .app (.var 4) txK11)), (7, zK16), (9, zK11), (10, zK14), (1, zK10), (3, zK17), (2, (.var 2)), (0, (.var 0))]
theorem k1i1_h6_a : lookE k1i1_h6 0 = (.var 0) ∧ lookE k1i1_h6 1 = zK10 ∧ lookE k1i1_h6 2 = (.var 2) ∧ lookE k1i1_h6 3 = zK17 ∧ lookE k1i1_h6 4 = (.bi .app (.var 4) txK11) ∧ lookE k1i1_h6 7 = zK16 ∧ lookE k1i1_h6 8 = (.bi .app (.var 8) txK11) ∧ lookE k1i1_h6 9 = zK11 ∧ lookE k1i1_h6 10 = zK14 := ⟨rfl, rfl, rfl, rfl, rfl, rfl, rfl, rfl, rfl⟩
theorem k1i1_y6 : nextJ (k1 1) (k1 1) k1i1_h6 [(13, 27), (5, 5), (3, 3), (7, 29), (1, 1)] (roundC Try.prog [] [] [(64, .lib (.clone)), (35, .lib (.keys 58 9))] 3000 40 5 [4, 1, 0, 1, 1, 1, 1, 1, 1, 1, 1] (tellA k1i1_t6) (k1 1)) = some k1i1_d6 := by kernel_rfl
def k1o1_t0 : List (Q × Bool) := [asK15, asK114]
def k1o1_d0 : List Duty := [(true, (.var 3), txK117), (true, (.var 3), txK117), (true, (.var 7), txK116), (true, (.var 7), txK116), (true, (.var 3), txK117), (false, (.var 4), (.fn 44 zK12)), (true, (.var 7), txK116), (false, (.var 8), (.fn 46 zK12))]
theorem k1o1_y0 : endD (k1 2) [(13, 13), (7, 7), (1, 1), (3, 3), (5, 5)] 1000 (roundC Try.prog [] [] [(64, .lib (.clone)), (35, .lib (.keys 58 9))] 3000 40 5 [4, 1, 0, 1, 1, 1, 1, 1, 1, 1, 1] (tellA k1o1_t0) (k1 2)) = some k1o1_d0 := by kernel_rfl
def k1o1_t1 : List (Q × Bool) := [asK15, asK115, asK116, asK117, asK18, asK119, asK120]
def k1o1_d1 : List Duty := [(true, txK122, txK117), (true, txK122, txK117), (true, txK123, txK116), (true, txK123, txK116), (true, txK122, txK117), zK118, (true, txK123, txK116), zK119]
def k1o1_h1 : List (Nat × E) := [(8, (.var 8)), (4, (.var 4)), (7, (.var 7)), (9, (.var 9)), (10, (.var 10)), (1, zK10), (3, (.var 3)), (2, (.var 2)), (0, (.var 0))]
theorem k1o1_h1_a : lookE k1o1_h1 0 = (.var 0) ∧ lookE k1o1_h1 1 = zK10 ∧ lookE k1o1_h1 2 = (.var 2) ∧ lookE k1o1_h1 3 = (.var 3) ∧ lookE k1o1_h1 4 = (.var 4) ∧ lookE k1o1_h1 7 = (.var 7) ∧ lookE k1o1_h1 8 = (.var 8) ∧ lookE k1o1_h1 9 = (.var 9) ∧ lookE k1o1_h1 10 = (.var 10) := ⟨rfl, rfl, rfl, rfl, rfl, rfl, rfl, rfl, rfl⟩
theorem k1o1_y1 : nextJ (k1 2) (k1 2) k1o1_h1 [(13, 13), (5, 5), (3, 3), (7, 7), (1, 1)] (roundC Try.prog [] [] [(64, .lib (.clone)), (35, .lib (.keys 58 9))] 3000 40 5 [4, 1, 0, 1, 1, 1, 1, 1, 1, 1, 1] (tellA k1o1_t1) (k1 2)) = some k1o1_d1 := by kernel_rfl
def k1o1_t2 : List (Q × Bool) := [asK15, asK115, asK116, asK121, asK18, asK119, asK120]
def k1o1_d2 : List Duty := [(true, txK122, txK117), (true, txK122, txK117), (true, txK123, txK116), (true, txK123, txK116), (true, txK122, txK117), zK118, (true, txK123, txK116), zK119]
def k1o1_h2 : List (Nat × E) := [(8, (.var 8)), (4, (.var 4)), (7, (.var 7)), (9, (.var 9)), (10, (.var 10)), (1, zK10), (3, (.var 3)), (2, (.var 2)), (0, (.var 0))]
theorem k1o1_h2_a : lookE k1o1_h2 0 = (.var 0) ∧ lookE k1o1_h2 1 = zK10 ∧ lookE k1o1_h2 2 = (.var 2) ∧ lookE k1o1_h2 3 = (.var 3) ∧ lookE k1o1_h2 4 = (.var 4) ∧ lookE k1o1_h2 7 = (.var 7) ∧ lookE k1o1_h2 8 = (.var 8) ∧ lookE k1o1_h2 9 = (.var 9) ∧ lookE k1o1_h2 10 = (.var 10) := ⟨rfl, rfl, rfl, rfl, rfl, rfl, rfl, rfl, rfl⟩
theorem k1o1_y2 : nextJ (k1 2) (k1 2) k1o1_h2 [(13, 13), (5, 5), (3, 3), (7, 7), (1, 1)] (roundC Try.prog [] [] [(64, .lib (.clone)), (35, .lib (.keys 58 9))] 3000 40 5 [4, 1, 0, 1, 1, 1, 1, 1, 1, 1, 1] (tellA k1o1_t2) (k1 2)) = some k1o1_d2 := by kernel_rfl
set_option maxHeartbeats 16000000 in
theorem k1_holds : ∀ i, i < 3 → LHolds Try.prog (loopAt Try.prog 5 [4, 1, 0, 1, 1, 1, 1, 1, 1, 1, 1]) (k1 i) F := by
 refine loop_famC sound (tableNil _ _) (specsNil _ _) (oversLib cloneL_holds (oversLib keysL0_holds (oversNil _ _))) (fuel := 3000) (depth := 40) (by kernel_rfl) (fun i d => match i with | 0 => ((d 0).toList.length - (d 1).toInt).toNat | 1 => ((d 0).toList.length - (d 1).toInt).toNat | _ => ((d 0).toList.length - (d 1).toInt).toNat) ?_
 intro i hi d hp hR hA
 match i, hi with
 | 0, _ =>
   have hp := allTold'_iff.2 hp
   simp only [k1, k1i0, tl] at hp hR hA
   simp only [gk, tl] at hp
   obtain ⟨p1, p2, p3, p4, i1, i2, e1, e2⟩ := hp
   have g0 : (d 0).ints.length = (d 0).toList.length := (len_ints _).symm
   by_cases h : ((d 0).toList.length : Int) ≤ (d 1).toInt
   ·have he := goK_end (f := (d 2).toInt) h ([], [])
    simp only [he] at e1 e2
    (exfalso; (try simp only [D.ints_ofInts, List.length_nil, List.length_append] at *); omega)
   ·have hl := lenP_step (l := (d 0).toList) (i := (d 1).toInt.toNat) (by omega) (by omega)
    have hn := lenP_nn (((d 0).toList.take 61).drop ((d 1).toInt.toNat + 1))
    have hi : ((d 1).toInt + 1).toNat = (d 1).toInt.toNat + 1 := by omega
    have hst := goK_step (f := (d 2).toInt) (l := (d 0).toList) (i := (d 1).toInt) p1 (by omega)
    simp only [hi] at hst
    generalize hX : (d 0).toList[(d 1).toInt.toNat]?.getD (D.int 0) = X at *
    generalize hB : bytP X = B at *
    generalize hN : X.ints[1]?.getD 0 = N at *
    unfold bytP at hB
    have g1 : B.ints.length = B.toList.length := (len_ints _).symm
    have hsy : synP X = decide (N ≠ 0) := by unfold synP; rw [hN]
    by_cases ho : (d 2).toInt = (d 1).toInt
    ·have hq := goK_out (f := (d 2).toInt) (i := (d 1).toInt) (by omega) (by omega) ((d 0).toList.drop (d 1).toInt.toNat) ([], [])
     simp only [hq] at e1 e2
     (exfalso; (try simp only [D.ints_ofInts, List.length_nil, List.length_append] at *); omega)
    ·by_cases hu : (d 2).toInt < 0
     ·have hs := hst (.inl hu) ([], [])
      rw [hsy] at hs
      by_cases hz : N = 0
      ·by_cases hb : B.toList.length = 0
       ·have hb0 : B.ints = [] := List.eq_nil_of_length_eq_zero (by omega)
        simp only [hz, hb0, ne_eq, not_true_eq_false, decide_false, Bool.false_eq_true, if_false, List.nil_append, List.append_nil] at hs
        simp only [hs] at e1 e2
        refine ⟨tellA k1i0_t2, tellA_ok (allTold'_iff.1 ?_), .inr ⟨0, k1i0_h2, _, _, by decide, k1i0_y2, dutiesTold_ok ?_, allTold'_iff.1 ?_, ?_⟩⟩
        all_goals (try simp only [k1i0_t2, k1i0_d2, k1, k1i0, k1i1, k1o1, k1i0_h2_a, gk, hX, hN, hB, hi, hs, hb0, tl])
        all_goals (first | exact True.intro | omega | (and_intros <;> first | exact True.intro | omega | (rfl; done) | assumption | (rw [ap3, List.append_assoc]; done) | (rw [ap3, hb0, List.append_nil]; done) | (simp only [List.length_append] at *; omega)))
       ·simp only [hz, ne_eq, not_true_eq_false, decide_false, Bool.false_eq_true, if_false, List.nil_append, List.append_nil] at hs
        simp only [hs] at e1 e2
        refine ⟨tellA k1i0_t4, tellA_ok (allTold'_iff.1 ?_), .inr ⟨1, k1i0_h4, _, _, by decide, k1i0_y4, dutiesTold_ok ?_, allTold'_iff.1 ?_, ?_⟩⟩
        all_goals (try simp only [k1i0_t4, k1i0_d4, k1, k1i0, k1i1, k1o1, k1i0_h4_a, gk, hX, hN, hB, hi, hs, tl])
        all_goals (first | exact True.intro | omega | (and_intros <;> first | exact True.intro | omega | (rfl; done) | assumption | (rw [ap3, List.append_assoc]; done) | (rw [ap3, hb0, List.append_nil]; done) | (simp only [List.length_append] at *; omega)))
      ·simp only [ne_eq, hz, not_false_eq_true, decide_true, if_true, List.nil_append, List.append_nil] at hs
       simp only [hs] at e1 e2
       refine ⟨tellA k1i0_t0, tellA_ok (allTold'_iff.1 ?_), .inr ⟨0, k1i0_h0, _, _, by decide, k1i0_y0, dutiesTold_ok ?_, allTold'_iff.1 ?_, ?_⟩⟩
       all_goals (try simp only [k1i0_t0, k1i0_d0, k1, k1i0, k1i1, k1o1, k1i0_h0_a, gk, hX, hN, hB, hi, hs, tl])
       all_goals (first | exact True.intro | omega | (and_intros <;> first | exact True.intro | omega | (rfl; done) | assumption | (rw [ap3, List.append_assoc]; done) | (rw [ap3, hb0, List.append_nil]; done) | (simp only [List.length_append] at *; omega)))
     ·have hf : (d 1).toInt < (d 2).toInt := by omega
      have hs := hst (.inr hf) ([], [])
      rw [hsy] at hs
      by_cases hz : N = 0
      ·by_cases hb : B.toList.length = 0
       ·have hb0 : B.ints = [] := List.eq_nil_of_length_eq_zero (by omega)
        simp only [hz, hb0, ne_eq, not_true_eq_false, decide_false, Bool.false_eq_true, if_false, List.nil_append, List.append_nil] at hs
        simp only [hs] at e1 e2
        refine ⟨tellA k1i0_t3, tellA_ok (allTold'_iff.1 ?_), .inr ⟨0, k1i0_h3, _, _, by decide, k1i0_y3, dutiesTold_ok ?_, allTold'_iff.1 ?_, ?_⟩⟩
        all_goals (try simp only [k1i0_t3, k1i0_d3, k1, k1i0, k1i1, k1o1, k1i0_h3_a, gk, hX, hN, hB, hi, hs, hb0, tl])
        all_goals (first | exact True.intro | omega | (and_intros <;> first | exact True.intro | omega | (rfl; done) | assumption | (rw [ap3, List.append_assoc]; done) | (rw [ap3, hb0, List.append_nil]; done) | (simp only [List.length_append] at *; omega)))
       ·simp only [hz, ne_eq, not_true_eq_false, decide_false, Bool.false_eq_true, if_false, List.nil_append, List.append_nil] at hs
        simp only [hs] at e1 e2
        refine ⟨tellA k1i0_t5, tellA_ok (allTold'_iff.1 ?_), .inr ⟨1, k1i0_h5, _, _, by decide, k1i0_y5, dutiesTold_ok ?_, allTold'_iff.1 ?_, ?_⟩⟩
        all_goals (try simp only [k1i0_t5, k1i0_d5, k1, k1i0, k1i1, k1o1, k1i0_h5_a, gk, hX, hN, hB, hi, hs, tl])
        all_goals (first | exact True.intro | omega | (and_intros <;> first | exact True.intro | omega | (rfl; done) | assumption | (rw [ap3, List.append_assoc]; done) | (rw [ap3, hb0, List.append_nil]; done) | (simp only [List.length_append] at *; omega)))
      ·simp only [ne_eq, hz, not_false_eq_true, decide_true, if_true, List.nil_append, List.append_nil] at hs
       simp only [hs] at e1 e2
       refine ⟨tellA k1i0_t1, tellA_ok (allTold'_iff.1 ?_), .inr ⟨0, k1i0_h1, _, _, by decide, k1i0_y1, dutiesTold_ok ?_, allTold'_iff.1 ?_, ?_⟩⟩
       all_goals (try simp only [k1i0_t1, k1i0_d1, k1, k1i0, k1i1, k1o1, k1i0_h1_a, gk, hX, hN, hB, hi, hs, tl])
       all_goals (first | exact True.intro | omega | (and_intros <;> first | exact True.intro | omega | (rfl; done) | assumption | (rw [ap3, List.append_assoc]; done) | (rw [ap3, hb0, List.append_nil]; done) | (simp only [List.length_append] at *; omega)))
 | 1, _ =>
   have hp := allTold'_iff.2 hp
   simp only [k1, k1i1, tl] at hp hR hA
   simp only [gk, tl] at hp
   obtain ⟨p1, p2, p3, p4, i1, i2, u1, u2, a1, a2, e1, e2⟩ := hp
   have g0 : (d 0).ints.length = (d 0).toList.length := (len_ints _).symm
   have g8 : (d 8).ints.length = (d 8).toList.length := (len_ints _).symm
   by_cases h : ((d 0).toList.length : Int) ≤ (d 1).toInt
   ·have he := goK_end (f := (d 2).toInt) h ([], (d 8).ints)
    simp only [he] at e1 e2
    refine ⟨tellA k1i1_t0, tellA_ok (allTold'_iff.1 ?_), .inl ⟨_, _, _, k1i1_y0, dutiesTold_ok ?_⟩⟩
    all_goals (try simp only [k1i1_t0, k1i1_d0, gk, he, a2, tl])
    all_goals (first | exact True.intro | omega | (and_intros <;> first | exact True.intro | omega | (rfl; done) | assumption | (rw [ap3, List.append_assoc]; done) | (rw [ap3, hb0, List.append_nil]; done) | (simp only [List.length_append] at *; omega)))
   ·have hl := lenP_step (l := (d 0).toList) (i := (d 1).toInt.toNat) (by omega) (by omega)
    have hn := lenP_nn (((d 0).toList.take 61).drop ((d 1).toInt.toNat + 1))
    have hi : ((d 1).toInt + 1).toNat = (d 1).toInt.toNat + 1 := by omega
    have hst := goK_step (f := (d 2).toInt) (l := (d 0).toList) (i := (d 1).toInt) p1 (by omega)
    simp only [hi] at hst
    generalize hX : (d 0).toList[(d 1).toInt.toNat]?.getD (D.int 0) = X at *
    generalize hB : bytP X = B at *
    generalize hN : X.ints[1]?.getD 0 = N at *
    unfold bytP at hB
    have g1 : B.ints.length = B.toList.length := (len_ints _).symm
    have hsy : synP X = decide (N ≠ 0) := by unfold synP; rw [hN]
    by_cases ho : (d 2).toInt = (d 1).toInt
    ·have hq := goK_out (f := (d 2).toInt) (i := (d 1).toInt) (by omega) (by omega) ((d 0).toList.drop (d 1).toInt.toNat) ([], (d 8).ints)
     simp only [hq] at e1 e2
     have hq2 := goK_out (f := (d 2).toInt) (i := (d 1).toInt + 1) (by omega) (by omega) ((d 0).toList.drop ((d 1).toInt + 1).toNat) ([], (d 8).ints)
     rw [hi] at hq2
     by_cases hs : N = 0
     ·refine ⟨tellA k1i1_t2, tellA_ok (allTold'_iff.1 ?_), .inr ⟨2, k1i1_h2, _, _, by decide, k1i1_y2, dutiesTold_ok ?_, allTold'_iff.1 ?_, ?_⟩⟩
      all_goals (try simp only [k1i1_t2, k1i1_d2, k1, k1i0, k1i1, k1o1, k1i1_h2_a, gk, hX, hN, hB, hi, hq, hq2, a2, tl])
      all_goals (first | exact True.intro | omega | (and_intros <;> first | exact True.intro | omega | (rfl; done) | assumption | (rw [ap3, List.append_assoc]; done) | (rw [ap3, hb0, List.append_nil]; done) | (simp only [List.length_append] at *; omega)))
     ·refine ⟨tellA k1i1_t1, tellA_ok (allTold'_iff.1 ?_), .inr ⟨2, k1i1_h1, _, _, by decide, k1i1_y1, dutiesTold_ok ?_, allTold'_iff.1 ?_, ?_⟩⟩
      all_goals (try simp only [k1i1_t1, k1i1_d1, k1, k1i0, k1i1, k1o1, k1i1_h1_a, gk, hX, hN, hB, hi, hq, hq2, a2, tl])
      all_goals (first | exact True.intro | omega | (and_intros <;> first | exact True.intro | omega | (rfl; done) | assumption | (rw [ap3, List.append_assoc]; done) | (rw [ap3, hb0, List.append_nil]; done) | (simp only [List.length_append] at *; omega)))
    ·by_cases hu : (d 2).toInt < 0
     ·have hs := hst (.inl hu) ([], (d 8).ints)
      rw [hsy] at hs
      by_cases hz : N = 0
      ·by_cases hb : B.toList.length = 0
       ·have hb0 : B.ints = [] := List.eq_nil_of_length_eq_zero (by omega)
        simp only [hz, hb0, ne_eq, not_true_eq_false, decide_false, Bool.false_eq_true, if_false, List.nil_append, List.append_nil] at hs
        simp only [hs] at e1 e2
        refine ⟨tellA k1i1_t3, tellA_ok (allTold'_iff.1 ?_), .inr ⟨1, k1i1_h3, _, _, by decide, k1i1_y3, dutiesTold_ok ?_, allTold'_iff.1 ?_, ?_⟩⟩
        all_goals (try simp only [k1i1_t3, k1i1_d3, k1, k1i0, k1i1, k1o1, k1i1_h3_a, gk, hX, hN, hB, hi, hs, hb0, a2, tl])
        all_goals (first | exact True.intro | omega | (and_intros <;> first | exact True.intro | omega | (rfl; done) | assumption | (rw [ap3, List.append_assoc]; done) | (rw [ap3, hb0, List.append_nil]; done) | (simp only [List.length_append] at *; omega)))
       ·simp only [hz, ne_eq, not_true_eq_false, decide_false, Bool.false_eq_true, if_false, List.nil_append, List.append_nil] at hs
        simp only [hs] at e1 e2
        refine ⟨tellA k1i1_t5, tellA_ok (allTold'_iff.1 ?_), .inr ⟨1, k1i1_h5, _, _, by decide, k1i1_y5, dutiesTold_ok ?_, allTold'_iff.1 ?_, ?_⟩⟩
        all_goals (try simp only [k1i1_t5, k1i1_d5, k1, k1i0, k1i1, k1o1, k1i1_h5_a, gk, hX, hN, hB, hi, hs, a2, tl])
        all_goals (first | exact True.intro | omega | (and_intros <;> first | exact True.intro | omega | (rfl; done) | assumption | (rw [ap3, List.append_assoc]; done) | (rw [ap3, hb0, List.append_nil]; done) | (simp only [List.length_append] at *; omega)))
      ·simp only [ne_eq, hz, not_false_eq_true, decide_true, if_true, List.nil_append, List.append_nil] at hs
       simp only [hs] at e1 e2
       have hk := goK_len (f := (d 2).toInt) ((d 0).toList.drop ((d 1).toInt.toNat + 1)) ((d 1).toInt + 1) ((d 8).ints, [])
       (exfalso; (try simp only [D.ints_ofInts, List.length_nil, List.length_append] at *); omega)
     ·have hf : (d 1).toInt < (d 2).toInt := by omega
      have hs := hst (.inr hf) ([], (d 8).ints)
      rw [hsy] at hs
      by_cases hz : N = 0
      ·by_cases hb : B.toList.length = 0
       ·have hb0 : B.ints = [] := List.eq_nil_of_length_eq_zero (by omega)
        simp only [hz, hb0, ne_eq, not_true_eq_false, decide_false, Bool.false_eq_true, if_false, List.nil_append, List.append_nil] at hs
        simp only [hs] at e1 e2
        refine ⟨tellA k1i1_t4, tellA_ok (allTold'_iff.1 ?_), .inr ⟨1, k1i1_h4, _, _, by decide, k1i1_y4, dutiesTold_ok ?_, allTold'_iff.1 ?_, ?_⟩⟩
        all_goals (try simp only [k1i1_t4, k1i1_d4, k1, k1i0, k1i1, k1o1, k1i1_h4_a, gk, hX, hN, hB, hi, hs, hb0, a2, tl])
        all_goals (first | exact True.intro | omega | (and_intros <;> first | exact True.intro | omega | (rfl; done) | assumption | (rw [ap3, List.append_assoc]; done) | (rw [ap3, hb0, List.append_nil]; done) | (simp only [List.length_append] at *; omega)))
       ·simp only [hz, ne_eq, not_true_eq_false, decide_false, Bool.false_eq_true, if_false, List.nil_append, List.append_nil] at hs
        simp only [hs] at e1 e2
        refine ⟨tellA k1i1_t6, tellA_ok (allTold'_iff.1 ?_), .inr ⟨1, k1i1_h6, _, _, by decide, k1i1_y6, dutiesTold_ok ?_, allTold'_iff.1 ?_, ?_⟩⟩
        all_goals (try simp only [k1i1_t6, k1i1_d6, k1, k1i0, k1i1, k1o1, k1i1_h6_a, gk, hX, hN, hB, hi, hs, a2, tl])
        all_goals (first | exact True.intro | omega | (and_intros <;> first | exact True.intro | omega | (rfl; done) | assumption | (rw [ap3, List.append_assoc]; done) | (rw [ap3, hb0, List.append_nil]; done) | (simp only [List.length_append] at *; omega)))
      ·simp only [ne_eq, hz, not_false_eq_true, decide_true, if_true, List.nil_append, List.append_nil] at hs
       simp only [hs] at e1 e2
       have hk := goK_len (f := (d 2).toInt) ((d 0).toList.drop ((d 1).toInt.toNat + 1)) ((d 1).toInt + 1) ((d 8).ints, [])
       (exfalso; (try simp only [D.ints_ofInts, List.length_nil, List.length_append] at *); omega)
 | 2, _ =>
   have hp := allTold'_iff.2 hp
   simp only [k1, k1o1, tl] at hp hR hA
   simp only [gk, tl] at hp
   obtain ⟨p1, p2, p3, p4, o1, o2, o3, u1, u2, a1, a2, e1, e2⟩ := hp
   have g0 : (d 0).ints.length = (d 0).toList.length := (len_ints _).symm
   have g8 : (d 8).ints.length = (d 8).toList.length := (len_ints _).symm
   by_cases h : ((d 0).toList.length : Int) ≤ (d 1).toInt
   ·have he := goK_end (f := (d 2).toInt) h ([], (d 8).ints)
    simp only [he] at e1 e2
    refine ⟨tellA k1o1_t0, tellA_ok (allTold'_iff.1 ?_), .inl ⟨_, _, _, k1o1_y0, dutiesTold_ok ?_⟩⟩
    all_goals (try simp only [k1o1_t0, k1o1_d0, gk, he, a2, tl])
    all_goals (first | exact True.intro | omega | (and_intros <;> first | exact True.intro | omega | (rfl; done) | assumption | (rw [ap3, List.append_assoc]; done) | (rw [ap3, hb0, List.append_nil]; done) | (simp only [List.length_append] at *; omega)))
   ·have hl := lenP_step (l := (d 0).toList) (i := (d 1).toInt.toNat) (by omega) (by omega)
    have hn := lenP_nn (((d 0).toList.take 61).drop ((d 1).toInt.toNat + 1))
    have hi : ((d 1).toInt + 1).toNat = (d 1).toInt.toNat + 1 := by omega
    have hq := goK_out (i := (d 1).toInt) o1 (by omega) ((d 0).toList.drop (d 1).toInt.toNat) ([], (d 8).ints)
    have hq2 := goK_out (i := (d 1).toInt + 1) o1 (by omega) ((d 0).toList.drop ((d 1).toInt + 1).toNat) ([], (d 8).ints)
    rw [hi] at hq2
    simp only [hq] at e1 e2
    generalize hX : (d 0).toList[(d 1).toInt.toNat]?.getD (D.int 0) = X at *
    generalize hB : bytP X = B at *
    generalize hN : X.ints[1]?.getD 0 = N at *
    unfold bytP at hB
    have g1 : B.ints.length = B.toList.length := (len_ints _).symm
    have hsy : synP X = decide (N ≠ 0) := by unfold synP; rw [hN]
    by_cases hs : N = 0
    ·refine ⟨tellA k1o1_t2, tellA_ok (allTold'_iff.1 ?_), .inr ⟨2, k1o1_h2, _, _, by decide, k1o1_y2, dutiesTold_ok ?_, allTold'_iff.1 ?_, ?_⟩⟩
     all_goals (try simp only [k1o1_t2, k1o1_d2, k1, k1i0, k1i1, k1o1, k1o1_h2_a, gk, hX, hN, hB, hi, hq, hq2, a2, tl])
     all_goals (first | exact True.intro | omega | (and_intros <;> first | exact True.intro | omega | (rfl; done) | assumption | (rw [ap3, List.append_assoc]; done) | (rw [ap3, hb0, List.append_nil]; done) | (simp only [List.length_append] at *; omega)))
    ·refine ⟨tellA k1o1_t1, tellA_ok (allTold'_iff.1 ?_), .inr ⟨2, k1o1_h1, _, _, by decide, k1o1_y1, dutiesTold_ok ?_, allTold'_iff.1 ?_, ?_⟩⟩
     all_goals (try simp only [k1o1_t1, k1o1_d1, k1, k1i0, k1i1, k1o1, k1o1_h1_a, gk, hX, hN, hB, hi, hq, hq2, a2, tl])
     all_goals (first | exact True.intro | omega | (and_intros <;> first | exact True.intro | omega | (rfl; done) | assumption | (rw [ap3, List.append_assoc]; done) | (rw [ap3, hb0, List.append_nil]; done) | (simp only [List.length_append] at *; omega)))
theorem k1i0_holds : LHolds Try.prog (loopAt Try.prog 5 [4, 1, 0, 1, 1, 1, 1, 1, 1, 1, 1]) k1i0 F := k1_holds 0 (by decide)
theorem k1i1_holds : LHolds Try.prog (loopAt Try.prog 5 [4, 1, 0, 1, 1, 1, 1, 1, 1, 1, 1]) k1i1 F := k1_holds 1 (by decide)
theorem k1o1_holds : LHolds Try.prog (loopAt Try.prog 5 [4, 1, 0, 1, 1, 1, 1, 1, 1, 1, 1]) k1o1 F := k1_holds 2 (by decide)

end Go.Proofs.Ytmlocknojpmfpaa.K1
