/-
 Contracts of this seat: what loops and calls leave, for all inputs. No condition.
-/
import Derived.Test.YtidjfojcifjdjaaDoorSycp
import Derived.Test.YtidjfojcifjdjaaDoorCo
import Derived.Test.YtidjfojcifjdjaaDoorP0
import Derived.Test.YtidjfojcifjdjaaDoorPa
import Derived.Test.YtidjfojcifjdjaaDoorPm
import Derived.Test.YtidjfojcifjdjaaDoorPl
import Derived.Test.YtidjfojcifjdjaaDoorPu
import Derived.Test.YtidjfojcifjdjaaDoorPq
import Derived.Test.YtidjfojcifjdjaaDoorPg
import Derived.Test.YtidjfojcifjdjaaDoorPb
import Derived.Test.YtidjfojcifjdjaaDoorPb2
import Derived.Test.YtidjfojcifjdjaaDoorPt2
set_option linter.unusedSimpArgs false
set_option linter.unusedVariables false
namespace Go.Proofs.YtidjfojcifjdjaaDoor.Ph1
open Go.RowKit Go.Ev Go.Proofs.YtidjfojcifjdjaaDoor.Co

open Go.Proofs.YtidjfojcifjdjaaDoor.P0
open Go.Proofs.YtidjfojcifjdjaaDoor.Pa
open Go.Proofs.YtidjfojcifjdjaaDoor.Pm
open Go.Proofs.YtidjfojcifjdjaaDoor.Pl
open Go.Proofs.YtidjfojcifjdjaaDoor.Pn
open Go.Proofs.YtidjfojcifjdjaaDoor.Pt3
open Go.Proofs.YtidjfojcifjdjaaDoor.Pu
open Go.Proofs.YtidjfojcifjdjaaDoor.Puo
open Go.Proofs.YtidjfojcifjdjaaDoor.Pq
open Go.Proofs.YtidjfojcifjdjaaDoor.Pqo
open Go.Proofs.YtidjfojcifjdjaaDoor.Pg
open Go.Proofs.YtidjfojcifjdjaaDoor.Pb
open Go.Proofs.YtidjfojcifjdjaaDoor.Pb2
open Go.Proofs.YtidjfojcifjdjaaDoor.Ps4
open Go.Proofs.YtidjfojcifjdjaaDoor.Pt2
theorem seg_id {l : List Int} (h : l.length = 16) : List.take 16 (segI l (Int.toNat 0) (Int.toNat 16)) = l := ext16 (seg_len l) h fun j hj => seg_at l j hj
theorem body_name {x : List Int} {o l p n : Int} (h0 : 0 ≤ o) (hl : o + l ≤ x.length) (hp : 0 ≤ p) (hn : 1 ≤ n) (hb : p + n + 26 ≤ l) (h : bodyI (prt (prt x o (o + l)) (p + 6) (p + n + 26)) = 1) : idI (prt (prt x (o + (p + 6)) (o + (p + (n + 22)))) 16 (16 + n)) = prt (prt x o (o + l)) (p + 6) (p + 22) := by
 have hi := body_id h
 have hz := prt_length (x := x) (o := o) (t := o + l) h0 (by omega) hl
 have hy := prt_length (x := prt x o (o + l)) (o := p + 6) (t := p + n + 26) (by omega) (by omega) (by omega)
 rw [hy, prt_prt h0 (by omega) (by omega) (by omega)] at hi
 rw [show o + (p + n + 26) = o + (p + 6) + (n + 20) by omega, prt_prt (by omega) (by omega) (by omega) (by omega), prt_prt (by omega) (by omega) (by omega) (by omega)] at hi
 rw [show o + (p + (n + 22)) = o + (p + 6) + (n + 16) by omega, prt_prt (by omega) (by omega) (by omega) (by omega), prt_prt h0 (by omega) (by omega) (by omega)]
 rw [show p + n + 26 - (p + 6) - 4 = 16 + n by omega] at hi
 rw [hi]
 congr 1 <;> omega
theorem scan_whole (x : List Int) : ∀ (f : Nat) (p : Int), 0 ≤ p → p ≤ x.length → (x.length : Int) - p < f → ((scanN f x p).rest = 0 ↔ (scanN f x p).size = x.length)
 | 0, p, h0, h1, h2 => by omega
 | f + 1, p, h0, h1, h2 => by
  have hq := size_in (x.drop p.toNat)
  simp only [scanN]
  split
  ·simp <;> omega
  split
  ·simp <;> omega
  split
  ·simp <;> omega
  split
  ·simp <;> omega
  rename_i c0 c1 c2 c3
  have ih := scan_whole x f (p + sizeI (x.drop p.toNat) + 26) (by omega) (by omega) (by omega)
  split
  ·exact ih
  ·exact ih
theorem rest_in {n : Int} (h : 0 ≤ n ∧ n ≤ 3) (h0 : ¬ n = 0) : 1 ≤ restI n ∧ restI n ≤ 2 := by
 unfold restI
 split <;> omega

abbrev zPh11 : E := (.bi .sel (.var 10) (.var 0))
abbrev txPh10 : E := (.bi .sel zPh11 (.int 1))
abbrev txPh11 : E := (.bi .sel zPh11 (.int 2))
abbrev txPh12 : E := (.bi .sel zPh11 (.int 0))
abbrev txPh13 : E := (.bi .add (.var 4) (.bi .add txPh10 (.int 6)))
abbrev txPh14 : E := (.bi .pair (.int 16) (.bi .pair txPh11 (.int 0)))
abbrev txPh15 : E := (.bi .add txPh10 (.bi .add txPh11 (.int 22)))
abbrev txPh16 : E := (.bi .add txPh10 (.bi .add txPh11 (.int 26)))
abbrev txPh17 : E := (.tr .cut (.var 8) txPh13 (.bi .add (.var 4) txPh15))
abbrev zPh10 : E := (.fn 61 (.bi .pair txPh17 txPh14))
abbrev zPh12 : E := (.bi .add (.var 0) (.int 1))
def honL : LSpec := { n := 115, next := 10, pat := [(0, .sslice 17 (.var 4) (.var 5) (.var 6) false), (4, .vslice 19 18 (.int 0) (.var 9) (.var 9) true), (8, .sint .i64 (.var 1)), (9, .sint .i64 (.var 0))], rows := [(17, .eseq ⟨.u8, .var 7, .var 8⟩), (19, .vseq ⟨35, .agg [.agg [.int .u8, .int .u8, .int .u8, .int .u8, .int .u8, .int .u8, .int .u8, .int .u8, .int .u8, .int .u8, .int .u8, .int .u8, .int .u8, .int .u8, .int .u8, .int .u8], .int .i64, .int .i64], .var 9, .var 10, true⟩), (0, .ext cellsG)], pre := [(.le (.int 0) (.var 0), true), (.le (.var 0) (.var 9), true), (.le (.bi .add (.var 4) (.var 5)) (.var 7), true), (.le (.var 5) (.int 6000), true), (.le (.int 1) (.var 9), true), (.eq (.var 1) (.fn 80 (argsE [.var 10, .var 0])), true), (.same (.un .code (.var 8)) (.un .code (.fn 16 (argsE [.int 56, .var 8]))), true), (.same (.un .code (.var 10)) (.un .code (.fn 65 (argsE [.var 8, .var 4, .var 5, .int 0]))), true)], x := 0, fin := [(0, .sslice 17 (.var 4) (.var 5) (.var 6) false), (8, .sint .i64 (.fn 80 (argsE [.var 10, .var 9])))], frows := [], same := [17, 19], chg := [0, 4, 8, 9, 10, 11, 24, 25, 26, 27, 28, 29, 30, 31, 32, 33, 34, 35, 36, 37, 38, 39, 40, 41, 42, 43, 44, 45, 46, 47, 48, 49, 50, 51, 52, 53, 54, 55, 56, 57, 58, 59, 60, 61, 62, 63, 64, 65, 66, 67, 68, 69, 70, 71, 72, 73, 74, 75, 76, 77, 78, 79, 80, 81] }
abbrev asPh10 : Q × Bool := ((.fit .i64 (.var 9)), true)
abbrev asPh11 : Q × Bool := ((.le (.var 9) (.var 0)), false)
abbrev asPh12 : Q × Bool := ((.le (.int 0) (.var 0)), true)
abbrev asPh13 : Q × Bool := ((.le (.bi .add (.var 4) (.var 5)) (.var 7)), true)
abbrev asPh14 : Q × Bool := ((.le (.var 5) (.int 1000000)), true)
abbrev asPh15 : Q × Bool := ((.eq (.fn 77 (.bi .pair (.var 8) (.bi .pair (.var 4) (.bi .pair (.var 5) (.bi .pair txPh10 (.bi .pair txPh11 (.bi .pair (.tr .seg txPh12 (.int 0) (.int 16)) (.int 0)))))))) (.int 0)), true)
abbrev asPh16 : Q × Bool := ((.fit .i64 txPh11), true)
abbrev asPh17 : Q × Bool := ((.le (.var 1) txPh10), true)
abbrev asPh18 : Q × Bool := ((.le (.bi .add (.int 16) txPh11) (.bi .add txPh11 (.int 16))), true)
abbrev asPh19 : Q × Bool := ((.le (.int 1) txPh11), true)
abbrev asPh110 : Q × Bool := ((.le txPh11 (.int 100000)), true)
abbrev asPh111 : Q × Bool := ((.eq (.bi .sel zPh10 (.int 0)) (.bi .sel txPh12 (.int 0))), true)
abbrev asPh112 : Q × Bool := ((.eq (.bi .sel zPh10 (.int 1)) (.bi .sel txPh12 (.int 1))), true)
abbrev asPh113 : Q × Bool := ((.eq (.bi .sel zPh10 (.int 2)) (.bi .sel txPh12 (.int 2))), true)
abbrev asPh114 : Q × Bool := ((.eq (.bi .sel zPh10 (.int 3)) (.bi .sel txPh12 (.int 3))), true)
abbrev asPh115 : Q × Bool := ((.eq (.bi .sel zPh10 (.int 4)) (.bi .sel txPh12 (.int 4))), true)
abbrev asPh116 : Q × Bool := ((.eq (.bi .sel zPh10 (.int 5)) (.bi .sel txPh12 (.int 5))), true)
abbrev asPh117 : Q × Bool := ((.eq (.bi .sel zPh10 (.int 6)) (.bi .sel txPh12 (.int 6))), true)
abbrev asPh118 : Q × Bool := ((.eq (.bi .sel zPh10 (.int 7)) (.bi .sel txPh12 (.int 7))), true)
abbrev asPh119 : Q × Bool := ((.eq (.bi .sel zPh10 (.int 8)) (.bi .sel txPh12 (.int 8))), true)
abbrev asPh120 : Q × Bool := ((.eq (.bi .sel zPh10 (.int 9)) (.bi .sel txPh12 (.int 9))), true)
abbrev asPh121 : Q × Bool := ((.eq (.bi .sel zPh10 (.int 10)) (.bi .sel txPh12 (.int 10))), true)
abbrev asPh122 : Q × Bool := ((.eq (.bi .sel zPh10 (.int 11)) (.bi .sel txPh12 (.int 11))), true)
abbrev asPh123 : Q × Bool := ((.eq (.bi .sel zPh10 (.int 12)) (.bi .sel txPh12 (.int 12))), true)
abbrev asPh124 : Q × Bool := ((.eq (.bi .sel zPh10 (.int 13)) (.bi .sel txPh12 (.int 13))), true)
abbrev asPh125 : Q × Bool := ((.eq (.bi .sel zPh10 (.int 14)) (.bi .sel txPh12 (.int 14))), true)
abbrev asPh126 : Q × Bool := ((.eq (.bi .sel zPh10 (.int 15)) (.bi .sel txPh12 (.int 15))), true)
abbrev asPh127 : Q × Bool := ((.le txPh11 (.int 1024)), true)
abbrev asPh128 : Q × Bool := ((.fit .i64 (.bi .add txPh11 (.int 22))), true)
abbrev asPh129 : Q × Bool := ((.fit .i64 (.bi .add txPh11 (.int 26))), true)
abbrev asPh130 : Q × Bool := ((.fit .i64 txPh16), true)
abbrev asPh131 : Q × Bool := ((.fit .i64 zPh12), true)
def honL_t0 : List (Q × Bool) := [asPh10, asPh11, asPh12, asPh13, asPh14, asPh15, asPh16, asPh17, asPh18, asPh19, asPh110, asPh111, asPh112, asPh113, asPh114, asPh115, asPh116, asPh117, asPh118, asPh119, asPh120, asPh121, asPh122, asPh123, asPh124, asPh125, asPh126, asPh127, asPh128, asPh129, asPh130, asPh131]
def honL_d0 : List Duty := []
def honL_h0 : List (Nat × E) := [(10, (.var 10)), (7, (.var 7)), (8, (.var 8)), (0, zPh12), (1, txPh16), (9, (.var 9)), (4, (.var 4)), (5, (.var 5)), (6, (.var 6))]
theorem honL_h0_a : lookE honL_h0 0 = zPh12 ∧ lookE honL_h0 1 = txPh16 ∧ lookE honL_h0 4 = (.var 4) ∧ lookE honL_h0 5 = (.var 5) ∧ lookE honL_h0 6 = (.var 6) ∧ lookE honL_h0 7 = (.var 7) ∧ lookE honL_h0 8 = (.var 8) ∧ lookE honL_h0 9 = (.var 9) ∧ lookE honL_h0 10 = (.var 10) := ⟨rfl, rfl, rfl, rfl, rfl, rfl, rfl, rfl, rfl⟩
theorem honL_y0 : nextD honL honL_h0 [(19, 19), (17, 17)] (roundC Tryd.prog [] [(29, idCO), (22, getY)] [] 3000 40 9 [4, 1, 0, 1, 1, 1, 1, 1] (tellA honL_t0) honL) = some honL_d0 := by kernel_rfl
abbrev asPh132 : Q × Bool := ((.le (.var 9) (.var 0)), true)
def honL_t1 : List (Q × Bool) := [asPh10, asPh132]
def honL_d1 : List Duty := [(true, (.var 1), (.fn 80 (.bi .pair (.var 10) (.bi .pair (.var 9) (.int 0)))))]
theorem honL_y1 : endD honL [(19, 19), (17, 17)] 1000 (roundC Tryd.prog [] [(29, idCO), (22, getY)] [] 3000 40 9 [4, 1, 0, 1, 1, 1, 1, 1] (tellA honL_t1) honL) = some honL_d1 := by kernel_rfl
theorem honL_holds : LHolds Tryd.prog (loopAt Tryd.prog 9 [4, 1, 0, 1, 1, 1, 1, 1]) honL F := by
 refine loop_roundsC sound (tableNil _ _) (specsCons idCO_holds (specsCons getY_holds (specsNil _ _))) (oversNil _ _) (fuel := 3000) (depth := 40) (by kernel_rfl) (by kernel_rfl) (by kernel_rfl) (fun d => ((d 9).toInt - (d 0).toInt).toNat) fun d hp hR hA => ?_
 have hp := allTold'_iff.2 hp
 simp only [honL, tl] at hp hR hA
 simp only [argsE, F65, F80, F16, tl] at hp
 obtain ⟨p1, p2, p3, p4, p5, p6, p7, p8⟩ := hp
 try simp only [true_and, and_true] at hR
 obtain ⟨⟨hl, hx⟩, h10, _⟩ := hR
 have hd := D.code_eq p8
 have hz := prt_length (x := (d 8).ints) (o := (d 4).toInt) (t := (d 4).toInt + (d 5).toInt) (by omega) (by omega) (by omega)
 have hc := scan_chain (prt (d 8).ints (d 4).toInt ((d 4).toInt + (d 5).toInt)) ((prt (d 8).ints (d 4).toInt ((d 4).toInt + (d 5).toInt)).length + 1) 0 (by omega)
 have hn : (d 9).toInt = ((scanI (prt (d 8).ints (d 4).toInt ((d 4).toInt + (d 5).toInt)) 0).l.length : Int) := by
  rw [h10, hd, ints_list, List.length_map]
 have hj := scanI_in (x := (d 8).ints) (o := (d 4).toInt) (l := (d 5).toInt) (p := 0) (by omega) (by omega) (by omega) (by omega)
 by_cases h : (d 9).toInt ≤ (d 0).toInt
 ·refine ⟨tellA honL_t1, tellA_ok (allTold'_iff.1 ?_), .inl ⟨_, _, _, honL_y1, dutiesTold_ok ?_⟩⟩
  ·simp only [honL_t1, tl]
   omega
  ·simp only [honL_d1, F80, tl]
   rw [p6]
   show endH (d 10).toList (d 0).toInt = endH (d 10).toList (d 9).toInt
   rw [show (d 0).toInt = (d 9).toInt by omega]
 ·obtain ⟨i, hi⟩ := Int.eq_ofNat_of_zero_le p1
  obtain ⟨p, n, k1, k2, k3, k4, k5, k6, k7, k8, k9⟩ := chain_get (i := i) hc (by unfold scanI at hn; omega)
  have he : (d 10).toList[(d 0).toInt.toNat]?.getD (D.int 0) = D.list [D.ofInts (prt (prt (d 8).ints (d 4).toInt ((d 4).toInt + (d 5).toInt)) (p + 6) (p + 22)), .int p, .int n] := by
   rw [hd, hi, show ((i : Int)).toNat = i by omega]
   show ((scanI _ 0).l[i]?).getD (D.int 0) = _
   unfold scanI
   rw [k1]
   rfl
  have hq := ask_zero k2 k4 (by omega) k7 k8
  have hb := body_id k8
  rw [prt_length (by omega) (by omega) (by omega)] at hb
  have g1 : ∀ a b c : D, [a, b, c][Int.toNat 1]?.getD (D.int 0) = b := fun _ _ _ => rfl
  have g2 : ∀ a b c : D, [a, b, c][Int.toNat 2]?.getD (D.int 0) = c := fun _ _ _ => rfl
  have g0 : ∀ a b c : D, [a, b, c][Int.toNat 0]?.getD (D.int 0) = a := fun _ _ _ => rfl
  have hI := prt_length (x := prt (d 8).ints (d 4).toInt ((d 4).toInt + (d 5).toInt)) (o := p + 6) (t := p + 22) (by omega) (by omega) (by omega)
  have hs := seg_id (l := prt (prt (d 8).ints (d 4).toInt ((d 4).toInt + (d 5).toInt)) (p + 6) (p + 22)) (by omega)
  have hm := body_name (x := (d 8).ints) (o := (d 4).toInt) (l := (d 5).toInt) (p := p) (n := n) (by omega) (by omega) (by omega) (by omega) (by omega) k8
  have hE : (d 1).toInt ≤ p := by
   rw [p6, hi]
   rcases k3 with k3 | k3
   ·rw [hd]; exact k3
   ·subst k3; show endH _ 0 ≤ p; rw [endH_zero]; exact k2
  have hF : p + (n + 26) = endH (d 10).toList ((d 0).toInt + 1) := by
   rw [hd, hi]
   have := endH_succ k1 k4 k5
   show _ = endH (scanI _ 0).l _
   unfold scanI
   rw [this]
   omega
  refine ⟨tellA honL_t0, tellA_ok (allTold'_iff.1 ?_), .inr ⟨honL_h0, _, _, honL_y0, dutiesTold_ok ?_, allTold'_iff.1 ?_, ?_⟩⟩
  ·simp only [honL_t0, he, g0, g1, g2, D.toInt_int, F77, F61, D.ints_ofInts, hs, hq, cutp, hm, tl]
   first | omega | (simp only [and_true, true_and]; omega)
  ·simp only [honL_d0, tl]
  ·simp only [honL, honL_h0_a, argsE, F65, F80, F16, he, g0, g1, g2, D.toInt_int, tl]
   refine ⟨by omega, by omega, by omega, by omega, by omega, hF, p7, p8⟩
  ·simp only [honL_h0_a, tl]
   omega

end Go.Proofs.YtidjfojcifjdjaaDoor.Ph1
