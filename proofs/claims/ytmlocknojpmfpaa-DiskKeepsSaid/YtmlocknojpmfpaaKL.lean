/-
 The law DiskKeeps of the layer disk holds of the code: for all inputs the call returns true, and the arguments read as they did. No condition.
-/
import Derived.Test.YtmlocknojpmfpaaCo
import Derived.Test.YtmlocknojpmfpaaSycp
import Derived.Test.YtmlocknojpmfpaaSyvp
import Derived.Test.YtmlocknojpmfpaaK4
import Derived.Test.YtmlocknojpmfpaaK1
import Derived.Test.YtmlocknojpmfpaaK2
import Derived.Test.YtmlocknojpmfpaaK3
import Derived.WalkKit
import Derived.ProofKit
import Derived.OpenShut
set_option linter.unusedSimpArgs false
set_option linter.unusedVariables false
namespace Go.Proofs.Ytmlocknojpmfpaa.diskKeeps
open Go.ChangeShapes Go.WideShapes Go.ChangeAt Go.RowKit Go.Ev Go.Proofs.Ytmlocknojpmfpaa.Co Go.Proofs.Ytmlocknojpmfpaa.K4 Go.Proofs.Ytmlocknojpmfpaa.K1 Go.Proofs.Ytmlocknojpmfpaa.K2 Go.Proofs.Ytmlocknojpmfpaa.K3

def om (dv0 : D) (n1 : Int) (n2 : Int) : Om := ⟨fun _ => .bool false, fun i => if i = 0 then dv0 else if i = 10 then .int n1 else if i = 20 then .int n2 else .int 0, F⟩
theorem om_0 (dv0 : D) (n1 : Int) (n2 : Int) : (om dv0 n1 n2).d 0 = dv0 := rfl
theorem om_10 (dv0 : D) (n1 : Int) (n2 : Int) : (om dv0 n1 n2).d 10 = .int n1 := rfl
theorem om_20 (dv0 : D) (n1 : Int) (n2 : Int) : (om dv0 n1 n2).d 20 = .int n2 := rfl
theorem om_f (dv0 : D) (n1 : Int) (n2 : Int) : (om dv0 n1 n2).f = F := rfl

theorem gq : type_of% (And.intro @F7 (And.intro @F30 (And.intro @F40 (And.intro @F43 (And.intro @F44 (And.intro @F45 (And.intro @F46 (And.intro @D.ints_ofInts (And.intro @D.toInt_int (And.intro @Int.toNat_zero (And.intro @Int.emod_one (And.intro @List.take_zero.{0} (And.intro @List.drop_zero.{0} (And.intro @Int.zero_add (And.intro @List.nil_append.{0} (@List.append_nil.{0})))))))))))))))) := And.intro @F7 (And.intro @F30 (And.intro @F40 (And.intro @F43 (And.intro @F44 (And.intro @F45 (And.intro @F46 (And.intro @D.ints_ofInts (And.intro @D.toInt_int (And.intro @Int.toNat_zero (And.intro @Int.emod_one (And.intro @List.take_zero.{0} (And.intro @List.drop_zero.{0} (And.intro @Int.zero_add (And.intro @List.nil_append.{0} (@List.append_nil.{0})))))))))))))))
theorem il1 (a : List Int) : (D.list (D.ofInts a).toList).ints = a := by simp [D.ints, D.ofInts, D.toList, Function.comp_def]
theorem il2 (a b : List Int) (n : Nat) : (D.list ((D.ofInts a).toList ++ List.take n (D.ofInts b).toList)).ints = a ++ List.take n b := by
 simp [D.ints, D.ofInts, D.toList, Function.comp_def, ← List.map_take]
theorem il3 (a : List Int) (n : Nat) : (D.list (List.take n (D.ofInts a).toList)).ints = List.take n a := by
 simp [D.ints, D.ofInts, D.toList, Function.comp_def, ← List.map_take]
theorem tk {a b : List Int} {m : Int} (h : 0 ≤ m) : List.take ((a.length : Int) + m).toNat (a ++ b) = a ++ List.take m.toNat b := by
 rw [show ((a.length : Int) + m).toNat = a.length + m.toNat by omega, List.take_length_add_append]
theorem lens_pc {B : Nat} {s t : Sh} {x : D} (h : (Sh.agg [.sl s, t]).lens B x) : (bytP x).toList.length ≤ B := by
 simp only [Sh.lens] at h
 unfold bytP
 cases hx : x.toList with
 | nil => simp [D.toList]
 | cons a r => rw [hx] at h; simp only [Sh.lenses, Sh.lens] at h; simpa using h.1.1
theorem lens_le : ∀ {l : List D} {B : Nat}, (∀ x ∈ l, (bytP x).toList.length ≤ B) → lenP l ≤ (l.length : Int) * (B : Int)
 | [], B, h => by simp [lenP]
 | x :: l, B, h => by
  have h1 := h x (by simp)
  have h2 := lens_le (l := l) (B := B) (fun y hy => h y (by simp [hy]))
  simp only [lenP, List.length_cons]
  rw [show ((l.length + 1 : Nat) : Int) * (B : Int) = (l.length : Int) * B + B by rw [Int.natCast_add, Int.add_mul]; simp]
  omega
theorem lens_max {s t : Sh} {d : D} (h : (Sh.sl (Sh.agg [.sl s, t])).lens 140737488351232 d) : lenP ((d.toList.take 61).drop 0) ≤ 61 * 140737488351232 := by
 unfold Sh.lens at h
 have := lens_le (l := (d.toList.take 61).drop 0) (B := 140737488351232) (fun x hx => lens_pc (h.2 x (List.mem_of_mem_take (List.mem_of_mem_drop hx))))
 have hl : ((d.toList.take 61).drop 0).length ≤ 61 := by simp; omega
 omega
theorem lens_top {s : Sh} {d : D} (h : (Sh.sl s).lens 140737488351232 d) : d.toList.length ≤ 140737488351232 := by
 unfold Sh.lens at h
 exact h.1
theorem goK_max {f : Int} : ∀ (l : List D) (i : Int) (p : List Int × List Int), ((goK f l i p).1.length : Int) + (goK f l i p).2.length ≤ p.1.length + p.2.length + lenP l
 | [], i, p => by simp [goK, lenP]
 | x :: r, i, p => by
  have hn := lenP_nn r
  have hb : ((bytP x).ints.length : Int) = (bytP x).toList.length := by rw [len_ints]
  unfold goK
  simp only [lenP]
  split
  ·omega
  ·have h := goK_max (f := f) r (i + 1) (if synP x then (p.1 ++ p.2, []) else (p.1, p.2 ++ (bytP x).ints))
   by_cases hs : synP x = true
   ·simp only [hs, if_true, List.length_append, List.length_nil] at h ⊢
    omega
   ·simp only [hs, Bool.false_eq_true, if_false, List.length_append] at h ⊢
    omega

abbrev as0 : Q × Bool := ((.le (.int 0) (.fn 30 (.bi .pair (.var 0) (.bi .pair (.int 0) (.int 0))))), true)
abbrev as1 : Q × Bool := ((.le (.bi .add (.int 0) (.fn 30 (.bi .pair (.var 0) (.bi .pair (.int 0) (.int 0))))) (.int 4611686018427387904)), true)
abbrev as2 : Q × Bool := ((.le (.un .len (.var 0)) (.int 9223372036854775807)), true)
abbrev as3 : Q × Bool := ((.fit .i64 (.un .len (.var 0))), true)
abbrev as4 : Q × Bool := ((.le (.un .len (.var 0)) (.int 60)), false)
def c_t0 : List (Q × Bool) := [as0, as1, as2, as3, as4]
set_option maxRecDepth 100000 in
theorem c_y0 : yesOf Try.prog (knownV (tellA c_t0) tab specs overs) 20000 100 5 [.pv (.agg [.sl (.int .u8), .bool]) (.var 0), .sint .i64 (.var 10), .sint .i64 (.var 20)] (globSt g0) = true := by kernel_rfl
abbrev as5 : Q × Bool := ((.le (.un .len (.var 0)) (.int 60)), true)
abbrev as6 : Q × Bool := ((.le (.bi .add (.int 0) (.fn 30 (.bi .pair (.var 0) (.bi .pair (.int 0) (.int 0))))) (.int 3000)), false)
def c_t1 : List (Q × Bool) := [as0, as1, as2, as3, as5, as6]
set_option maxRecDepth 100000 in
theorem c_y1 : yesOf Try.prog (knownV (tellA c_t1) tab specs overs) 20000 100 5 [.pv (.agg [.sl (.int .u8), .bool]) (.var 0), .sint .i64 (.var 10), .sint .i64 (.var 20)] (globSt g0) = true := by kernel_rfl
abbrev as7 : Q × Bool := ((.le (.bi .add (.int 0) (.fn 30 (.bi .pair (.var 0) (.bi .pair (.int 0) (.int 0))))) (.int 3000)), true)
abbrev as8 : Q × Bool := ((.le (.int 0) (.var 10)), false)
abbrev as9 : Q × Bool := ((.le (.int 0) (.un .len (.var 0))), true)
abbrev as10 : Q × Bool := ((.eq (.int (-1)) (.fn 40 (.bi .pair (.var 10) (.bi .pair (.int 0) (.int 0))))), true)
abbrev as11 : Q × Bool := ((.le (.int 0) (.fn 43 (.bi .pair (.var 10) (.int 0)))), true)
abbrev as12 : Q × Bool := ((.le (.int 1) (.un .len (.fn 45 (.bi .pair (.var 0) (.bi .pair (.int 0) (.bi .pair (.var 10) (.bi .pair (.lits []) (.bi .pair (.lits []) (.int 0))))))))), false)
abbrev as13 : Q × Bool := ((.le (.int 1) (.un .len (.fn 46 (.bi .pair (.var 0) (.bi .pair (.int 0) (.bi .pair (.var 10) (.bi .pair (.lits []) (.bi .pair (.lits []) (.int 0))))))))), false)
abbrev as14 : Q × Bool := ((.le (.int 0) (.fn 7 (.bi .pair (.var 20) (.bi .pair (.int 1) (.int 0))))), true)
abbrev as15 : Q × Bool := ((.le (.fn 7 (.bi .pair (.var 20) (.bi .pair (.int 1) (.int 0)))) (.int 0)), true)
abbrev as16 : Q × Bool := ((.fit .i64 (.fn 7 (.bi .pair (.var 20) (.bi .pair (.int 1) (.int 0))))), true)
abbrev as17 : Q × Bool := ((.fit .i64 (.bi .add (.var 20) (.int 1))), true)
abbrev as18 : Q × Bool := ((.le (.int 0) (.fn 7 (.bi .pair (.bi .add (.var 20) (.int 1)) (.bi .pair (.int 1) (.int 0))))), true)
abbrev as19 : Q × Bool := ((.le (.fn 7 (.bi .pair (.bi .add (.var 20) (.int 1)) (.bi .pair (.int 1) (.int 0)))) (.int 0)), true)
def c_t2 : List (Q × Bool) := [as0, as1, as2, as3, as5, as7, as8, as9, as10, as11, as12, as13, as14, as15, as16, as17, as18, as19]
set_option maxRecDepth 100000 in
theorem c_y2 : yesOf Try.prog (knownV (tellA c_t2) tab specs overs) 20000 100 5 [.pv (.agg [.sl (.int .u8), .bool]) (.var 0), .sint .i64 (.var 10), .sint .i64 (.var 20)] (globSt g0) = true := by kernel_rfl
abbrev as20 : Q × Bool := ((.le (.int 1) (.un .len (.fn 46 (.bi .pair (.var 0) (.bi .pair (.int 0) (.bi .pair (.var 10) (.bi .pair (.lits []) (.bi .pair (.lits []) (.int 0))))))))), true)
abbrev as21 : Q × Bool := ((.fit .i64 (.un .len (.fn 46 (.bi .pair (.var 0) (.bi .pair (.int 0) (.bi .pair (.var 10) (.bi .pair (.lits []) (.bi .pair (.lits []) (.int 0))))))))), true)
abbrev as22 : Q × Bool := ((.fit .i64 (.un .len (.fn 44 (.bi .pair (.var 0) (.bi .pair (.int 0) (.bi .pair (.var 10) (.bi .pair (.lits []) (.bi .pair (.lits []) (.int 0))))))))), true)
abbrev as23 : Q × Bool := ((.eq (.un .len (.fn 46 (.bi .pair (.var 0) (.bi .pair (.int 0) (.bi .pair (.var 10) (.bi .pair (.lits []) (.bi .pair (.lits []) (.int 0)))))))) (.un .len (.fn 44 (.bi .pair (.var 0) (.bi .pair (.int 0) (.bi .pair (.var 10) (.bi .pair (.lits []) (.bi .pair (.lits []) (.int 0))))))))), true)
abbrev as24 : Q × Bool := ((.fit .i64 (.bi .add (.un .len (.fn 46 (.bi .pair (.var 0) (.bi .pair (.int 0) (.bi .pair (.var 10) (.bi .pair (.lits []) (.bi .pair (.lits []) (.int 0)))))))) (.int 1))), true)
abbrev as25 : Q × Bool := ((.le (.int 1) (.bi .add (.un .len (.fn 46 (.bi .pair (.var 0) (.bi .pair (.int 0) (.bi .pair (.var 10) (.bi .pair (.lits []) (.bi .pair (.lits []) (.int 0)))))))) (.int 1))), true)
abbrev as26 : Q × Bool := ((.le (.int 0) (.fn 7 (.bi .pair (.var 20) (.bi .pair (.bi .add (.un .len (.fn 46 (.bi .pair (.var 0) (.bi .pair (.int 0) (.bi .pair (.var 10) (.bi .pair (.lits []) (.bi .pair (.lits []) (.int 0)))))))) (.int 1)) (.int 0))))), true)
abbrev as27 : Q × Bool := ((.le (.fn 7 (.bi .pair (.var 20) (.bi .pair (.bi .add (.un .len (.fn 46 (.bi .pair (.var 0) (.bi .pair (.int 0) (.bi .pair (.var 10) (.bi .pair (.lits []) (.bi .pair (.lits []) (.int 0)))))))) (.int 1)) (.int 0)))) (.un .len (.fn 46 (.bi .pair (.var 0) (.bi .pair (.int 0) (.bi .pair (.var 10) (.bi .pair (.lits []) (.bi .pair (.lits []) (.int 0))))))))), true)
abbrev as28 : Q × Bool := ((.eq (.fn 7 (.bi .pair (.var 20) (.bi .pair (.bi .add (.un .len (.fn 46 (.bi .pair (.var 0) (.bi .pair (.int 0) (.bi .pair (.var 10) (.bi .pair (.lits []) (.bi .pair (.lits []) (.int 0)))))))) (.int 1)) (.int 0)))) (.int 0)), true)
abbrev as29 : Q × Bool := ((.fit .i64 (.bi .add (.un .len (.fn 44 (.bi .pair (.var 0) (.bi .pair (.int 0) (.bi .pair (.var 10) (.bi .pair (.lits []) (.bi .pair (.lits []) (.int 0)))))))) (.int 1))), true)
abbrev as30 : Q × Bool := ((.le (.int 1) (.bi .add (.un .len (.fn 44 (.bi .pair (.var 0) (.bi .pair (.int 0) (.bi .pair (.var 10) (.bi .pair (.lits []) (.bi .pair (.lits []) (.int 0)))))))) (.int 1))), true)
abbrev as31 : Q × Bool := ((.fit .i64 (.fn 7 (.bi .pair (.var 20) (.bi .pair (.bi .add (.un .len (.fn 44 (.bi .pair (.var 0) (.bi .pair (.int 0) (.bi .pair (.var 10) (.bi .pair (.lits []) (.bi .pair (.lits []) (.int 0)))))))) (.int 1)) (.int 0))))), true)
abbrev as32 : Q × Bool := ((.le (.int 0) (.fn 7 (.bi .pair (.var 20) (.bi .pair (.bi .add (.un .len (.fn 44 (.bi .pair (.var 0) (.bi .pair (.int 0) (.bi .pair (.var 10) (.bi .pair (.lits []) (.bi .pair (.lits []) (.int 0)))))))) (.int 1)) (.int 0))))), true)
abbrev as33 : Q × Bool := ((.le (.fn 7 (.bi .pair (.var 20) (.bi .pair (.bi .add (.un .len (.fn 44 (.bi .pair (.var 0) (.bi .pair (.int 0) (.bi .pair (.var 10) (.bi .pair (.lits []) (.bi .pair (.lits []) (.int 0)))))))) (.int 1)) (.int 0)))) (.un .len (.fn 44 (.bi .pair (.var 0) (.bi .pair (.int 0) (.bi .pair (.var 10) (.bi .pair (.lits []) (.bi .pair (.lits []) (.int 0))))))))), true)
abbrev as34 : Q × Bool := ((.same (.lits []) (.tr .cut (.fn 44 (.bi .pair (.var 0) (.bi .pair (.int 0) (.bi .pair (.var 10) (.bi .pair (.lits []) (.bi .pair (.lits []) (.int 0))))))) (.int 0) (.fn 7 (.bi .pair (.var 20) (.bi .pair (.bi .add (.un .len (.fn 44 (.bi .pair (.var 0) (.bi .pair (.int 0) (.bi .pair (.var 10) (.bi .pair (.lits []) (.bi .pair (.lits []) (.int 0)))))))) (.int 1)) (.int 0)))))), true)
def c_t3 : List (Q × Bool) := [as0, as1, as2, as3, as5, as7, as8, as9, as10, as11, as12, as20, as21, as22, as23, as24, as25, as26, as27, as28, as29, as30, as31, as32, as33, as34, as17, as18, as19]
set_option maxRecDepth 100000 in
theorem c_y3 : yesOf Try.prog (knownV (tellA c_t3) tab specs overs) 20000 100 5 [.pv (.agg [.sl (.int .u8), .bool]) (.var 0), .sint .i64 (.var 10), .sint .i64 (.var 20)] (globSt g0) = true := by kernel_rfl
abbrev as35 : Q × Bool := ((.eq (.fn 7 (.bi .pair (.var 20) (.bi .pair (.bi .add (.un .len (.fn 46 (.bi .pair (.var 0) (.bi .pair (.int 0) (.bi .pair (.var 10) (.bi .pair (.lits []) (.bi .pair (.lits []) (.int 0)))))))) (.int 1)) (.int 0)))) (.int 0)), false)
abbrev as36 : Q × Bool := ((.le (.bi .mul (.fn 7 (.bi .pair (.var 20) (.bi .pair (.bi .add (.un .len (.fn 46 (.bi .pair (.var 0) (.bi .pair (.int 0) (.bi .pair (.var 10) (.bi .pair (.lits []) (.bi .pair (.lits []) (.int 0)))))))) (.int 1)) (.int 0)))) (.int 2)) (.int 281474976710656)), true)
abbrev as37 : Q × Bool := ((.fit .i64 (.fn 7 (.bi .pair (.var 20) (.bi .pair (.bi .add (.un .len (.fn 46 (.bi .pair (.var 0) (.bi .pair (.int 0) (.bi .pair (.var 10) (.bi .pair (.lits []) (.bi .pair (.lits []) (.int 0)))))))) (.int 1)) (.int 0))))), true)
abbrev as38 : Q × Bool := ((.le (.fn 7 (.bi .pair (.var 20) (.bi .pair (.bi .add (.un .len (.fn 46 (.bi .pair (.var 0) (.bi .pair (.int 0) (.bi .pair (.var 10) (.bi .pair (.lits []) (.bi .pair (.lits []) (.int 0)))))))) (.int 1)) (.int 0)))) (.int 0)), false)
abbrev as39 : Q × Bool := ((.same (.bi .app (.tr .cut (.bi .rep (.fn 7 (.bi .pair (.var 20) (.bi .pair (.bi .add (.un .len (.fn 46 (.bi .pair (.var 0) (.bi .pair (.int 0) (.bi .pair (.var 10) (.bi .pair (.lits []) (.bi .pair (.lits []) (.int 0)))))))) (.int 1)) (.int 0)))) (.int 0)) (.int 0) (.int 0)) (.tr .cut (.fn 46 (.bi .pair (.var 0) (.bi .pair (.int 0) (.bi .pair (.var 10) (.bi .pair (.lits []) (.bi .pair (.lits []) (.int 0))))))) (.int 0) (.fn 7 (.bi .pair (.var 20) (.bi .pair (.bi .add (.un .len (.fn 46 (.bi .pair (.var 0) (.bi .pair (.int 0) (.bi .pair (.var 10) (.bi .pair (.lits []) (.bi .pair (.lits []) (.int 0)))))))) (.int 1)) (.int 0)))))) (.tr .cut (.fn 44 (.bi .pair (.var 0) (.bi .pair (.int 0) (.bi .pair (.var 10) (.bi .pair (.lits []) (.bi .pair (.lits []) (.int 0))))))) (.int 0) (.fn 7 (.bi .pair (.var 20) (.bi .pair (.bi .add (.un .len (.fn 44 (.bi .pair (.var 0) (.bi .pair (.int 0) (.bi .pair (.var 10) (.bi .pair (.lits []) (.bi .pair (.lits []) (.int 0)))))))) (.int 1)) (.int 0)))))), true)
def c_t4 : List (Q × Bool) := [as0, as1, as2, as3, as5, as7, as8, as9, as10, as11, as12, as20, as21, as22, as23, as24, as25, as26, as27, as35, as36, as29, as30, as31, as32, as33, as37, as38, as39, as17, as18, as19]
set_option maxRecDepth 100000 in
theorem c_y4 : yesOf Try.prog (knownV (tellA c_t4) tab specs overs) 20000 100 5 [.pv (.agg [.sl (.int .u8), .bool]) (.var 0), .sint .i64 (.var 10), .sint .i64 (.var 20)] (globSt g0) = true := by kernel_rfl
abbrev as40 : Q × Bool := ((.le (.int 1) (.un .len (.fn 45 (.bi .pair (.var 0) (.bi .pair (.int 0) (.bi .pair (.var 10) (.bi .pair (.lits []) (.bi .pair (.lits []) (.int 0))))))))), true)
abbrev as41 : Q × Bool := ((.fit .i64 (.un .len (.fn 45 (.bi .pair (.var 0) (.bi .pair (.int 0) (.bi .pair (.var 10) (.bi .pair (.lits []) (.bi .pair (.lits []) (.int 0))))))))), true)
abbrev as42 : Q × Bool := ((.fit .i64 (.bi .sub (.un .len (.fn 44 (.bi .pair (.var 0) (.bi .pair (.int 0) (.bi .pair (.var 10) (.bi .pair (.lits []) (.bi .pair (.lits []) (.int 0)))))))) (.un .len (.fn 45 (.bi .pair (.var 0) (.bi .pair (.int 0) (.bi .pair (.var 10) (.bi .pair (.lits []) (.bi .pair (.lits []) (.int 0)))))))))), true)
abbrev as43 : Q × Bool := ((.eq (.int 0) (.bi .sub (.un .len (.fn 44 (.bi .pair (.var 0) (.bi .pair (.int 0) (.bi .pair (.var 10) (.bi .pair (.lits []) (.bi .pair (.lits []) (.int 0)))))))) (.un .len (.fn 45 (.bi .pair (.var 0) (.bi .pair (.int 0) (.bi .pair (.var 10) (.bi .pair (.lits []) (.bi .pair (.lits []) (.int 0)))))))))), true)
abbrev as44 : Q × Bool := ((.le (.bi .mul (.un .len (.fn 45 (.bi .pair (.var 0) (.bi .pair (.int 0) (.bi .pair (.var 10) (.bi .pair (.lits []) (.bi .pair (.lits []) (.int 0)))))))) (.int 2)) (.int 281474976710656)), true)
abbrev as45 : Q × Bool := ((.fit .i64 (.bi .add (.bi .sub (.un .len (.fn 44 (.bi .pair (.var 0) (.bi .pair (.int 0) (.bi .pair (.var 10) (.bi .pair (.lits []) (.bi .pair (.lits []) (.int 0)))))))) (.un .len (.fn 45 (.bi .pair (.var 0) (.bi .pair (.int 0) (.bi .pair (.var 10) (.bi .pair (.lits []) (.bi .pair (.lits []) (.int 0))))))))) (.int 1))), true)
abbrev as46 : Q × Bool := ((.le (.int 1) (.bi .add (.bi .sub (.un .len (.fn 44 (.bi .pair (.var 0) (.bi .pair (.int 0) (.bi .pair (.var 10) (.bi .pair (.lits []) (.bi .pair (.lits []) (.int 0)))))))) (.un .len (.fn 45 (.bi .pair (.var 0) (.bi .pair (.int 0) (.bi .pair (.var 10) (.bi .pair (.lits []) (.bi .pair (.lits []) (.int 0))))))))) (.int 1))), true)
abbrev as47 : Q × Bool := ((.fit .i64 (.bi .add (.un .len (.fn 45 (.bi .pair (.var 0) (.bi .pair (.int 0) (.bi .pair (.var 10) (.bi .pair (.lits []) (.bi .pair (.lits []) (.int 0)))))))) (.fn 7 (.bi .pair (.var 20) (.bi .pair (.bi .add (.bi .sub (.un .len (.fn 44 (.bi .pair (.var 0) (.bi .pair (.int 0) (.bi .pair (.var 10) (.bi .pair (.lits []) (.bi .pair (.lits []) (.int 0)))))))) (.un .len (.fn 45 (.bi .pair (.var 0) (.bi .pair (.int 0) (.bi .pair (.var 10) (.bi .pair (.lits []) (.bi .pair (.lits []) (.int 0))))))))) (.int 1)) (.int 0)))))), true)
abbrev as48 : Q × Bool := ((.le (.int 0) (.bi .add (.un .len (.fn 45 (.bi .pair (.var 0) (.bi .pair (.int 0) (.bi .pair (.var 10) (.bi .pair (.lits []) (.bi .pair (.lits []) (.int 0)))))))) (.fn 7 (.bi .pair (.var 20) (.bi .pair (.bi .add (.bi .sub (.un .len (.fn 44 (.bi .pair (.var 0) (.bi .pair (.int 0) (.bi .pair (.var 10) (.bi .pair (.lits []) (.bi .pair (.lits []) (.int 0)))))))) (.un .len (.fn 45 (.bi .pair (.var 0) (.bi .pair (.int 0) (.bi .pair (.var 10) (.bi .pair (.lits []) (.bi .pair (.lits []) (.int 0))))))))) (.int 1)) (.int 0)))))), true)
abbrev as49 : Q × Bool := ((.le (.bi .add (.un .len (.fn 45 (.bi .pair (.var 0) (.bi .pair (.int 0) (.bi .pair (.var 10) (.bi .pair (.lits []) (.bi .pair (.lits []) (.int 0)))))))) (.fn 7 (.bi .pair (.var 20) (.bi .pair (.bi .add (.bi .sub (.un .len (.fn 44 (.bi .pair (.var 0) (.bi .pair (.int 0) (.bi .pair (.var 10) (.bi .pair (.lits []) (.bi .pair (.lits []) (.int 0)))))))) (.un .len (.fn 45 (.bi .pair (.var 0) (.bi .pair (.int 0) (.bi .pair (.var 10) (.bi .pair (.lits []) (.bi .pair (.lits []) (.int 0))))))))) (.int 1)) (.int 0))))) (.un .len (.fn 44 (.bi .pair (.var 0) (.bi .pair (.int 0) (.bi .pair (.var 10) (.bi .pair (.lits []) (.bi .pair (.lits []) (.int 0))))))))), true)
abbrev as50 : Q × Bool := ((.le (.int 0) (.un .len (.fn 45 (.bi .pair (.var 0) (.bi .pair (.int 0) (.bi .pair (.var 10) (.bi .pair (.lits []) (.bi .pair (.lits []) (.int 0))))))))), true)
abbrev as51 : Q × Bool := ((.le (.un .len (.fn 45 (.bi .pair (.var 0) (.bi .pair (.int 0) (.bi .pair (.var 10) (.bi .pair (.lits []) (.bi .pair (.lits []) (.int 0)))))))) (.int 0)), false)
abbrev as52 : Q × Bool := ((.same (.bi .app (.tr .cut (.bi .rep (.un .len (.fn 45 (.bi .pair (.var 0) (.bi .pair (.int 0) (.bi .pair (.var 10) (.bi .pair (.lits []) (.bi .pair (.lits []) (.int 0)))))))) (.int 0)) (.int 0) (.int 0)) (.fn 45 (.bi .pair (.var 0) (.bi .pair (.int 0) (.bi .pair (.var 10) (.bi .pair (.lits []) (.bi .pair (.lits []) (.int 0)))))))) (.tr .cut (.fn 44 (.bi .pair (.var 0) (.bi .pair (.int 0) (.bi .pair (.var 10) (.bi .pair (.lits []) (.bi .pair (.lits []) (.int 0))))))) (.int 0) (.bi .add (.un .len (.fn 45 (.bi .pair (.var 0) (.bi .pair (.int 0) (.bi .pair (.var 10) (.bi .pair (.lits []) (.bi .pair (.lits []) (.int 0)))))))) (.fn 7 (.bi .pair (.var 20) (.bi .pair (.bi .add (.bi .sub (.un .len (.fn 44 (.bi .pair (.var 0) (.bi .pair (.int 0) (.bi .pair (.var 10) (.bi .pair (.lits []) (.bi .pair (.lits []) (.int 0)))))))) (.un .len (.fn 45 (.bi .pair (.var 0) (.bi .pair (.int 0) (.bi .pair (.var 10) (.bi .pair (.lits []) (.bi .pair (.lits []) (.int 0))))))))) (.int 1)) (.int 0))))))), true)
def c_t5 : List (Q × Bool) := [as0, as1, as2, as3, as5, as7, as8, as9, as10, as11, as40, as13, as22, as41, as42, as43, as14, as15, as44, as45, as46, as47, as48, as49, as50, as51, as52, as17, as18, as19]
set_option maxRecDepth 100000 in
theorem c_y5 : yesOf Try.prog (knownV (tellA c_t5) tab specs overs) 20000 100 5 [.pv (.agg [.sl (.int .u8), .bool]) (.var 0), .sint .i64 (.var 10), .sint .i64 (.var 20)] (globSt g0) = true := by kernel_rfl
abbrev as53 : Q × Bool := ((.eq (.un .len (.fn 46 (.bi .pair (.var 0) (.bi .pair (.int 0) (.bi .pair (.var 10) (.bi .pair (.lits []) (.bi .pair (.lits []) (.int 0)))))))) (.bi .sub (.un .len (.fn 44 (.bi .pair (.var 0) (.bi .pair (.int 0) (.bi .pair (.var 10) (.bi .pair (.lits []) (.bi .pair (.lits []) (.int 0)))))))) (.un .len (.fn 45 (.bi .pair (.var 0) (.bi .pair (.int 0) (.bi .pair (.var 10) (.bi .pair (.lits []) (.bi .pair (.lits []) (.int 0)))))))))), true)
abbrev as54 : Q × Bool := ((.le (.bi .mul (.bi .add (.un .len (.fn 45 (.bi .pair (.var 0) (.bi .pair (.int 0) (.bi .pair (.var 10) (.bi .pair (.lits []) (.bi .pair (.lits []) (.int 0)))))))) (.fn 7 (.bi .pair (.var 20) (.bi .pair (.bi .add (.un .len (.fn 46 (.bi .pair (.var 0) (.bi .pair (.int 0) (.bi .pair (.var 10) (.bi .pair (.lits []) (.bi .pair (.lits []) (.int 0)))))))) (.int 1)) (.int 0))))) (.int 2)) (.int 281474976710656)), true)
abbrev as55 : Q × Bool := ((.fit .i64 (.bi .add (.un .len (.fn 45 (.bi .pair (.var 0) (.bi .pair (.int 0) (.bi .pair (.var 10) (.bi .pair (.lits []) (.bi .pair (.lits []) (.int 0)))))))) (.fn 7 (.bi .pair (.var 20) (.bi .pair (.bi .add (.un .len (.fn 46 (.bi .pair (.var 0) (.bi .pair (.int 0) (.bi .pair (.var 10) (.bi .pair (.lits []) (.bi .pair (.lits []) (.int 0)))))))) (.int 1)) (.int 0)))))), true)
abbrev as56 : Q × Bool := ((.le (.int 0) (.bi .add (.un .len (.fn 45 (.bi .pair (.var 0) (.bi .pair (.int 0) (.bi .pair (.var 10) (.bi .pair (.lits []) (.bi .pair (.lits []) (.int 0)))))))) (.fn 7 (.bi .pair (.var 20) (.bi .pair (.bi .add (.un .len (.fn 46 (.bi .pair (.var 0) (.bi .pair (.int 0) (.bi .pair (.var 10) (.bi .pair (.lits []) (.bi .pair (.lits []) (.int 0)))))))) (.int 1)) (.int 0)))))), true)
abbrev as57 : Q × Bool := ((.le (.bi .add (.un .len (.fn 45 (.bi .pair (.var 0) (.bi .pair (.int 0) (.bi .pair (.var 10) (.bi .pair (.lits []) (.bi .pair (.lits []) (.int 0)))))))) (.fn 7 (.bi .pair (.var 20) (.bi .pair (.bi .add (.un .len (.fn 46 (.bi .pair (.var 0) (.bi .pair (.int 0) (.bi .pair (.var 10) (.bi .pair (.lits []) (.bi .pair (.lits []) (.int 0)))))))) (.int 1)) (.int 0))))) (.int 0)), false)
abbrev as58 : Q × Bool := ((.same (.bi .app (.tr .cut (.bi .rep (.bi .add (.un .len (.fn 45 (.bi .pair (.var 0) (.bi .pair (.int 0) (.bi .pair (.var 10) (.bi .pair (.lits []) (.bi .pair (.lits []) (.int 0)))))))) (.fn 7 (.bi .pair (.var 20) (.bi .pair (.bi .add (.un .len (.fn 46 (.bi .pair (.var 0) (.bi .pair (.int 0) (.bi .pair (.var 10) (.bi .pair (.lits []) (.bi .pair (.lits []) (.int 0)))))))) (.int 1)) (.int 0))))) (.int 0)) (.int 0) (.int 0)) (.bi .app (.fn 45 (.bi .pair (.var 0) (.bi .pair (.int 0) (.bi .pair (.var 10) (.bi .pair (.lits []) (.bi .pair (.lits []) (.int 0))))))) (.tr .cut (.fn 46 (.bi .pair (.var 0) (.bi .pair (.int 0) (.bi .pair (.var 10) (.bi .pair (.lits []) (.bi .pair (.lits []) (.int 0))))))) (.int 0) (.fn 7 (.bi .pair (.var 20) (.bi .pair (.bi .add (.un .len (.fn 46 (.bi .pair (.var 0) (.bi .pair (.int 0) (.bi .pair (.var 10) (.bi .pair (.lits []) (.bi .pair (.lits []) (.int 0)))))))) (.int 1)) (.int 0))))))) (.tr .cut (.fn 44 (.bi .pair (.var 0) (.bi .pair (.int 0) (.bi .pair (.var 10) (.bi .pair (.lits []) (.bi .pair (.lits []) (.int 0))))))) (.int 0) (.bi .add (.un .len (.fn 45 (.bi .pair (.var 0) (.bi .pair (.int 0) (.bi .pair (.var 10) (.bi .pair (.lits []) (.bi .pair (.lits []) (.int 0)))))))) (.fn 7 (.bi .pair (.var 20) (.bi .pair (.bi .add (.bi .sub (.un .len (.fn 44 (.bi .pair (.var 0) (.bi .pair (.int 0) (.bi .pair (.var 10) (.bi .pair (.lits []) (.bi .pair (.lits []) (.int 0)))))))) (.un .len (.fn 45 (.bi .pair (.var 0) (.bi .pair (.int 0) (.bi .pair (.var 10) (.bi .pair (.lits []) (.bi .pair (.lits []) (.int 0))))))))) (.int 1)) (.int 0))))))), true)
def c_t6 : List (Q × Bool) := [as0, as1, as2, as3, as5, as7, as8, as9, as10, as11, as40, as20, as21, as22, as41, as42, as53, as24, as25, as26, as27, as54, as45, as46, as47, as48, as49, as55, as56, as57, as58, as17, as18, as19]
set_option maxRecDepth 100000 in
theorem c_y6 : yesOf Try.prog (knownV (tellA c_t6) tab specs overs) 20000 100 5 [.pv (.agg [.sl (.int .u8), .bool]) (.var 0), .sint .i64 (.var 10), .sint .i64 (.var 20)] (globSt g0) = true := by kernel_rfl
abbrev as59 : Q × Bool := ((.fit .i64 (.bi .add (.var 20) (.int 1))), false)
abbrev as60 : Q × Bool := ((.le (.int 0) (.fn 7 (.bi .pair (.bi (.iop .add .i64) (.var 20) (.int 1)) (.bi .pair (.int 1) (.int 0))))), true)
abbrev as61 : Q × Bool := ((.le (.fn 7 (.bi .pair (.bi (.iop .add .i64) (.var 20) (.int 1)) (.bi .pair (.int 1) (.int 0)))) (.int 0)), true)
def c_t7 : List (Q × Bool) := [as0, as1, as2, as3, as5, as7, as8, as9, as10, as11, as12, as13, as14, as15, as16, as59, as60, as61]
set_option maxRecDepth 100000 in
theorem c_y7 : yesOf Try.prog (knownV (tellA c_t7) tab specs overs) 20000 100 5 [.pv (.agg [.sl (.int .u8), .bool]) (.var 0), .sint .i64 (.var 10), .sint .i64 (.var 20)] (globSt g0) = true := by kernel_rfl
def c_t8 : List (Q × Bool) := [as0, as1, as2, as3, as5, as7, as8, as9, as10, as11, as12, as20, as21, as22, as23, as24, as25, as26, as27, as28, as29, as30, as31, as32, as33, as34, as59, as60, as61]
set_option maxRecDepth 100000 in
theorem c_y8 : yesOf Try.prog (knownV (tellA c_t8) tab specs overs) 20000 100 5 [.pv (.agg [.sl (.int .u8), .bool]) (.var 0), .sint .i64 (.var 10), .sint .i64 (.var 20)] (globSt g0) = true := by kernel_rfl
def c_t9 : List (Q × Bool) := [as0, as1, as2, as3, as5, as7, as8, as9, as10, as11, as12, as20, as21, as22, as23, as24, as25, as26, as27, as35, as36, as29, as30, as31, as32, as33, as37, as38, as39, as59, as60, as61]
set_option maxRecDepth 100000 in
theorem c_y9 : yesOf Try.prog (knownV (tellA c_t9) tab specs overs) 20000 100 5 [.pv (.agg [.sl (.int .u8), .bool]) (.var 0), .sint .i64 (.var 10), .sint .i64 (.var 20)] (globSt g0) = true := by kernel_rfl
def c_t10 : List (Q × Bool) := [as0, as1, as2, as3, as5, as7, as8, as9, as10, as11, as40, as13, as22, as41, as42, as43, as14, as15, as44, as45, as46, as47, as48, as49, as50, as51, as52, as59, as60, as61]
set_option maxRecDepth 100000 in
theorem c_y10 : yesOf Try.prog (knownV (tellA c_t10) tab specs overs) 20000 100 5 [.pv (.agg [.sl (.int .u8), .bool]) (.var 0), .sint .i64 (.var 10), .sint .i64 (.var 20)] (globSt g0) = true := by kernel_rfl
def c_t11 : List (Q × Bool) := [as0, as1, as2, as3, as5, as7, as8, as9, as10, as11, as40, as20, as21, as22, as41, as42, as53, as24, as25, as26, as27, as54, as45, as46, as47, as48, as49, as55, as56, as57, as58, as59, as60, as61]
set_option maxRecDepth 100000 in
theorem c_y11 : yesOf Try.prog (knownV (tellA c_t11) tab specs overs) 20000 100 5 [.pv (.agg [.sl (.int .u8), .bool]) (.var 0), .sint .i64 (.var 10), .sint .i64 (.var 20)] (globSt g0) = true := by kernel_rfl
abbrev as62 : Q × Bool := ((.le (.int 0) (.var 10)), true)
abbrev as63 : Q × Bool := ((.eq (.var 10) (.fn 40 (.bi .pair (.var 10) (.bi .pair (.int 0) (.int 0))))), true)
def c_t12 : List (Q × Bool) := [as0, as1, as2, as3, as5, as7, as62, as9, as63, as11, as12, as13, as14, as15, as16, as17, as18, as19]
set_option maxRecDepth 100000 in
theorem c_y12 : yesOf Try.prog (knownV (tellA c_t12) tab specs overs) 20000 100 5 [.pv (.agg [.sl (.int .u8), .bool]) (.var 0), .sint .i64 (.var 10), .sint .i64 (.var 20)] (globSt g0) = true := by kernel_rfl
def c_t13 : List (Q × Bool) := [as0, as1, as2, as3, as5, as7, as62, as9, as63, as11, as12, as20, as21, as22, as23, as24, as25, as26, as27, as28, as29, as30, as31, as32, as33, as34, as17, as18, as19]
set_option maxRecDepth 100000 in
theorem c_y13 : yesOf Try.prog (knownV (tellA c_t13) tab specs overs) 20000 100 5 [.pv (.agg [.sl (.int .u8), .bool]) (.var 0), .sint .i64 (.var 10), .sint .i64 (.var 20)] (globSt g0) = true := by kernel_rfl
def c_t14 : List (Q × Bool) := [as0, as1, as2, as3, as5, as7, as62, as9, as63, as11, as12, as20, as21, as22, as23, as24, as25, as26, as27, as35, as36, as29, as30, as31, as32, as33, as37, as38, as39, as17, as18, as19]
set_option maxRecDepth 100000 in
theorem c_y14 : yesOf Try.prog (knownV (tellA c_t14) tab specs overs) 20000 100 5 [.pv (.agg [.sl (.int .u8), .bool]) (.var 0), .sint .i64 (.var 10), .sint .i64 (.var 20)] (globSt g0) = true := by kernel_rfl
def c_t15 : List (Q × Bool) := [as0, as1, as2, as3, as5, as7, as62, as9, as63, as11, as40, as13, as22, as41, as42, as43, as14, as15, as44, as45, as46, as47, as48, as49, as50, as51, as52, as17, as18, as19]
set_option maxRecDepth 100000 in
theorem c_y15 : yesOf Try.prog (knownV (tellA c_t15) tab specs overs) 20000 100 5 [.pv (.agg [.sl (.int .u8), .bool]) (.var 0), .sint .i64 (.var 10), .sint .i64 (.var 20)] (globSt g0) = true := by kernel_rfl
def c_t16 : List (Q × Bool) := [as0, as1, as2, as3, as5, as7, as62, as9, as63, as11, as40, as20, as21, as22, as41, as42, as53, as24, as25, as26, as27, as54, as45, as46, as47, as48, as49, as55, as56, as57, as58, as17, as18, as19]
set_option maxRecDepth 100000 in
theorem c_y16 : yesOf Try.prog (knownV (tellA c_t16) tab specs overs) 20000 100 5 [.pv (.agg [.sl (.int .u8), .bool]) (.var 0), .sint .i64 (.var 10), .sint .i64 (.var 20)] (globSt g0) = true := by kernel_rfl
def c_t17 : List (Q × Bool) := [as0, as1, as2, as3, as5, as7, as62, as9, as63, as11, as12, as13, as14, as15, as16, as59, as60, as61]
set_option maxRecDepth 100000 in
theorem c_y17 : yesOf Try.prog (knownV (tellA c_t17) tab specs overs) 20000 100 5 [.pv (.agg [.sl (.int .u8), .bool]) (.var 0), .sint .i64 (.var 10), .sint .i64 (.var 20)] (globSt g0) = true := by kernel_rfl
def c_t18 : List (Q × Bool) := [as0, as1, as2, as3, as5, as7, as62, as9, as63, as11, as12, as20, as21, as22, as23, as24, as25, as26, as27, as28, as29, as30, as31, as32, as33, as34, as59, as60, as61]
set_option maxRecDepth 100000 in
theorem c_y18 : yesOf Try.prog (knownV (tellA c_t18) tab specs overs) 20000 100 5 [.pv (.agg [.sl (.int .u8), .bool]) (.var 0), .sint .i64 (.var 10), .sint .i64 (.var 20)] (globSt g0) = true := by kernel_rfl
def c_t19 : List (Q × Bool) := [as0, as1, as2, as3, as5, as7, as62, as9, as63, as11, as12, as20, as21, as22, as23, as24, as25, as26, as27, as35, as36, as29, as30, as31, as32, as33, as37, as38, as39, as59, as60, as61]
set_option maxRecDepth 100000 in
theorem c_y19 : yesOf Try.prog (knownV (tellA c_t19) tab specs overs) 20000 100 5 [.pv (.agg [.sl (.int .u8), .bool]) (.var 0), .sint .i64 (.var 10), .sint .i64 (.var 20)] (globSt g0) = true := by kernel_rfl
def c_t20 : List (Q × Bool) := [as0, as1, as2, as3, as5, as7, as62, as9, as63, as11, as40, as13, as22, as41, as42, as43, as14, as15, as44, as45, as46, as47, as48, as49, as50, as51, as52, as59, as60, as61]
set_option maxRecDepth 100000 in
theorem c_y20 : yesOf Try.prog (knownV (tellA c_t20) tab specs overs) 20000 100 5 [.pv (.agg [.sl (.int .u8), .bool]) (.var 0), .sint .i64 (.var 10), .sint .i64 (.var 20)] (globSt g0) = true := by kernel_rfl
def c_t21 : List (Q × Bool) := [as0, as1, as2, as3, as5, as7, as62, as9, as63, as11, as40, as20, as21, as22, as41, as42, as53, as24, as25, as26, as27, as54, as45, as46, as47, as48, as49, as55, as56, as57, as58, as59, as60, as61]
set_option maxRecDepth 100000 in
theorem c_y21 : yesOf Try.prog (knownV (tellA c_t21) tab specs overs) 20000 100 5 [.pv (.agg [.sl (.int .u8), .bool]) (.var 0), .sint .i64 (.var 10), .sint .i64 (.var 20)] (globSt g0) = true := by kernel_rfl
set_option maxRecDepth 100000 in
set_option maxHeartbeats 6000000 in
theorem c_walk {W : World} {v0 : Value} {dv0 : D} (hv0 : PC (poolW W) (.sl (.agg [.sl (.int .u8), .bool])) dv0 [v0]) (hl0 : (Sh.sl (.agg [.sl (.int .u8), .bool])).lens 140737488351232 dv0) {n1 : Int} (hn1 : inK .i64 n1) {n2 : Int} (hn2 : inK .i64 n2) (hG : GlobsR (om dv0 n1 n2) W g0) : Calls Try.prog 5 #[v0, .int .i64 n1, .int .i64 n2] W fun e w' => e = .returned (.bool true) ∧ Below W.heap.size W w' := by
 have r0 := Rel.globs (om dv0 n1 n2) W g0 hG
 have x0 : VR (Env.none (om dv0 n1 n2) W) (.pv (.agg [.sl (.int .u8), .bool]) (.var 0)) v0 := vr_val hv0 rfl
 have ok0 := PC.ok _ _ _ hv0
 have hargs : VRs (Env.none (om dv0 n1 n2) W) [.pv (.agg [.sl (.int .u8), .bool]) (.var 0), .sint .i64 (.var 10), .sint .i64 (.var 20)] [v0, .int .i64 n1, .int .i64 n2] := VRs_cons (x0) (VRs_cons (vr_sint (i := 10) hn1 (by rw [r0.opq]; rfl)) (VRs_cons (vr_sint (i := 20) hn2 (by rw [r0.opq]; rfl)) (VRs_nil)))
 simp only [inK, i64min, i64max, u8min, u8max, u32min, u32max, u64min, u64max] at hn1
 simp only [inK, i64min, i64max, u8min, u8max, u32min, u32max, u64min, u64max] at hn2
 have g0 : dv0.ints.length = dv0.toList.length := (len_ints _).symm
 have h1 := lens_top hl0
 have h2 := lens_max hl0
 have h3 := lenP_nn ((dv0.toList.take 61).drop 0)
 by_cases h : 60 < dv0.toList.length
 ·refine calls_of_yesV sound tab_ok specs_ok overs_ok c_y0 rfl (tellA_ok (allTold'_iff.1 ?_)) r0 hargs
  simp only [c_t0, om_0, om_10, om_20, om_f, F30, Int.toNat_zero, tl]
  omega
 ·by_cases h4 : 3000 < lenP ((dv0.toList.take 61).drop 0)
  ·refine calls_of_yesV sound tab_ok specs_ok overs_ok c_y1 rfl (tellA_ok (allTold'_iff.1 ?_)) r0 hargs
   simp only [c_t1, om_0, om_10, om_20, om_f, F30, Int.toNat_zero, tl]
   omega
  ·have ht : (dv0.toList.take 61).drop 0 = dv0.toList := by rw [List.drop_zero, List.take_of_length_le (by omega)]
   have hm := goK_max (f := n1) dv0.toList 0 ([], [])
   rw [ht] at h4
   obtain ⟨a, b, hG⟩ : ∃ a b, goK n1 dv0.toList 0 ([], []) = (a, b) := ⟨_, _, rfl⟩
   rw [hG] at hm
   simp only [List.length_nil] at hm
   have h5 : lenP (List.take 61 dv0.toList) = lenP dv0.toList := by rw [List.take_of_length_le (by omega)]
   have h6 := lenP_nn dv0.toList
   have m1 := emod_in (x := n2) (n := (b.length : Int) + 1) (by omega)
   by_cases hf : n1 < 0
   ·by_cases hx : n2 = 9223372036854775807
    ·by_cases ha : a.length = 0
     ·have ha0 := List.eq_nil_of_length_eq_zero ha
      subst ha0
      have e1 : ((([] : List Int) ++ b).length : Int) - ([] : List Int).length = b.length := by simp
      by_cases hb : b.length = 0
      ·have hb0 := List.eq_nil_of_length_eq_zero hb
       subst hb0
       have hk : True := trivial
       refine calls_of_yesV sound tab_ok specs_ok overs_ok c_y7 rfl (tellA_ok (allTold'_iff.1 ?_)) r0 hargs
       simp only [c_t7, om_0, om_10, om_20, om_f, gq, goE, hG, e1, hk, hf, if_true, if_false, tl]
       and_intros <;> first | exact True.intro | omega | (rfl; done) | (rw [il1, il3, List.take_of_length_le (by omega)]; done) | (rw [il2, il3, tk (by omega)]; done)
      ·by_cases hk : n2 % ((b.length : Int) + 1) = 0
       ·refine calls_of_yesV sound tab_ok specs_ok overs_ok c_y8 rfl (tellA_ok (allTold'_iff.1 ?_)) r0 hargs
        simp only [c_t8, om_0, om_10, om_20, om_f, gq, goE, hG, e1, hk, hf, if_true, if_false, tl]
        and_intros <;> first | exact True.intro | omega | (rfl; done) | (rw [il1, il3, List.take_of_length_le (by omega)]; done) | (rw [il2, il3, tk (by omega)]; done)
       ·refine calls_of_yesV sound tab_ok specs_ok overs_ok c_y9 rfl (tellA_ok (allTold'_iff.1 ?_)) r0 hargs
        simp only [c_t9, om_0, om_10, om_20, om_f, gq, goE, hG, e1, hk, hf, if_true, if_false, tl]
        and_intros <;> first | exact True.intro | omega | (rfl; done) | (rw [il1, il3, List.take_of_length_le (by omega)]; done) | (rw [il2, il3, tk (by omega)]; done)
     ·by_cases hb : b.length = 0
      ·have hb0 := List.eq_nil_of_length_eq_zero hb
       subst hb0
       have e1 : (a.length : Int) - a.length = 0 := by omega
       have hk : True := trivial
       refine calls_of_yesV sound tab_ok specs_ok overs_ok c_y10 rfl (tellA_ok (allTold'_iff.1 ?_)) r0 hargs
       simp only [c_t10, om_0, om_10, om_20, om_f, gq, goE, hG, e1, hk, hf, if_true, if_false, tl]
       and_intros <;> first | exact True.intro | omega | (rfl; done) | (rw [il1, il3, List.take_of_length_le (by omega)]; done) | (rw [il2, il3, tk (by omega)]; done)
      ·have e1 : ((a ++ b).length : Int) - a.length = b.length := by simp; omega
       have hk : True := trivial
       refine calls_of_yesV sound tab_ok specs_ok overs_ok c_y11 rfl (tellA_ok (allTold'_iff.1 ?_)) r0 hargs
       simp only [c_t11, om_0, om_10, om_20, om_f, gq, goE, hG, e1, hk, hf, if_true, if_false, tl]
       and_intros <;> first | exact True.intro | omega | (rfl; done) | (rw [il1, il3, List.take_of_length_le (by omega)]; done) | (rw [il2, il3, tk (by omega)]; done)
    ·by_cases ha : a.length = 0
     ·have ha0 := List.eq_nil_of_length_eq_zero ha
      subst ha0
      have e1 : ((([] : List Int) ++ b).length : Int) - ([] : List Int).length = b.length := by simp
      by_cases hb : b.length = 0
      ·have hb0 := List.eq_nil_of_length_eq_zero hb
       subst hb0
       have hk : True := trivial
       refine calls_of_yesV sound tab_ok specs_ok overs_ok c_y2 rfl (tellA_ok (allTold'_iff.1 ?_)) r0 hargs
       simp only [c_t2, om_0, om_10, om_20, om_f, gq, goE, hG, e1, hk, hf, if_true, if_false, tl]
       and_intros <;> first | exact True.intro | omega | (rfl; done) | (rw [il1, il3, List.take_of_length_le (by omega)]; done) | (rw [il2, il3, tk (by omega)]; done)
      ·by_cases hk : n2 % ((b.length : Int) + 1) = 0
       ·refine calls_of_yesV sound tab_ok specs_ok overs_ok c_y3 rfl (tellA_ok (allTold'_iff.1 ?_)) r0 hargs
        simp only [c_t3, om_0, om_10, om_20, om_f, gq, goE, hG, e1, hk, hf, if_true, if_false, tl]
        and_intros <;> first | exact True.intro | omega | (rfl; done) | (rw [il1, il3, List.take_of_length_le (by omega)]; done) | (rw [il2, il3, tk (by omega)]; done)
       ·refine calls_of_yesV sound tab_ok specs_ok overs_ok c_y4 rfl (tellA_ok (allTold'_iff.1 ?_)) r0 hargs
        simp only [c_t4, om_0, om_10, om_20, om_f, gq, goE, hG, e1, hk, hf, if_true, if_false, tl]
        and_intros <;> first | exact True.intro | omega | (rfl; done) | (rw [il1, il3, List.take_of_length_le (by omega)]; done) | (rw [il2, il3, tk (by omega)]; done)
     ·by_cases hb : b.length = 0
      ·have hb0 := List.eq_nil_of_length_eq_zero hb
       subst hb0
       have e1 : (a.length : Int) - a.length = 0 := by omega
       have hk : True := trivial
       refine calls_of_yesV sound tab_ok specs_ok overs_ok c_y5 rfl (tellA_ok (allTold'_iff.1 ?_)) r0 hargs
       simp only [c_t5, om_0, om_10, om_20, om_f, gq, goE, hG, e1, hk, hf, if_true, if_false, tl]
       and_intros <;> first | exact True.intro | omega | (rfl; done) | (rw [il1, il3, List.take_of_length_le (by omega)]; done) | (rw [il2, il3, tk (by omega)]; done)
      ·have e1 : ((a ++ b).length : Int) - a.length = b.length := by simp; omega
       have hk : True := trivial
       refine calls_of_yesV sound tab_ok specs_ok overs_ok c_y6 rfl (tellA_ok (allTold'_iff.1 ?_)) r0 hargs
       simp only [c_t6, om_0, om_10, om_20, om_f, gq, goE, hG, e1, hk, hf, if_true, if_false, tl]
       and_intros <;> first | exact True.intro | omega | (rfl; done) | (rw [il1, il3, List.take_of_length_le (by omega)]; done) | (rw [il2, il3, tk (by omega)]; done)
   ·by_cases hx : n2 = 9223372036854775807
    ·by_cases ha : a.length = 0
     ·have ha0 := List.eq_nil_of_length_eq_zero ha
      subst ha0
      have e1 : ((([] : List Int) ++ b).length : Int) - ([] : List Int).length = b.length := by simp
      by_cases hb : b.length = 0
      ·have hb0 := List.eq_nil_of_length_eq_zero hb
       subst hb0
       have hk : True := trivial
       refine calls_of_yesV sound tab_ok specs_ok overs_ok c_y17 rfl (tellA_ok (allTold'_iff.1 ?_)) r0 hargs
       simp only [c_t17, om_0, om_10, om_20, om_f, gq, goE, hG, e1, hk, hf, if_true, if_false, tl]
       and_intros <;> first | exact True.intro | omega | (rfl; done) | (rw [il1, il3, List.take_of_length_le (by omega)]; done) | (rw [il2, il3, tk (by omega)]; done)
      ·by_cases hk : n2 % ((b.length : Int) + 1) = 0
       ·refine calls_of_yesV sound tab_ok specs_ok overs_ok c_y18 rfl (tellA_ok (allTold'_iff.1 ?_)) r0 hargs
        simp only [c_t18, om_0, om_10, om_20, om_f, gq, goE, hG, e1, hk, hf, if_true, if_false, tl]
        and_intros <;> first | exact True.intro | omega | (rfl; done) | (rw [il1, il3, List.take_of_length_le (by omega)]; done) | (rw [il2, il3, tk (by omega)]; done)
       ·refine calls_of_yesV sound tab_ok specs_ok overs_ok c_y19 rfl (tellA_ok (allTold'_iff.1 ?_)) r0 hargs
        simp only [c_t19, om_0, om_10, om_20, om_f, gq, goE, hG, e1, hk, hf, if_true, if_false, tl]
        and_intros <;> first | exact True.intro | omega | (rfl; done) | (rw [il1, il3, List.take_of_length_le (by omega)]; done) | (rw [il2, il3, tk (by omega)]; done)
     ·by_cases hb : b.length = 0
      ·have hb0 := List.eq_nil_of_length_eq_zero hb
       subst hb0
       have e1 : (a.length : Int) - a.length = 0 := by omega
       have hk : True := trivial
       refine calls_of_yesV sound tab_ok specs_ok overs_ok c_y20 rfl (tellA_ok (allTold'_iff.1 ?_)) r0 hargs
       simp only [c_t20, om_0, om_10, om_20, om_f, gq, goE, hG, e1, hk, hf, if_true, if_false, tl]
       and_intros <;> first | exact True.intro | omega | (rfl; done) | (rw [il1, il3, List.take_of_length_le (by omega)]; done) | (rw [il2, il3, tk (by omega)]; done)
      ·have e1 : ((a ++ b).length : Int) - a.length = b.length := by simp; omega
       have hk : True := trivial
       refine calls_of_yesV sound tab_ok specs_ok overs_ok c_y21 rfl (tellA_ok (allTold'_iff.1 ?_)) r0 hargs
       simp only [c_t21, om_0, om_10, om_20, om_f, gq, goE, hG, e1, hk, hf, if_true, if_false, tl]
       and_intros <;> first | exact True.intro | omega | (rfl; done) | (rw [il1, il3, List.take_of_length_le (by omega)]; done) | (rw [il2, il3, tk (by omega)]; done)
    ·by_cases ha : a.length = 0
     ·have ha0 := List.eq_nil_of_length_eq_zero ha
      subst ha0
      have e1 : ((([] : List Int) ++ b).length : Int) - ([] : List Int).length = b.length := by simp
      by_cases hb : b.length = 0
      ·have hb0 := List.eq_nil_of_length_eq_zero hb
       subst hb0
       have hk : True := trivial
       refine calls_of_yesV sound tab_ok specs_ok overs_ok c_y12 rfl (tellA_ok (allTold'_iff.1 ?_)) r0 hargs
       simp only [c_t12, om_0, om_10, om_20, om_f, gq, goE, hG, e1, hk, hf, if_true, if_false, tl]
       and_intros <;> first | exact True.intro | omega | (rfl; done) | (rw [il1, il3, List.take_of_length_le (by omega)]; done) | (rw [il2, il3, tk (by omega)]; done)
      ·by_cases hk : n2 % ((b.length : Int) + 1) = 0
       ·refine calls_of_yesV sound tab_ok specs_ok overs_ok c_y13 rfl (tellA_ok (allTold'_iff.1 ?_)) r0 hargs
        simp only [c_t13, om_0, om_10, om_20, om_f, gq, goE, hG, e1, hk, hf, if_true, if_false, tl]
        and_intros <;> first | exact True.intro | omega | (rfl; done) | (rw [il1, il3, List.take_of_length_le (by omega)]; done) | (rw [il2, il3, tk (by omega)]; done)
       ·refine calls_of_yesV sound tab_ok specs_ok overs_ok c_y14 rfl (tellA_ok (allTold'_iff.1 ?_)) r0 hargs
        simp only [c_t14, om_0, om_10, om_20, om_f, gq, goE, hG, e1, hk, hf, if_true, if_false, tl]
        and_intros <;> first | exact True.intro | omega | (rfl; done) | (rw [il1, il3, List.take_of_length_le (by omega)]; done) | (rw [il2, il3, tk (by omega)]; done)
     ·by_cases hb : b.length = 0
      ·have hb0 := List.eq_nil_of_length_eq_zero hb
       subst hb0
       have e1 : (a.length : Int) - a.length = 0 := by omega
       have hk : True := trivial
       refine calls_of_yesV sound tab_ok specs_ok overs_ok c_y15 rfl (tellA_ok (allTold'_iff.1 ?_)) r0 hargs
       simp only [c_t15, om_0, om_10, om_20, om_f, gq, goE, hG, e1, hk, hf, if_true, if_false, tl]
       and_intros <;> first | exact True.intro | omega | (rfl; done) | (rw [il1, il3, List.take_of_length_le (by omega)]; done) | (rw [il2, il3, tk (by omega)]; done)
      ·have e1 : ((a ++ b).length : Int) - a.length = b.length := by simp; omega
       have hk : True := trivial
       refine calls_of_yesV sound tab_ok specs_ok overs_ok c_y16 rfl (tellA_ok (allTold'_iff.1 ?_)) r0 hargs
       simp only [c_t16, om_0, om_10, om_20, om_f, gq, goE, hG, e1, hk, hf, if_true, if_false, tl]
       and_intros <;> first | exact True.intro | omega | (rfl; done) | (rw [il1, il3, List.take_of_length_le (by omega)]; done) | (rw [il2, il3, tk (by omega)]; done)

theorem underI3 : Try.prog.underlying 3 = some (.int .i64) := by kernel_rfl
theorem shape59 : (Sh.sl (.agg [.sl (.int .u8), .bool])).is Try.prog 59 = true := by kernel_rfl

set_option maxRecDepth 100000 in
theorem lifted (os : Os) (started : os.Started) (H : Type) (enc : TypeId × Value → H) :
  ReturnsInHanded {} Try.checked os 5 .any (Rows.diskKeepsSpec.pre6 enc Try.prog Try.f5 Rows.diskKeepsRow.domain false) (Rows.diskKeepsSpec.post enc Try.prog Try.f5 false true false false) := by
 refine returnsInHanded_of_change_sized (C := Try.checked) own started (by kernel_rfl) Try.func5
  (ChangeSpec.witness6 (enc := enc) (C := Try.checked) false ⟨#[], #[.slice none 0 0, .int .i64 0, .int .i64 0], []⟩ 8 (by kernel_rfl) (by kernel_rfl) (by kernel_rfl) (by kernel_rfl)) ?_
 intro W base args ds gs before hval0 hW hcnd hZ _
 have hval : ∀ (j : Nat) t v, Try.f5.params[j]? = some t → args[j]? = some v → Value.okWide Try.prog W .any base t v := hval0
 have hW' := hW
 have hlt := hW.lt
 obtain ⟨p, q, hA0, hV, rfl, hfz, hnd⟩ := hW
 have hA : DataW.TrodAll enc Try.prog W 0 (fun _ => true) true Try.f5.params.toList args.toList ds p := hA0
 have hAll := hA
 rw [Try.params5] at hA hval hAll hZ
 obtain ⟨rfl, rfl⟩ := trodVars_none hV
 obtain ⟨pv0, pv1, pv2, d0, d1, d2, p0, p1, p2, rfl, rfl, rfl, h0, h1, h2⟩ := trodAll_three hA
 obtain ⟨dv0, hv0, hl0⟩ := in_val (s := .agg [.sl (.int .u8), .bool]) shape59 (hval 0 59 _ rfl rfl) h0 (weighed hZ (j := 0) rfl rfl)
 obtain ⟨n1, rfl, rfl, rfl, wn1⟩ := open_int underI3 (hval 1 3 _ rfl rfl) h1
 have wn1 := wf_inK wn1
 obtain ⟨n2, rfl, rfl, rfl, wn2⟩ := open_int underI3 (hval 2 3 _ rfl rfl) h2
 have wn2 := wf_inK wn2
 clear hA0 hval0
 have hcall : Calls Try.prog 5 #[pv0, .int .i64 n1, .int .i64 n2] W fun e w' => e = .returned (.bool true) ∧ Below W.heap.size W w' := by
  exact c_walk hv0 hl0 wn1 wn2 (globs0 _ W)
 refine hcall.mono fun e W' ⟨he, hg⟩ => ?_
 subst he
 exact ⟨_, rfl, _, [], _, [], _, [], hW', trodAll_cons_mk (shut_bool Try.underlying4 _) trodAll_mk0, trodAll_stays laid hg _ _ _ _ hAll (fun x hx => hlt x (by simpa using hx)) (by kernel_rfl), rfl, hg.frame _, fun h => by cases h⟩

theorem over : Rows.diskKeepsRow.holds Try.pinned (OpenSpec.ofChange Rows.diskKeepsSpec) :=
 OpenClaim.holds_of_wide 5 Try.f5 rfl rfl rfl rfl rfl rfl rfl ⟨rfl, rfl, rfl, rfl, rfl⟩ rfl rfl rfl rfl rfl (by kernel_rfl) Try.func5 (by kernel_rfl)
  (of_decide_eq_true (by kernel_rfl)) (by unfold Func.isWrapper; first | (rw [if_pos (by decide +kernel)]; kernel_rfl) | (rw [if_neg (by decide +kernel)]; exact ⟨rfl, rfl⟩))
  (fun os started H enc _ => lifted os started H enc)

theorem proved : Rows.DiskKeepsSaid :=
 over
#print axioms proved
end Go.Proofs.Ytmlocknojpmfpaa.diskKeeps
