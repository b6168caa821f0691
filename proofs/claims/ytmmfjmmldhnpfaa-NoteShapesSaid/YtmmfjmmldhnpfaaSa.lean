/-
 Contracts of this seat: what loops and calls leave, for all inputs. No condition.
-/
import Derived.Test.YtmmfjmmldhnpfaaSycp
import Derived.Test.YtmmfjmmldhnpfaaCo
set_option linter.unusedSimpArgs false
set_option linter.unusedVariables false
namespace Go.Proofs.Ytmmfjmmldhnpfaa.Sa
open Go.RowKit Go.Ev Go.Proofs.Ytmmfjmmldhnpfaa.Co

def pr2 (a b : Int) : D := .list [.int a, .int b]
abbrev txSa0 : E := (.bi .snoc (.lits []) (.lits [112, 97, 114, 116]))
abbrev txSa1 : E := (.bi .snoc (.lits []) (.lits [104, 97, 118, 101]))
abbrev txSa2 : E := (.bi .snoc (.lits []) (.lits [102, 97, 105, 108]))
abbrev txSa3 : E := (.bi .pair (.var 2) (.bi .pair (.var 0) (.int 0)))
abbrev txSa4 : E := (.bi .pair (.var 5) (.bi .pair (.var 2) (.int 0)))
abbrev txSa5 : E := (.bi .snoc (.lits []) (.lits [103, 105, 118, 101]))
abbrev txSa6 : E := (.bi .snoc (.lits []) (.lits [108, 105, 115, 116]))
abbrev txSa7 : E := (.bi .snoc (.lits []) (.lits [109, 111, 114, 101]))
abbrev txSa8 : E := (.bi .snoc (.lits []) (.lits [112, 105, 110, 103]))
abbrev txSa9 : E := (.bi .snoc (.lits []) (.lits [116, 111, 111, 107]))
abbrev txSa10 : E := (.bi .snoc (.lits []) (.lits [100, 111, 110, 101]))
abbrev zSa12 : E := (.bi .snoc (.lits []) (.int 0))
abbrev txSa11 : E := (.bi .snoc zSa12 (.int 0))
abbrev txSa12 : E := (.bi .snoc (.bi .snoc (.lits []) (.int 3)) (.int 3))
abbrev zSa8 : E := (.bi .snoc (.lits []) (.int 1))
abbrev txSa13 : E := (.bi .snoc zSa8 (.int 1))
abbrev txSa14 : E := (.bi .snoc (.bi .snoc (.lits []) (.int 2)) (.int 2))
abbrev txSa15 : E := (.bi .snoc zSa8 (.int 16))
abbrev txSa16 : E := (.bi .snoc (.lits []) (.lits [97, 98, 111, 114, 116]))
abbrev txSa17 : E := (.bi .snoc zSa12 (.int 128))
abbrev txSa18 : E := (.bi .snoc (.lits []) (.lits [98, 101, 103, 105, 110]))
abbrev txSa19 : E := (.bi .snoc zSa8 (.int 1000))
abbrev txSa20 : E := (.bi .snoc zSa8 (.int 1024))
abbrev txSa21 : E := (.bi .snoc (.lits []) (.lits [102, 101, 116, 99, 104]))
abbrev txSa22 : E := (.bi .snoc (.lits []) (.lits [117, 115, 97, 103, 101]))
abbrev txSa23 : E := (.bi .snoc (.lits []) (.lits [114, 101, 97, 100, 121]))
abbrev txSa24 : E := (.bi .snoc (.lits []) (.lits [115, 110, 97, 112, 115]))
abbrev txSa25 : E := (.bi .snoc (.lits []) (.lits [112, 105, 101, 99, 101]))
abbrev txSa26 : E := (.bi .snoc zSa12 (.int 1000))
abbrev txSa27 : E := (.bi .snoc (.lits []) (.lits [99, 104, 117, 110, 107]))
abbrev txSa28 : E := (.bi .snoc (.lits []) (.lits [99, 111, 117, 110, 116]))
abbrev txSa29 : E := (.bi .snoc (.lits []) (.lits [113, 117, 101, 114, 121]))
abbrev txSa30 : E := (.bi .snoc (.lits []) (.lits [112, 114, 117, 110, 101]))
abbrev txSa31 : E := (.bi .snoc (.lits []) (.lits [99, 111, 109, 109, 105, 116]))
abbrev txSa32 : E := (.bi .snoc (.lits []) (.lits [118, 101, 114, 105, 102, 121]))
abbrev txSa33 : E := (.bi .snoc (.lits []) (.lits [102, 111, 114, 103, 101, 116]))
abbrev txSa34 : E := (.bi .pair (.un .len (.var 6)) (.bi .pair (.var 2) (.int 0)))
abbrev txSa35 : E := (.bi .snoc (.lits []) (.lits [114, 101, 115, 116, 111, 114, 101]))
abbrev zSa1 : E := (.fn 30 (.bi .pair (.var 0) (.int 0)))
abbrev txSa36 : E := (.bi .sel (.fn 31 (.int 0)) zSa1)
abbrev txSa37 : E := (.bi .pair (.var 1) (.bi .pair (.int 0) txSa4))
abbrev txSa38 : E := (.bi .pair (.var 1) (.bi .pair (.var 3) txSa4))
abbrev txSa39 : E := (.bi .snoc (.bi .snoc (.lits []) (.lits [])) txSa11)
abbrev txSa40 : E := (.bi .sel (.bi .sel txSa36 (.int 1)) (.int 0))
abbrev txSa41 : E := (.bi .sel (.bi .sel txSa36 (.int 1)) (.int 1))
abbrev txSa42 : E := (.bi .sel (.bi .sel txSa36 (.int 2)) (.int 0))
abbrev txSa43 : E := (.bi .sel (.bi .sel txSa36 (.int 2)) (.int 1))
abbrev txSa44 : E := (.bi .sel (.bi .sel txSa36 (.int 3)) (.int 0))
abbrev txSa45 : E := (.bi .sel (.bi .sel txSa36 (.int 3)) (.int 1))
abbrev txSa46 : E := (.bi .pair (.un .len (.var 2)) (.bi .pair (.un .len (.var 4)) txSa34))
abbrev txSa47 : E := (.bi .snoc (.bi .snoc txSa10 txSa13) txSa11)
abbrev txSa48 : E := (.bi .snoc (.bi .snoc txSa16 txSa11) txSa11)
abbrev txSa49 : E := (.bi .snoc (.bi .snoc txSa18 txSa12) txSa11)
abbrev txSa50 : E := (.bi .snoc (.bi .snoc txSa22 txSa11) txSa11)
abbrev txSa51 : E := (.bi .snoc (.bi .snoc txSa23 txSa13) txSa11)
abbrev txSa52 : E := (.bi .snoc (.bi .snoc txSa25 txSa14) txSa11)
abbrev txSa53 : E := (.bi .snoc (.bi .snoc txSa27 txSa11) txSa13)
abbrev txSa54 : E := (.bi .snoc (.bi .snoc txSa28 txSa14) txSa11)
abbrev txSa55 : E := (.bi .snoc (.bi .snoc txSa21 txSa11) txSa15)
abbrev txSa56 : E := (.bi .snoc (.bi .snoc txSa30 txSa11) txSa11)
abbrev txSa57 : E := (.bi .snoc (.bi .snoc txSa29 txSa11) txSa15)
abbrev txSa58 : E := (.bi .snoc (.bi .snoc txSa24 txSa17) txSa11)
abbrev txSa59 : E := (.bi .snoc (.bi .snoc txSa31 txSa11) txSa11)
abbrev txSa60 : E := (.bi .snoc (.bi .snoc txSa32 txSa13) txSa11)
abbrev txSa61 : E := (.bi .snoc (.bi .snoc txSa33 txSa13) txSa11)
abbrev txSa62 : E := (.bi .snoc (.bi .snoc txSa35 txSa13) txSa11)
abbrev txSa63 : E := (.bi .snoc (.bi .snoc txSa39 txSa11) txSa11)
abbrev txSa64 : E := (.bi .snoc (.bi .snoc (.bi .snoc txSa2 txSa14) txSa11) txSa11)
abbrev txSa65 : E := (.bi .snoc (.bi .snoc (.bi .snoc txSa6 txSa11) txSa11) txSa11)
abbrev txSa66 : E := (.bi .snoc (.bi .snoc (.bi .snoc txSa7 txSa13) txSa11) txSa11)
abbrev txSa67 : E := (.bi .snoc (.bi .snoc (.bi .snoc txSa8 txSa13) txSa11) txSa11)
abbrev txSa68 : E := (.bi .snoc (.bi .snoc (.bi .snoc txSa1 txSa15) txSa11) txSa11)
abbrev txSa69 : E := (.bi .snoc (.bi .snoc (.bi .snoc txSa9 txSa11) txSa13) txSa11)
abbrev txSa70 : E := (.bi .snoc (.bi .snoc (.bi .snoc txSa0 txSa13) txSa11) txSa19)
abbrev txSa71 : E := (.bi .snoc (.bi .snoc (.bi .snoc txSa5 txSa11) txSa13) txSa20)
abbrev txSa72 : E := (.bi .snoc (.bi .snoc (.lits []) txSa63) (.bi .snoc txSa49 txSa11))
abbrev txSa73 : E := (.bi .snoc (.bi .snoc txSa72 txSa70) (.bi .snoc txSa57 txSa11))
abbrev txSa74 : E := (.bi .snoc (.bi .snoc txSa73 txSa71) (.bi .snoc txSa59 txSa11))
abbrev txSa75 : E := (.bi .snoc txSa74 (.bi .snoc txSa48 txSa11))
abbrev txSa76 : E := (.bi .snoc (.bi .snoc txSa75 txSa65) (.bi .snoc txSa62 txSa11))
abbrev txSa77 : E := (.bi .snoc (.bi .snoc txSa76 txSa66) (.bi .snoc txSa55 txSa11))
abbrev txSa78 : E := (.bi .snoc txSa77 (.bi .snoc txSa60 txSa11))
abbrev txSa79 : E := (.bi .snoc txSa78 (.bi .snoc txSa61 txSa11))
abbrev txSa80 : E := (.bi .snoc txSa79 (.bi .snoc txSa56 txSa11))
abbrev txSa81 : E := (.bi .snoc txSa80 (.bi .snoc txSa50 txSa11))
abbrev txSa82 : E := (.bi .snoc (.bi .snoc txSa81 txSa67) (.bi .snoc txSa51 txSa11))
abbrev txSa83 : E := (.bi .snoc (.bi .snoc txSa82 txSa68) txSa69)
abbrev txSa84 : E := (.bi .snoc txSa83 (.bi .snoc txSa47 txSa11))
abbrev txSa85 : E := (.bi .snoc (.bi .snoc txSa84 txSa64) (.bi .snoc txSa58 txSa11))
abbrev zSa0 : Duty := (false, (.un .code (.bi .snoc (.bi .snoc (.bi .snoc txSa85 (.bi .snoc txSa52 txSa26)) (.bi .snoc txSa53 txSa20)) (.bi .snoc txSa54 txSa11))), (.un .code (.fn 31 (.int 0))))
abbrev zSa6 : E := (.fn 32 (.bi .pair (.var 0) txSa46))
abbrev zSa2 : Duty := (true, (.int 5), zSa6)
abbrev zSa7 : E := (.fn 32 (.bi .pair (.var 0) txSa38))
abbrev zSa3 : Duty := (true, (.int 5), zSa7)
abbrev zSa4 : E := (.fn 32 (.bi .pair (.var 0) txSa37))
abbrev zSa5 : E := (.bi .add (.var 0) (.int 1))
abbrev zSa9 : Nat × RW := (3, .eseq ⟨.i64, .var 1, .var 2⟩)
abbrev zSa10 : E := (.bi .sel (.var 2) (.var 0))
abbrev zSa11 : E := (.fn 33 (.bi .pair (.var 2) (.bi .pair (.int 0) (.int 0))))
def tabL : List D := [.list [D.ofInts [], pr2 0 0, pr2 0 0, pr2 0 0], .list [D.ofInts [98, 101, 103, 105, 110], pr2 3 3, pr2 0 0, pr2 0 0], .list [D.ofInts [112, 97, 114, 116], pr2 1 1, pr2 0 0, pr2 1 1000], .list [D.ofInts [113, 117, 101, 114, 121], pr2 0 0, pr2 1 16, pr2 0 0], .list [D.ofInts [103, 105, 118, 101], pr2 0 0, pr2 1 1, pr2 1 1024], .list [D.ofInts [99, 111, 109, 109, 105, 116], pr2 0 0, pr2 0 0, pr2 0 0], .list [D.ofInts [97, 98, 111, 114, 116], pr2 0 0, pr2 0 0, pr2 0 0], .list [D.ofInts [108, 105, 115, 116], pr2 0 0, pr2 0 0, pr2 0 0], .list [D.ofInts [114, 101, 115, 116, 111, 114, 101], pr2 1 1, pr2 0 0, pr2 0 0], .list [D.ofInts [109, 111, 114, 101], pr2 1 1, pr2 0 0, pr2 0 0], .list [D.ofInts [102, 101, 116, 99, 104], pr2 0 0, pr2 1 16, pr2 0 0], .list [D.ofInts [118, 101, 114, 105, 102, 121], pr2 1 1, pr2 0 0, pr2 0 0], .list [D.ofInts [102, 111, 114, 103, 101, 116], pr2 1 1, pr2 0 0, pr2 0 0], .list [D.ofInts [112, 114, 117, 110, 101], pr2 0 0, pr2 0 0, pr2 0 0], .list [D.ofInts [117, 115, 97, 103, 101], pr2 0 0, pr2 0 0, pr2 0 0], .list [D.ofInts [112, 105, 110, 103], pr2 1 1, pr2 0 0, pr2 0 0], .list [D.ofInts [114, 101, 97, 100, 121], pr2 1 1, pr2 0 0, pr2 0 0], .list [D.ofInts [104, 97, 118, 101], pr2 1 16, pr2 0 0, pr2 0 0], .list [D.ofInts [116, 111, 111, 107], pr2 0 0, pr2 1 1, pr2 0 0], .list [D.ofInts [100, 111, 110, 101], pr2 1 1, pr2 0 0, pr2 0 0], .list [D.ofInts [102, 97, 105, 108], pr2 2 2, pr2 0 0, pr2 0 0], .list [D.ofInts [115, 110, 97, 112, 115], pr2 0 128, pr2 0 0, pr2 0 0], .list [D.ofInts [112, 105, 101, 99, 101], pr2 2 2, pr2 0 0, pr2 0 1000], .list [D.ofInts [99, 104, 117, 110, 107], pr2 0 0, pr2 1 1, pr2 1 1024], .list [D.ofInts [99, 111, 117, 110, 116], pr2 2 2, pr2 0 0, pr2 0 0]]
def rowI (k : Int) : D := tabL[k.toNat]?.getD (D.int 0)
def nameI (k : Int) : List Int := ((rowI k).toList[Int.toNat 0]?.getD (D.int 0)).ints
def lowI (k j : Int) : Int := ((rowI k).toList[Int.toNat j]?.getD (D.int 0)).ints[Int.toNat 0]?.getD 0
def topI (k j : Int) : Int := ((rowI k).toList[Int.toNat j]?.getD (D.int 0)).ints[Int.toNat 1]?.getD 0
def kindI (k : Int) : Int := if 1 ≤ k ∧ k ≤ 24 then k else 0
def fineL (x : List Int) : Bool := x.all fun c => decide (0 ≤ c ∧ c ≤ 2147483647)
def holdB (k j n : Int) : Bool := decide (lowI k j ≤ n ∧ n ≤ topI k j)
def wrongI (k n i b : Int) (x : List Int) : Int := if nameI (kindI k) = [] then 2 else if holdB (kindI k) 1 n && holdB (kindI k) 2 i && holdB (kindI k) 3 b then if fineL x then 0 else 5 else 5
def almostB (k n i b : Int) (x : List Int) (j : Int) : Bool := decide (nameI (kindI k) ≠ []) && decide (lowI (kindI k) 1 ≤ n ∧ n ≤ topI (kindI k) 1 + (if j = 1 then 1 else 0) ∧ lowI (kindI k) 2 ≤ i ∧ i ≤ topI (kindI k) 2 + (if j = 2 then 1 else 0) ∧ lowI (kindI k) 3 ≤ b ∧ b ≤ topI (kindI k) 3 + (if j = 3 then 1 else 0)) && fineL x
def lackI (k j : Int) (n : Nat) : Nat := (topI (kindI k) j + 1 - (n : Int)).toNat
def zeroD : D := D.ofInts (List.replicate 16 0)
def F : Nat → D → D
 | 30 => fun a => .int (kindI (argD a 0).toInt)
 | 31 => fun _ => .list tabL
 | 32 => fun a => .int (wrongI (argD a 0).toInt (argD a 1).toInt (argD a 2).toInt (argD a 3).toInt (argD a 4).ints)
 | 33 => fun a => .int (if fineL ((argD a 0).ints.drop (argD a 1).toInt.toNat) then 1 else 0)
 | 34 => fun a => .int (if almostB (argD a 0).toInt (argD a 1).toInt (argD a 2).toInt (argD a 3).toInt (argD a 4).ints (argD a 5).toInt then 1 else 0)
 | 35 => fun a => .int (topI (kindI (argD a 0).toInt) (argD a 1).toInt + 1)
 | 36 => fun a => D.ofInts ((argD a 2).ints ++ List.replicate (lackI (argD a 0).toInt (argD a 1).toInt (argD a 2).ints.length) 0)
 | 37 => fun a => .list ((argD a 1).toList ++ List.replicate (lackI (argD a 0).toInt 2 (argD a 1).toList.length) zeroD)
 | _ => fun x => x
theorem F31 (x : D) : F 31 x = .list tabL := rfl
theorem rowF (k : Int) : tabL[k.toNat]?.getD (D.int 0) = rowI k := rfl
theorem lowF (k j : Int) : ((rowI k).toList[Int.toNat j]?.getD (D.int 0)).ints[Int.toNat 0]?.getD 0 = lowI k j := rfl
theorem topF (k j : Int) : ((rowI k).toList[Int.toNat j]?.getD (D.int 0)).ints[Int.toNat 1]?.getD 0 = topI k j := rfl
theorem nameF (k : Int) : ((rowI k).toList[Int.toNat 0]?.getD (D.int 0)).ints = nameI k := rfl
theorem kind_in (k : Int) : 0 ≤ kindI k ∧ kindI k < 25 := by
 unfold kindI
 split <;> omega
theorem tab_all : ∀ k : Fin 25, 0 ≤ topI k 1 ∧ 0 ≤ topI k 2 ∧ 0 ≤ topI k 3 ∧ topI k 1 ≤ 128 ∧ topI k 2 ≤ 16 ∧ topI k 3 ≤ 1024 ∧ 0 ≤ lowI k 1 ∧ 0 ≤ lowI k 2 ∧ 0 ≤ lowI k 3 ∧ lowI k 2 ≤ 1 ∧ lowI k 3 ≤ 1 ∧ (topI k 1 ≤ 0 ∨ topI k 2 ≤ 0) ∧ (1 ≤ lowI k 1 ∨ 1 ≤ lowI k 2 ∨ topI k 3 ≤ 0) ∧ lowI k 1 ≤ topI k 1 ∧ lowI k 2 ≤ topI k 2 ∧ lowI k 3 ≤ topI k 3 := by decide +kernel
theorem tab_in {k : Int} (h : 0 ≤ k ∧ k < 25) : 0 ≤ topI k 1 ∧ 0 ≤ topI k 2 ∧ 0 ≤ topI k 3 ∧ topI k 1 ≤ 128 ∧ topI k 2 ≤ 16 ∧ topI k 3 ≤ 1024 ∧ 0 ≤ lowI k 1 ∧ 0 ≤ lowI k 2 ∧ 0 ≤ lowI k 3 ∧ lowI k 2 ≤ 1 ∧ lowI k 3 ≤ 1 ∧ (topI k 1 ≤ 0 ∨ topI k 2 ≤ 0) ∧ (1 ≤ lowI k 1 ∨ 1 ≤ lowI k 2 ∨ topI k 3 ≤ 0) ∧ lowI k 1 ≤ topI k 1 ∧ lowI k 2 ≤ topI k 2 ∧ lowI k 3 ≤ topI k 3 := by
 have := tab_all ⟨k.toNat, by omega⟩
 rw [show (((⟨k.toNat, by omega⟩ : Fin 25) : Nat) : Int) = k by simp; omega] at this
 exact this
theorem one_of {b : Prop} {h : Decidable b} (k : (@ite Int b h 1 0) = 1) : b := by
 by_cases g : b
 ·exact g
 ·rw [if_neg g] at k; omega
theorem one_to {b : Prop} {h : Decidable b} (k : b) : (@ite Int b h 1 0) = 1 := if_pos k
theorem not_to {b : Prop} {h : Decidable b} (k : ¬b) : ¬ (@ite Int b h 1 0) = 1 := by rw [if_neg k]; omega
theorem not_of {b : Prop} {h : Decidable b} (k : ¬ (@ite Int b h 1 0) = 1) : ¬b := fun g => k (if_pos g)
theorem F34 (k n i b x j : D) : F 34 (.list [k, .list [n, .list [i, .list [b, .list [x, .list [j, .int 0]]]]]]) = .int (if almostB k.toInt n.toInt i.toInt b.toInt x.ints j.toInt then 1 else 0) := rfl
theorem F35 (k j : D) : F 35 (.list [k, .list [j, .int 0]]) = .int (topI (kindI k.toInt) j.toInt + 1) := rfl
theorem F36 (k j x : D) : F 36 (.list [k, .list [j, .list [x, .int 0]]]) = D.ofInts (x.ints ++ List.replicate (lackI k.toInt j.toInt x.ints.length) 0) := rfl
theorem F37 (k y : D) : F 37 (.list [k, .list [y, .int 0]]) = .list (y.toList ++ List.replicate (lackI k.toInt 2 y.toList.length) zeroD) := rfl
theorem drop_z (x : List Int) : x.drop (Int.toNat 0) = x := rfl
theorem fine_nil : fineL [] = true := rfl
theorem fine_end {x : List Int} {i : Int} (h : (x.length : Int) ≤ i) : fineL (x.drop i.toNat) = true := by
 rw [List.drop_of_length_le (by omega)]; rfl
theorem fine_step {x : List Int} {i : Int} (h0 : 0 ≤ i) (h : i < x.length) : fineL (x.drop i.toNat) = (decide (0 ≤ x[i.toNat]?.getD 0 ∧ x[i.toNat]?.getD 0 ≤ 2147483647) && fineL (x.drop (i + 1).toNat)) := by
 have hl : i.toNat < x.length := by omega
 rw [List.drop_eq_getElem_cons hl, show (i + 1).toNat = i.toNat + 1 by omega, List.getElem?_eq_getElem hl]
 rfl
theorem F30 (k : D) : F 30 (.list [k, .int 0]) = .int (kindI k.toInt) := rfl
theorem F32 (k n i b x : D) : F 32 (.list [k, .list [n, .list [i, .list [b, .list [x, .int 0]]]]]) = .int (wrongI k.toInt n.toInt i.toInt b.toInt x.ints) := rfl
theorem F33 (x i : D) : F 33 (.list [x, .list [i, .int 0]]) = .int (if fineL (x.ints.drop i.toInt.toNat) then 1 else 0) := rfl

def shapeC : CSpec := { args := [.sint .i64 (.var 0)], next := 0, rows := [], pre := [], res := .vptr 1 7 zSa1 0, frows := [(1, .vseq ⟨92, (.agg [.str, .agg [.int .i64, .int .i64], .agg [.int .i64, .int .i64], .agg [.int .i64, .int .i64]]), .int 25, .fn 31 (.int 0), false⟩)], same := [] }
abbrev asSa0 : Q × Bool := ((.le (.int 0) (.var 0)), false)
def shapeC_t0 : List (Q × Bool) := [asSa0]
def shapeC_d0 : List Duty := [(true, (.int 0), zSa1), zSa0]
theorem shapeC_y0 : endC shapeC [(1, 9)] 1000 (callC Try.prog (tellA shapeC_t0) [] [] [] 3000 40 35 shapeC) = some shapeC_d0 := by kernel_rfl
abbrev asSa1 : Q × Bool := ((.le (.int 0) (.var 0)), true)
abbrev asSa2 : Q × Bool := ((.le (.int 25) (.var 0)), true)
def shapeC_t1 : List (Q × Bool) := [asSa1, asSa2]
def shapeC_d1 : List Duty := [(true, (.int 0), zSa1), zSa0]
theorem shapeC_y1 : endC shapeC [(1, 9)] 1000 (callC Try.prog (tellA shapeC_t1) [] [] [] 3000 40 35 shapeC) = some shapeC_d1 := by kernel_rfl
abbrev asSa3 : Q × Bool := ((.le (.int 25) (.var 0)), false)
abbrev asSa4 : Q × Bool := ((.eq (.var 0) (.int 0)), true)
def shapeC_t2 : List (Q × Bool) := [asSa1, asSa3, asSa4]
def shapeC_d2 : List Duty := [(true, (.int 0), zSa1), zSa0]
theorem shapeC_y2 : endC shapeC [(1, 9)] 1000 (callC Try.prog (tellA shapeC_t2) [] [] [] 3000 40 35 shapeC) = some shapeC_d2 := by kernel_rfl
abbrev asSa5 : Q × Bool := ((.eq (.var 0) (.int 0)), false)
abbrev asSa6 : Q × Bool := ((.eq (.var 0) (.int 1)), true)
def shapeC_t3 : List (Q × Bool) := [asSa1, asSa3, asSa5, asSa6]
def shapeC_d3 : List Duty := [(true, (.int 1), zSa1), zSa0]
theorem shapeC_y3 : endC shapeC [(1, 9)] 1000 (callC Try.prog (tellA shapeC_t3) [] [] [] 3000 40 35 shapeC) = some shapeC_d3 := by kernel_rfl
abbrev asSa7 : Q × Bool := ((.eq (.var 0) (.int 1)), false)
abbrev asSa8 : Q × Bool := ((.eq (.var 0) (.int 2)), true)
def shapeC_t4 : List (Q × Bool) := [asSa1, asSa3, asSa5, asSa7, asSa8]
def shapeC_d4 : List Duty := [(true, (.int 2), zSa1), zSa0]
theorem shapeC_y4 : endC shapeC [(1, 9)] 1000 (callC Try.prog (tellA shapeC_t4) [] [] [] 3000 40 35 shapeC) = some shapeC_d4 := by kernel_rfl
abbrev asSa9 : Q × Bool := ((.eq (.var 0) (.int 2)), false)
abbrev asSa10 : Q × Bool := ((.eq (.var 0) (.int 3)), true)
def shapeC_t5 : List (Q × Bool) := [asSa1, asSa3, asSa5, asSa7, asSa9, asSa10]
def shapeC_d5 : List Duty := [(true, (.int 3), zSa1), zSa0]
theorem shapeC_y5 : endC shapeC [(1, 9)] 1000 (callC Try.prog (tellA shapeC_t5) [] [] [] 3000 40 35 shapeC) = some shapeC_d5 := by kernel_rfl
abbrev asSa11 : Q × Bool := ((.eq (.var 0) (.int 3)), false)
abbrev asSa12 : Q × Bool := ((.eq (.var 0) (.int 4)), true)
def shapeC_t6 : List (Q × Bool) := [asSa1, asSa3, asSa5, asSa7, asSa9, asSa11, asSa12]
def shapeC_d6 : List Duty := [(true, (.int 4), zSa1), zSa0]
theorem shapeC_y6 : endC shapeC [(1, 9)] 1000 (callC Try.prog (tellA shapeC_t6) [] [] [] 3000 40 35 shapeC) = some shapeC_d6 := by kernel_rfl
abbrev asSa13 : Q × Bool := ((.eq (.var 0) (.int 4)), false)
abbrev asSa14 : Q × Bool := ((.eq (.var 0) (.int 5)), true)
def shapeC_t7 : List (Q × Bool) := [asSa1, asSa3, asSa5, asSa7, asSa9, asSa11, asSa13, asSa14]
def shapeC_d7 : List Duty := [(true, (.int 5), zSa1), zSa0]
theorem shapeC_y7 : endC shapeC [(1, 9)] 1000 (callC Try.prog (tellA shapeC_t7) [] [] [] 3000 40 35 shapeC) = some shapeC_d7 := by kernel_rfl
abbrev asSa15 : Q × Bool := ((.eq (.var 0) (.int 5)), false)
abbrev asSa16 : Q × Bool := ((.eq (.var 0) (.int 6)), true)
def shapeC_t8 : List (Q × Bool) := [asSa1, asSa3, asSa5, asSa7, asSa9, asSa11, asSa13, asSa15, asSa16]
def shapeC_d8 : List Duty := [(true, (.int 6), zSa1), zSa0]
theorem shapeC_y8 : endC shapeC [(1, 9)] 1000 (callC Try.prog (tellA shapeC_t8) [] [] [] 3000 40 35 shapeC) = some shapeC_d8 := by kernel_rfl
abbrev asSa17 : Q × Bool := ((.eq (.var 0) (.int 6)), false)
abbrev asSa18 : Q × Bool := ((.eq (.var 0) (.int 7)), true)
def shapeC_t9 : List (Q × Bool) := [asSa1, asSa3, asSa5, asSa7, asSa9, asSa11, asSa13, asSa15, asSa17, asSa18]
def shapeC_d9 : List Duty := [(true, (.int 7), zSa1), zSa0]
theorem shapeC_y9 : endC shapeC [(1, 9)] 1000 (callC Try.prog (tellA shapeC_t9) [] [] [] 3000 40 35 shapeC) = some shapeC_d9 := by kernel_rfl
abbrev asSa19 : Q × Bool := ((.eq (.var 0) (.int 7)), false)
abbrev asSa20 : Q × Bool := ((.eq (.var 0) (.int 8)), true)
def shapeC_t10 : List (Q × Bool) := [asSa1, asSa3, asSa5, asSa7, asSa9, asSa11, asSa13, asSa15, asSa17, asSa19, asSa20]
def shapeC_d10 : List Duty := [(true, (.int 8), zSa1), zSa0]
theorem shapeC_y10 : endC shapeC [(1, 9)] 1000 (callC Try.prog (tellA shapeC_t10) [] [] [] 3000 40 35 shapeC) = some shapeC_d10 := by kernel_rfl
abbrev asSa21 : Q × Bool := ((.eq (.var 0) (.int 8)), false)
abbrev asSa22 : Q × Bool := ((.eq (.var 0) (.int 9)), true)
def shapeC_t11 : List (Q × Bool) := [asSa1, asSa3, asSa5, asSa7, asSa9, asSa11, asSa13, asSa15, asSa17, asSa19, asSa21, asSa22]
def shapeC_d11 : List Duty := [(true, (.int 9), zSa1), zSa0]
theorem shapeC_y11 : endC shapeC [(1, 9)] 1000 (callC Try.prog (tellA shapeC_t11) [] [] [] 3000 40 35 shapeC) = some shapeC_d11 := by kernel_rfl
abbrev asSa23 : Q × Bool := ((.eq (.var 0) (.int 9)), false)
abbrev asSa24 : Q × Bool := ((.eq (.var 0) (.int 10)), true)
def shapeC_t12 : List (Q × Bool) := [asSa1, asSa3, asSa5, asSa7, asSa9, asSa11, asSa13, asSa15, asSa17, asSa19, asSa21, asSa23, asSa24]
def shapeC_d12 : List Duty := [(true, (.int 10), zSa1), zSa0]
theorem shapeC_y12 : endC shapeC [(1, 9)] 1000 (callC Try.prog (tellA shapeC_t12) [] [] [] 3000 40 35 shapeC) = some shapeC_d12 := by kernel_rfl
abbrev asSa25 : Q × Bool := ((.eq (.var 0) (.int 10)), false)
abbrev asSa26 : Q × Bool := ((.eq (.var 0) (.int 11)), true)
def shapeC_t13 : List (Q × Bool) := [asSa1, asSa3, asSa5, asSa7, asSa9, asSa11, asSa13, asSa15, asSa17, asSa19, asSa21, asSa23, asSa25, asSa26]
def shapeC_d13 : List Duty := [(true, (.int 11), zSa1), zSa0]
theorem shapeC_y13 : endC shapeC [(1, 9)] 1000 (callC Try.prog (tellA shapeC_t13) [] [] [] 3000 40 35 shapeC) = some shapeC_d13 := by kernel_rfl
abbrev asSa27 : Q × Bool := ((.eq (.var 0) (.int 11)), false)
abbrev asSa28 : Q × Bool := ((.eq (.var 0) (.int 12)), true)
def shapeC_t14 : List (Q × Bool) := [asSa1, asSa3, asSa5, asSa7, asSa9, asSa11, asSa13, asSa15, asSa17, asSa19, asSa21, asSa23, asSa25, asSa27, asSa28]
def shapeC_d14 : List Duty := [(true, (.int 12), zSa1), zSa0]
theorem shapeC_y14 : endC shapeC [(1, 9)] 1000 (callC Try.prog (tellA shapeC_t14) [] [] [] 3000 40 35 shapeC) = some shapeC_d14 := by kernel_rfl
abbrev asSa29 : Q × Bool := ((.eq (.var 0) (.int 12)), false)
abbrev asSa30 : Q × Bool := ((.eq (.var 0) (.int 13)), true)
def shapeC_t15 : List (Q × Bool) := [asSa1, asSa3, asSa5, asSa7, asSa9, asSa11, asSa13, asSa15, asSa17, asSa19, asSa21, asSa23, asSa25, asSa27, asSa29, asSa30]
def shapeC_d15 : List Duty := [(true, (.int 13), zSa1), zSa0]
theorem shapeC_y15 : endC shapeC [(1, 9)] 1000 (callC Try.prog (tellA shapeC_t15) [] [] [] 3000 40 35 shapeC) = some shapeC_d15 := by kernel_rfl
abbrev asSa31 : Q × Bool := ((.eq (.var 0) (.int 13)), false)
abbrev asSa32 : Q × Bool := ((.eq (.var 0) (.int 14)), true)
def shapeC_t16 : List (Q × Bool) := [asSa1, asSa3, asSa5, asSa7, asSa9, asSa11, asSa13, asSa15, asSa17, asSa19, asSa21, asSa23, asSa25, asSa27, asSa29, asSa31, asSa32]
def shapeC_d16 : List Duty := [(true, (.int 14), zSa1), zSa0]
theorem shapeC_y16 : endC shapeC [(1, 9)] 1000 (callC Try.prog (tellA shapeC_t16) [] [] [] 3000 40 35 shapeC) = some shapeC_d16 := by kernel_rfl
abbrev asSa33 : Q × Bool := ((.eq (.var 0) (.int 14)), false)
abbrev asSa34 : Q × Bool := ((.eq (.var 0) (.int 15)), true)
def shapeC_t17 : List (Q × Bool) := [asSa1, asSa3, asSa5, asSa7, asSa9, asSa11, asSa13, asSa15, asSa17, asSa19, asSa21, asSa23, asSa25, asSa27, asSa29, asSa31, asSa33, asSa34]
def shapeC_d17 : List Duty := [(true, (.int 15), zSa1), zSa0]
theorem shapeC_y17 : endC shapeC [(1, 9)] 1000 (callC Try.prog (tellA shapeC_t17) [] [] [] 3000 40 35 shapeC) = some shapeC_d17 := by kernel_rfl
abbrev asSa35 : Q × Bool := ((.eq (.var 0) (.int 15)), false)
abbrev asSa36 : Q × Bool := ((.eq (.var 0) (.int 16)), true)
def shapeC_t18 : List (Q × Bool) := [asSa1, asSa3, asSa5, asSa7, asSa9, asSa11, asSa13, asSa15, asSa17, asSa19, asSa21, asSa23, asSa25, asSa27, asSa29, asSa31, asSa33, asSa35, asSa36]
def shapeC_d18 : List Duty := [(true, (.int 16), zSa1), zSa0]
theorem shapeC_y18 : endC shapeC [(1, 9)] 1000 (callC Try.prog (tellA shapeC_t18) [] [] [] 3000 40 35 shapeC) = some shapeC_d18 := by kernel_rfl
abbrev asSa37 : Q × Bool := ((.eq (.var 0) (.int 16)), false)
abbrev asSa38 : Q × Bool := ((.eq (.var 0) (.int 17)), true)
def shapeC_t19 : List (Q × Bool) := [asSa1, asSa3, asSa5, asSa7, asSa9, asSa11, asSa13, asSa15, asSa17, asSa19, asSa21, asSa23, asSa25, asSa27, asSa29, asSa31, asSa33, asSa35, asSa37, asSa38]
def shapeC_d19 : List Duty := [(true, (.int 17), zSa1), zSa0]
theorem shapeC_y19 : endC shapeC [(1, 9)] 1000 (callC Try.prog (tellA shapeC_t19) [] [] [] 3000 40 35 shapeC) = some shapeC_d19 := by kernel_rfl
abbrev asSa39 : Q × Bool := ((.eq (.var 0) (.int 17)), false)
abbrev asSa40 : Q × Bool := ((.eq (.var 0) (.int 18)), true)
def shapeC_t20 : List (Q × Bool) := [asSa1, asSa3, asSa5, asSa7, asSa9, asSa11, asSa13, asSa15, asSa17, asSa19, asSa21, asSa23, asSa25, asSa27, asSa29, asSa31, asSa33, asSa35, asSa37, asSa39, asSa40]
def shapeC_d20 : List Duty := [(true, (.int 18), zSa1), zSa0]
theorem shapeC_y20 : endC shapeC [(1, 9)] 1000 (callC Try.prog (tellA shapeC_t20) [] [] [] 3000 40 35 shapeC) = some shapeC_d20 := by kernel_rfl
abbrev asSa41 : Q × Bool := ((.eq (.var 0) (.int 18)), false)
abbrev asSa42 : Q × Bool := ((.eq (.var 0) (.int 19)), true)
def shapeC_t21 : List (Q × Bool) := [asSa1, asSa3, asSa5, asSa7, asSa9, asSa11, asSa13, asSa15, asSa17, asSa19, asSa21, asSa23, asSa25, asSa27, asSa29, asSa31, asSa33, asSa35, asSa37, asSa39, asSa41, asSa42]
def shapeC_d21 : List Duty := [(true, (.int 19), zSa1), zSa0]
theorem shapeC_y21 : endC shapeC [(1, 9)] 1000 (callC Try.prog (tellA shapeC_t21) [] [] [] 3000 40 35 shapeC) = some shapeC_d21 := by kernel_rfl
abbrev asSa43 : Q × Bool := ((.eq (.var 0) (.int 19)), false)
abbrev asSa44 : Q × Bool := ((.eq (.var 0) (.int 20)), true)
def shapeC_t22 : List (Q × Bool) := [asSa1, asSa3, asSa5, asSa7, asSa9, asSa11, asSa13, asSa15, asSa17, asSa19, asSa21, asSa23, asSa25, asSa27, asSa29, asSa31, asSa33, asSa35, asSa37, asSa39, asSa41, asSa43, asSa44]
def shapeC_d22 : List Duty := [(true, (.int 20), zSa1), zSa0]
theorem shapeC_y22 : endC shapeC [(1, 9)] 1000 (callC Try.prog (tellA shapeC_t22) [] [] [] 3000 40 35 shapeC) = some shapeC_d22 := by kernel_rfl
abbrev asSa45 : Q × Bool := ((.eq (.var 0) (.int 20)), false)
abbrev asSa46 : Q × Bool := ((.eq (.var 0) (.int 21)), true)
def shapeC_t23 : List (Q × Bool) := [asSa1, asSa3, asSa5, asSa7, asSa9, asSa11, asSa13, asSa15, asSa17, asSa19, asSa21, asSa23, asSa25, asSa27, asSa29, asSa31, asSa33, asSa35, asSa37, asSa39, asSa41, asSa43, asSa45, asSa46]
def shapeC_d23 : List Duty := [(true, (.int 21), zSa1), zSa0]
theorem shapeC_y23 : endC shapeC [(1, 9)] 1000 (callC Try.prog (tellA shapeC_t23) [] [] [] 3000 40 35 shapeC) = some shapeC_d23 := by kernel_rfl
abbrev asSa47 : Q × Bool := ((.eq (.var 0) (.int 21)), false)
abbrev asSa48 : Q × Bool := ((.eq (.var 0) (.int 22)), true)
def shapeC_t24 : List (Q × Bool) := [asSa1, asSa3, asSa5, asSa7, asSa9, asSa11, asSa13, asSa15, asSa17, asSa19, asSa21, asSa23, asSa25, asSa27, asSa29, asSa31, asSa33, asSa35, asSa37, asSa39, asSa41, asSa43, asSa45, asSa47, asSa48]
def shapeC_d24 : List Duty := [(true, (.int 22), zSa1), zSa0]
theorem shapeC_y24 : endC shapeC [(1, 9)] 1000 (callC Try.prog (tellA shapeC_t24) [] [] [] 3000 40 35 shapeC) = some shapeC_d24 := by kernel_rfl
abbrev asSa49 : Q × Bool := ((.eq (.var 0) (.int 22)), false)
abbrev asSa50 : Q × Bool := ((.eq (.var 0) (.int 23)), true)
def shapeC_t25 : List (Q × Bool) := [asSa1, asSa3, asSa5, asSa7, asSa9, asSa11, asSa13, asSa15, asSa17, asSa19, asSa21, asSa23, asSa25, asSa27, asSa29, asSa31, asSa33, asSa35, asSa37, asSa39, asSa41, asSa43, asSa45, asSa47, asSa49, asSa50]
def shapeC_d25 : List Duty := [(true, (.int 23), zSa1), zSa0]
theorem shapeC_y25 : endC shapeC [(1, 9)] 1000 (callC Try.prog (tellA shapeC_t25) [] [] [] 3000 40 35 shapeC) = some shapeC_d25 := by kernel_rfl
abbrev asSa51 : Q × Bool := ((.eq (.var 0) (.int 23)), false)
abbrev asSa52 : Q × Bool := ((.eq (.var 0) (.int 24)), true)
def shapeC_t26 : List (Q × Bool) := [asSa1, asSa3, asSa5, asSa7, asSa9, asSa11, asSa13, asSa15, asSa17, asSa19, asSa21, asSa23, asSa25, asSa27, asSa29, asSa31, asSa33, asSa35, asSa37, asSa39, asSa41, asSa43, asSa45, asSa47, asSa49, asSa51, asSa52]
def shapeC_d26 : List Duty := [(true, (.int 24), zSa1), zSa0]
theorem shapeC_y26 : endC shapeC [(1, 9)] 1000 (callC Try.prog (tellA shapeC_t26) [] [] [] 3000 40 35 shapeC) = some shapeC_d26 := by kernel_rfl
theorem shapeC_holds : CHolds Try.prog 35 shapeC F := by
 refine cholds_of sound (tableNil _ _) (specsNil _ _) (oversNil _ _) (fuel := 3000) (depth := 40) (by kernel_rfl) fun d hp hR hA => ?_
 have hp := allTold'_iff.2 hp
 simp only [shapeC, tl] at hp hR hA
 have tabE : ((shapeC_d0.getD 1 (true, .int 0, .int 0)).2.1).s ⟨fun _ => .bool false, d, F⟩ = ((shapeC_d0.getD 1 (true, .int 0, .int 0)).2.2).s ⟨fun _ => .bool false, d, F⟩ := by kernel_rfl
 by_cases h0 : 0 ≤ (d 0).toInt
 ·by_cases h1 : 25 ≤ (d 0).toInt
  ·refine ⟨tellA shapeC_t1, _, _, _, tellA_ok (allTold'_iff.1 ?_), shapeC_y1, dutiesTold_ok ?_⟩
   ·simp only [shapeC_t1, tl]
    omega
   ·exact ⟨by show (0 : Int) = kindI (d 0).toInt; unfold kindI; rw [if_neg (by omega)], tabE, True.intro⟩
  ·have hc : (d 0).toInt = 0 ∨ (d 0).toInt = 1 ∨ (d 0).toInt = 2 ∨ (d 0).toInt = 3 ∨ (d 0).toInt = 4 ∨ (d 0).toInt = 5 ∨ (d 0).toInt = 6 ∨ (d 0).toInt = 7 ∨ (d 0).toInt = 8 ∨ (d 0).toInt = 9 ∨ (d 0).toInt = 10 ∨ (d 0).toInt = 11 ∨ (d 0).toInt = 12 ∨ (d 0).toInt = 13 ∨ (d 0).toInt = 14 ∨ (d 0).toInt = 15 ∨ (d 0).toInt = 16 ∨ (d 0).toInt = 17 ∨ (d 0).toInt = 18 ∨ (d 0).toInt = 19 ∨ (d 0).toInt = 20 ∨ (d 0).toInt = 21 ∨ (d 0).toInt = 22 ∨ (d 0).toInt = 23 ∨ (d 0).toInt = 24 := by omega
   rcases hc with h | h | h | h | h | h | h | h | h | h | h | h | h | h | h | h | h | h | h | h | h | h | h | h | h
   ·refine ⟨tellA shapeC_t2, _, _, _, tellA_ok (allTold'_iff.1 ?_), shapeC_y2, dutiesTold_ok ?_⟩
    ·simp only [shapeC_t2, tl]
     omega
    ·exact ⟨by show (0 : Int) = kindI (d 0).toInt; rw [h]; rfl, tabE, True.intro⟩
   ·refine ⟨tellA shapeC_t3, _, _, _, tellA_ok (allTold'_iff.1 ?_), shapeC_y3, dutiesTold_ok ?_⟩
    ·simp only [shapeC_t3, tl]
     omega
    ·exact ⟨by show (1 : Int) = kindI (d 0).toInt; rw [h]; rfl, tabE, True.intro⟩
   ·refine ⟨tellA shapeC_t4, _, _, _, tellA_ok (allTold'_iff.1 ?_), shapeC_y4, dutiesTold_ok ?_⟩
    ·simp only [shapeC_t4, tl]
     omega
    ·exact ⟨by show (2 : Int) = kindI (d 0).toInt; rw [h]; rfl, tabE, True.intro⟩
   ·refine ⟨tellA shapeC_t5, _, _, _, tellA_ok (allTold'_iff.1 ?_), shapeC_y5, dutiesTold_ok ?_⟩
    ·simp only [shapeC_t5, tl]
     omega
    ·exact ⟨by show (3 : Int) = kindI (d 0).toInt; rw [h]; rfl, tabE, True.intro⟩
   ·refine ⟨tellA shapeC_t6, _, _, _, tellA_ok (allTold'_iff.1 ?_), shapeC_y6, dutiesTold_ok ?_⟩
    ·simp only [shapeC_t6, tl]
     omega
    ·exact ⟨by show (4 : Int) = kindI (d 0).toInt; rw [h]; rfl, tabE, True.intro⟩
   ·refine ⟨tellA shapeC_t7, _, _, _, tellA_ok (allTold'_iff.1 ?_), shapeC_y7, dutiesTold_ok ?_⟩
    ·simp only [shapeC_t7, tl]
     omega
    ·exact ⟨by show (5 : Int) = kindI (d 0).toInt; rw [h]; rfl, tabE, True.intro⟩
   ·refine ⟨tellA shapeC_t8, _, _, _, tellA_ok (allTold'_iff.1 ?_), shapeC_y8, dutiesTold_ok ?_⟩
    ·simp only [shapeC_t8, tl]
     omega
    ·exact ⟨by show (6 : Int) = kindI (d 0).toInt; rw [h]; rfl, tabE, True.intro⟩
   ·refine ⟨tellA shapeC_t9, _, _, _, tellA_ok (allTold'_iff.1 ?_), shapeC_y9, dutiesTold_ok ?_⟩
    ·simp only [shapeC_t9, tl]
     omega
    ·exact ⟨by show (7 : Int) = kindI (d 0).toInt; rw [h]; rfl, tabE, True.intro⟩
   ·refine ⟨tellA shapeC_t10, _, _, _, tellA_ok (allTold'_iff.1 ?_), shapeC_y10, dutiesTold_ok ?_⟩
    ·simp only [shapeC_t10, tl]
     omega
    ·exact ⟨by show (8 : Int) = kindI (d 0).toInt; rw [h]; rfl, tabE, True.intro⟩
   ·refine ⟨tellA shapeC_t11, _, _, _, tellA_ok (allTold'_iff.1 ?_), shapeC_y11, dutiesTold_ok ?_⟩
    ·simp only [shapeC_t11, tl]
     omega
    ·exact ⟨by show (9 : Int) = kindI (d 0).toInt; rw [h]; rfl, tabE, True.intro⟩
   ·refine ⟨tellA shapeC_t12, _, _, _, tellA_ok (allTold'_iff.1 ?_), shapeC_y12, dutiesTold_ok ?_⟩
    ·simp only [shapeC_t12, tl]
     omega
    ·exact ⟨by show (10 : Int) = kindI (d 0).toInt; rw [h]; rfl, tabE, True.intro⟩
   ·refine ⟨tellA shapeC_t13, _, _, _, tellA_ok (allTold'_iff.1 ?_), shapeC_y13, dutiesTold_ok ?_⟩
    ·simp only [shapeC_t13, tl]
     omega
    ·exact ⟨by show (11 : Int) = kindI (d 0).toInt; rw [h]; rfl, tabE, True.intro⟩
   ·refine ⟨tellA shapeC_t14, _, _, _, tellA_ok (allTold'_iff.1 ?_), shapeC_y14, dutiesTold_ok ?_⟩
    ·simp only [shapeC_t14, tl]
     omega
    ·exact ⟨by show (12 : Int) = kindI (d 0).toInt; rw [h]; rfl, tabE, True.intro⟩
   ·refine ⟨tellA shapeC_t15, _, _, _, tellA_ok (allTold'_iff.1 ?_), shapeC_y15, dutiesTold_ok ?_⟩
    ·simp only [shapeC_t15, tl]
     omega
    ·exact ⟨by show (13 : Int) = kindI (d 0).toInt; rw [h]; rfl, tabE, True.intro⟩
   ·refine ⟨tellA shapeC_t16, _, _, _, tellA_ok (allTold'_iff.1 ?_), shapeC_y16, dutiesTold_ok ?_⟩
    ·simp only [shapeC_t16, tl]
     omega
    ·exact ⟨by show (14 : Int) = kindI (d 0).toInt; rw [h]; rfl, tabE, True.intro⟩
   ·refine ⟨tellA shapeC_t17, _, _, _, tellA_ok (allTold'_iff.1 ?_), shapeC_y17, dutiesTold_ok ?_⟩
    ·simp only [shapeC_t17, tl]
     omega
    ·exact ⟨by show (15 : Int) = kindI (d 0).toInt; rw [h]; rfl, tabE, True.intro⟩
   ·refine ⟨tellA shapeC_t18, _, _, _, tellA_ok (allTold'_iff.1 ?_), shapeC_y18, dutiesTold_ok ?_⟩
    ·simp only [shapeC_t18, tl]
     omega
    ·exact ⟨by show (16 : Int) = kindI (d 0).toInt; rw [h]; rfl, tabE, True.intro⟩
   ·refine ⟨tellA shapeC_t19, _, _, _, tellA_ok (allTold'_iff.1 ?_), shapeC_y19, dutiesTold_ok ?_⟩
    ·simp only [shapeC_t19, tl]
     omega
    ·exact ⟨by show (17 : Int) = kindI (d 0).toInt; rw [h]; rfl, tabE, True.intro⟩
   ·refine ⟨tellA shapeC_t20, _, _, _, tellA_ok (allTold'_iff.1 ?_), shapeC_y20, dutiesTold_ok ?_⟩
    ·simp only [shapeC_t20, tl]
     omega
    ·exact ⟨by show (18 : Int) = kindI (d 0).toInt; rw [h]; rfl, tabE, True.intro⟩
   ·refine ⟨tellA shapeC_t21, _, _, _, tellA_ok (allTold'_iff.1 ?_), shapeC_y21, dutiesTold_ok ?_⟩
    ·simp only [shapeC_t21, tl]
     omega
    ·exact ⟨by show (19 : Int) = kindI (d 0).toInt; rw [h]; rfl, tabE, True.intro⟩
   ·refine ⟨tellA shapeC_t22, _, _, _, tellA_ok (allTold'_iff.1 ?_), shapeC_y22, dutiesTold_ok ?_⟩
    ·simp only [shapeC_t22, tl]
     omega
    ·exact ⟨by show (20 : Int) = kindI (d 0).toInt; rw [h]; rfl, tabE, True.intro⟩
   ·refine ⟨tellA shapeC_t23, _, _, _, tellA_ok (allTold'_iff.1 ?_), shapeC_y23, dutiesTold_ok ?_⟩
    ·simp only [shapeC_t23, tl]
     omega
    ·exact ⟨by show (21 : Int) = kindI (d 0).toInt; rw [h]; rfl, tabE, True.intro⟩
   ·refine ⟨tellA shapeC_t24, _, _, _, tellA_ok (allTold'_iff.1 ?_), shapeC_y24, dutiesTold_ok ?_⟩
    ·simp only [shapeC_t24, tl]
     omega
    ·exact ⟨by show (22 : Int) = kindI (d 0).toInt; rw [h]; rfl, tabE, True.intro⟩
   ·refine ⟨tellA shapeC_t25, _, _, _, tellA_ok (allTold'_iff.1 ?_), shapeC_y25, dutiesTold_ok ?_⟩
    ·simp only [shapeC_t25, tl]
     omega
    ·exact ⟨by show (23 : Int) = kindI (d 0).toInt; rw [h]; rfl, tabE, True.intro⟩
   ·refine ⟨tellA shapeC_t26, _, _, _, tellA_ok (allTold'_iff.1 ?_), shapeC_y26, dutiesTold_ok ?_⟩
    ·simp only [shapeC_t26, tl]
     omega
    ·exact ⟨by show (24 : Int) = kindI (d 0).toInt; rw [h]; rfl, tabE, True.intro⟩
 ·refine ⟨tellA shapeC_t0, _, _, _, tellA_ok (allTold'_iff.1 ?_), shapeC_y0, dutiesTold_ok ?_⟩
  ·simp only [shapeC_t0, tl]
   omega
  ·exact ⟨by show (0 : Int) = kindI (d 0).toInt; unfold kindI; rw [if_neg (by omega)], tabE, True.intro⟩

def numPY : LSpec := { n := 54, next := 2, pat := [(1, .ptr 1 0), (41, .pv (.int .i64) (.var 2)), (42, .sint .i64 (.un .len (.var 2))), (43, .sint .i64 (.var 0))], rows := [], pre := [(.le (.int 0) (.var 0), true), (.le (.var 0) (.un .len (.var 2)), true), (.eq (.fn 33 txSa3) (.int 1), true)], x := 1, fin := [], frows := [], same := [], chg := [1, 5, 41, 42, 43, 44, 45, 46, 47, 48, 49, 50, 51, 52, 53] }
abbrev asSa53 : Q × Bool := ((.le (.un .len (.var 2)) (.var 0)), false)
abbrev asSa54 : Q × Bool := ((.le (.int 0) zSa10), true)
abbrev asSa55 : Q × Bool := ((.le zSa10 (.int 2147483647)), true)
abbrev asSa56 : Q × Bool := ((.fit .i64 zSa5), true)
def numPY_t0 : List (Q × Bool) := [asSa53, asSa1, asSa54, asSa55, asSa56]
def numPY_d0 : List Duty := []
def numPY_h0 : List (Nat × E) := [(0, zSa5), (2, (.var 2))]
theorem numPY_h0_a : lookE numPY_h0 0 = zSa5 ∧ lookE numPY_h0 2 = (.var 2) := ⟨rfl, rfl⟩
theorem numPY_y0 : nextD numPY numPY_h0 [(1, 1)] (roundC Try.prog [] [] [] 3000 40 13 [4, 1, 0, 1, 1, 1] (tellA numPY_t0) numPY) = some numPY_d0 := by kernel_rfl
abbrev asSa57 : Q × Bool := ((.le (.un .len (.var 2)) (.var 0)), true)
def numPY_t1 : List (Q × Bool) := [asSa57]
def numPY_d1 : List Duty := []
theorem numPY_y1 : endD numPY [(1, 1)] 1000 (roundC Try.prog [] [] [] 3000 40 13 [4, 1, 0, 1, 1, 1] (tellA numPY_t1) numPY) = some numPY_d1 := by kernel_rfl
theorem numPY_holds : LHolds Try.prog (loopAt Try.prog 13 [4, 1, 0, 1, 1, 1]) numPY F := by
 refine loop_roundsC sound (tableNil _ _) (specsNil _ _) (oversNil _ _) (fuel := 3000) (depth := 40) (by kernel_rfl) (by kernel_rfl) (by kernel_rfl) (fun d => (((d 2).toList.length : Int) - (d 0).toInt).toNat) fun d hp hR hA => ?_
 have hp := allTold'_iff.2 hp
 simp only [numPY, tl] at hp hR hA
 simp only [F33] at hp
 obtain ⟨p0, p1, p2⟩ := hp
 by_cases h : ((d 2).ints.length : Int) ≤ (d 0).toInt
 ·refine ⟨tellA numPY_t1, tellA_ok (allTold'_iff.1 ?_), .inl ⟨_, _, _, numPY_y1, dutiesTold_ok ?_⟩⟩
  all_goals try simp only [numPY_t1, numPY_d1, F33, tl]
  all_goals first | done | (and_intros <;> first | omega | assumption | exact one_to (by assumption) | exact not_to (by assumption) | trivial)
 ·have p2 := one_of p2
  have hs := fine_step (x := (d 2).ints) (i := (d 0).toInt) p0 (by omega)
  rw [hs] at p2
  simp only [Bool.and_eq_true, decide_eq_true_eq] at p2
  obtain ⟨⟨q0, q1⟩, q2⟩ := p2
  refine ⟨tellA numPY_t0, tellA_ok (allTold'_iff.1 ?_), .inr ⟨numPY_h0, _, _, numPY_y0, dutiesTold_ok ?_, allTold'_iff.1 ?_, ?_⟩⟩
  all_goals try simp only [numPY_t0, numPY_d0, F33, numPY, numPY_h0_a, tl]
  all_goals first | done | (and_intros <;> first | omega | assumption | exact one_to (by assumption) | exact not_to (by assumption) | trivial)

def numPN : LSpec := { n := 54, next := 2, pat := [(1, .ptr 1 0), (41, .pv (.int .i64) (.var 2)), (42, .sint .i64 (.un .len (.var 2))), (43, .sint .i64 (.var 0))], rows := [], pre := [(.le (.int 0) (.var 0), true), (.le (.var 0) (.un .len (.var 2)), true), (.eq (.fn 33 txSa3) (.int 1), false)], x := 999999, fin := [(2, .int .i64 5)], frows := [], same := [], chg := [1, 2, 5, 41, 42, 43, 44, 45, 46, 47, 48, 49, 50, 51, 52, 53] }
def numPN_t0 : List (Q × Bool) := [asSa53, asSa1, asSa54, asSa55, asSa56]
def numPN_d0 : List Duty := []
def numPN_h0 : List (Nat × E) := [(0, zSa5), (2, (.var 2))]
theorem numPN_h0_a : lookE numPN_h0 0 = zSa5 ∧ lookE numPN_h0 2 = (.var 2) := ⟨rfl, rfl⟩
theorem numPN_y0 : nextD numPN numPN_h0 [(1, 1)] (roundC Try.prog [] [] [] 3000 40 13 [4, 1, 0, 1, 1, 1] (tellA numPN_t0) numPN) = some numPN_d0 := by kernel_rfl
abbrev asSa58 : Q × Bool := ((.le (.int 0) zSa10), false)
def numPN_t1 : List (Q × Bool) := [asSa53, asSa1, asSa58]
def numPN_d1 : List Duty := []
theorem numPN_y1 : endD numPN [(1, 1)] 1000 (roundC Try.prog [] [] [] 3000 40 13 [4, 1, 0, 1, 1, 1] (tellA numPN_t1) numPN) = some numPN_d1 := by kernel_rfl
abbrev asSa59 : Q × Bool := ((.le zSa10 (.int 2147483647)), false)
def numPN_t2 : List (Q × Bool) := [asSa53, asSa1, asSa54, asSa59]
def numPN_d2 : List Duty := []
theorem numPN_y2 : endD numPN [(1, 1)] 1000 (roundC Try.prog [] [] [] 3000 40 13 [4, 1, 0, 1, 1, 1] (tellA numPN_t2) numPN) = some numPN_d2 := by kernel_rfl
theorem numPN_holds : LHolds Try.prog (loopAt Try.prog 13 [4, 1, 0, 1, 1, 1]) numPN F := by
 refine loop_roundsC sound (tableNil _ _) (specsNil _ _) (oversNil _ _) (fuel := 3000) (depth := 40) (by kernel_rfl) (by kernel_rfl) (by kernel_rfl) (fun d => (((d 2).toList.length : Int) - (d 0).toInt).toNat) fun d hp hR hA => ?_
 have hp := allTold'_iff.2 hp
 simp only [numPN, tl] at hp hR hA
 simp only [F33] at hp
 obtain ⟨p0, p1, p2⟩ := hp
 have p2 := not_of p2
 by_cases h : ((d 2).ints.length : Int) ≤ (d 0).toInt
 ·exact absurd (fine_end (x := (d 2).ints) (i := (d 0).toInt) (by omega)) p2
 ·have hs := fine_step (x := (d 2).ints) (i := (d 0).toInt) p0 (by omega)
  rw [hs] at p2
  simp only [Bool.and_eq_true, decide_eq_true_eq] at p2
  by_cases g : 0 ≤ (d 2).ints[(d 0).toInt.toNat]?.getD 0
  ·by_cases g2 : (d 2).ints[(d 0).toInt.toNat]?.getD 0 ≤ 2147483647
   ·have q2 : ¬ fineL ((d 2).ints.drop ((d 0).toInt + 1).toNat) = true := fun q => p2 ⟨⟨g, g2⟩, q⟩
    refine ⟨tellA numPN_t0, tellA_ok (allTold'_iff.1 ?_), .inr ⟨numPN_h0, _, _, numPN_y0, dutiesTold_ok ?_, allTold'_iff.1 ?_, ?_⟩⟩
    all_goals try simp only [numPN_t0, numPN_d0, F33, numPN, numPN_h0_a, tl]
    all_goals first | done | (and_intros <;> first | omega | assumption | exact one_to (by assumption) | exact not_to (by assumption) | trivial)
   ·refine ⟨tellA numPN_t2, tellA_ok (allTold'_iff.1 ?_), .inl ⟨_, _, _, numPN_y2, dutiesTold_ok ?_⟩⟩
    all_goals try simp only [numPN_t2, numPN_d2, F33, tl]
    all_goals first | done | (and_intros <;> first | omega | assumption | exact one_to (by assumption) | exact not_to (by assumption) | trivial)
  ·refine ⟨tellA numPN_t1, tellA_ok (allTold'_iff.1 ?_), .inl ⟨_, _, _, numPN_y1, dutiesTold_ok ?_⟩⟩
   all_goals try simp only [numPN_t1, numPN_d1, F33, tl]
   all_goals first | done | (and_intros <;> first | omega | assumption | exact one_to (by assumption) | exact not_to (by assumption) | trivial)

def numOY : LSpec := { n := 54, next := 2, pat := [(1, .ptr 1 0), (41, .sslice 3 (.int 0) (.var 1) (.var 9) true), (42, .sint .i64 (.var 1)), (43, .sint .i64 (.var 0))], rows := [zSa9], pre := [(.le (.int 0) (.var 0), true), (.le (.var 0) (.var 1), true), (.eq (.fn 33 txSa3) (.int 1), true)], x := 1, fin := [], frows := [], same := [3], chg := [1, 5, 41, 42, 43, 44, 45, 46, 47, 48, 49, 50, 51, 52, 53] }
abbrev asSa60 : Q × Bool := ((.le (.var 1) (.var 0)), false)
def numOY_t0 : List (Q × Bool) := [asSa60, asSa1, asSa54, asSa55, asSa56]
def numOY_d0 : List Duty := []
def numOY_h0 : List (Nat × E) := [(2, (.var 2)), (0, zSa5), (1, (.var 1)), (9, (.var 9))]
theorem numOY_h0_a : lookE numOY_h0 0 = zSa5 ∧ lookE numOY_h0 1 = (.var 1) ∧ lookE numOY_h0 2 = (.var 2) ∧ lookE numOY_h0 9 = (.var 9) := ⟨rfl, rfl, rfl, rfl⟩
theorem numOY_y0 : nextD numOY numOY_h0 [(3, 3), (1, 1)] (roundC Try.prog [] [] [] 3000 40 13 [4, 1, 0, 1, 1, 1] (tellA numOY_t0) numOY) = some numOY_d0 := by kernel_rfl
abbrev asSa61 : Q × Bool := ((.le (.var 1) (.var 0)), true)
def numOY_t1 : List (Q × Bool) := [asSa61]
def numOY_d1 : List Duty := []
theorem numOY_y1 : endD numOY [(3, 3), (1, 1)] 1000 (roundC Try.prog [] [] [] 3000 40 13 [4, 1, 0, 1, 1, 1] (tellA numOY_t1) numOY) = some numOY_d1 := by kernel_rfl
theorem numOY_holds : LHolds Try.prog (loopAt Try.prog 13 [4, 1, 0, 1, 1, 1]) numOY F := by
 refine loop_roundsC sound (tableNil _ _) (specsNil _ _) (oversNil _ _) (fuel := 3000) (depth := 40) (by kernel_rfl) (by kernel_rfl) (by kernel_rfl) (fun d => ((d 1).toInt - (d 0).toInt).toNat) fun d hp hR hA => ?_
 have hp := allTold'_iff.2 hp
 simp only [numOY, tl] at hp hR hA
 simp only [F33] at hp
 obtain ⟨p0, p1, p2⟩ := hp
 have hl : ((d 2).ints.length : Int) = (d 1).toInt := by omega
 by_cases h : (d 1).toInt ≤ (d 0).toInt
 ·refine ⟨tellA numOY_t1, tellA_ok (allTold'_iff.1 ?_), .inl ⟨_, _, _, numOY_y1, dutiesTold_ok ?_⟩⟩
  all_goals try simp only [numOY_t1, numOY_d1, F33, tl]
  all_goals first | done | (and_intros <;> first | omega | assumption | exact one_to (by assumption) | exact not_to (by assumption) | trivial)
 ·have p2 := one_of p2
  have hs := fine_step (x := (d 2).ints) (i := (d 0).toInt) p0 (by omega)
  rw [hs] at p2
  simp only [Bool.and_eq_true, decide_eq_true_eq] at p2
  obtain ⟨⟨q0, q1⟩, q2⟩ := p2
  refine ⟨tellA numOY_t0, tellA_ok (allTold'_iff.1 ?_), .inr ⟨numOY_h0, _, _, numOY_y0, dutiesTold_ok ?_, allTold'_iff.1 ?_, ?_⟩⟩
  all_goals try simp only [numOY_t0, numOY_d0, F33, numOY, numOY_h0_a, tl]
  all_goals first | done | (and_intros <;> first | omega | assumption | exact one_to (by assumption) | exact not_to (by assumption) | trivial)

def numON : LSpec := { n := 54, next := 2, pat := [(1, .ptr 1 0), (41, .sslice 3 (.int 0) (.var 1) (.var 9) true), (42, .sint .i64 (.var 1)), (43, .sint .i64 (.var 0))], rows := [zSa9], pre := [(.le (.int 0) (.var 0), true), (.le (.var 0) (.var 1), true), (.eq (.fn 33 txSa3) (.int 1), false)], x := 999999, fin := [(2, .int .i64 5)], frows := [], same := [3], chg := [1, 2, 5, 41, 42, 43, 44, 45, 46, 47, 48, 49, 50, 51, 52, 53] }
def numON_t0 : List (Q × Bool) := [asSa60, asSa1, asSa54, asSa55, asSa56]
def numON_d0 : List Duty := []
def numON_h0 : List (Nat × E) := [(2, (.var 2)), (0, zSa5), (1, (.var 1)), (9, (.var 9))]
theorem numON_h0_a : lookE numON_h0 0 = zSa5 ∧ lookE numON_h0 1 = (.var 1) ∧ lookE numON_h0 2 = (.var 2) ∧ lookE numON_h0 9 = (.var 9) := ⟨rfl, rfl, rfl, rfl⟩
theorem numON_y0 : nextD numON numON_h0 [(3, 3), (1, 1)] (roundC Try.prog [] [] [] 3000 40 13 [4, 1, 0, 1, 1, 1] (tellA numON_t0) numON) = some numON_d0 := by kernel_rfl
def numON_t1 : List (Q × Bool) := [asSa60, asSa1, asSa58]
def numON_d1 : List Duty := []
theorem numON_y1 : endD numON [(3, 3), (1, 1)] 1000 (roundC Try.prog [] [] [] 3000 40 13 [4, 1, 0, 1, 1, 1] (tellA numON_t1) numON) = some numON_d1 := by kernel_rfl
def numON_t2 : List (Q × Bool) := [asSa60, asSa1, asSa54, asSa59]
def numON_d2 : List Duty := []
theorem numON_y2 : endD numON [(3, 3), (1, 1)] 1000 (roundC Try.prog [] [] [] 3000 40 13 [4, 1, 0, 1, 1, 1] (tellA numON_t2) numON) = some numON_d2 := by kernel_rfl
theorem numON_holds : LHolds Try.prog (loopAt Try.prog 13 [4, 1, 0, 1, 1, 1]) numON F := by
 refine loop_roundsC sound (tableNil _ _) (specsNil _ _) (oversNil _ _) (fuel := 3000) (depth := 40) (by kernel_rfl) (by kernel_rfl) (by kernel_rfl) (fun d => ((d 1).toInt - (d 0).toInt).toNat) fun d hp hR hA => ?_
 have hp := allTold'_iff.2 hp
 simp only [numON, tl] at hp hR hA
 simp only [F33] at hp
 obtain ⟨p0, p1, p2⟩ := hp
 have hl : ((d 2).ints.length : Int) = (d 1).toInt := by omega
 have p2 := not_of p2
 by_cases h : (d 1).toInt ≤ (d 0).toInt
 ·exact absurd (fine_end (x := (d 2).ints) (i := (d 0).toInt) (by omega)) p2
 ·have hs := fine_step (x := (d 2).ints) (i := (d 0).toInt) p0 (by omega)
  rw [hs] at p2
  simp only [Bool.and_eq_true, decide_eq_true_eq] at p2
  by_cases g : 0 ≤ (d 2).ints[(d 0).toInt.toNat]?.getD 0
  ·by_cases g2 : (d 2).ints[(d 0).toInt.toNat]?.getD 0 ≤ 2147483647
   ·have q2 : ¬ fineL ((d 2).ints.drop ((d 0).toInt + 1).toNat) = true := fun q => p2 ⟨⟨g, g2⟩, q⟩
    refine ⟨tellA numON_t0, tellA_ok (allTold'_iff.1 ?_), .inr ⟨numON_h0, _, _, numON_y0, dutiesTold_ok ?_, allTold'_iff.1 ?_, ?_⟩⟩
    all_goals try simp only [numON_t0, numON_d0, F33, numON, numON_h0_a, tl]
    all_goals first | done | (and_intros <;> first | omega | assumption | exact one_to (by assumption) | exact not_to (by assumption) | trivial)
   ·refine ⟨tellA numON_t2, tellA_ok (allTold'_iff.1 ?_), .inl ⟨_, _, _, numON_y2, dutiesTold_ok ?_⟩⟩
    all_goals try simp only [numON_t2, numON_d2, F33, tl]
    all_goals first | done | (and_intros <;> first | omega | assumption | exact one_to (by assumption) | exact not_to (by assumption) | trivial)
  ·refine ⟨tellA numON_t1, tellA_ok (allTold'_iff.1 ?_), .inl ⟨_, _, _, numON_y1, dutiesTold_ok ?_⟩⟩
   all_goals try simp only [numON_t1, numON_d1, F33, tl]
   all_goals first | done | (and_intros <;> first | omega | assumption | exact one_to (by assumption) | exact not_to (by assumption) | trivial)

def chkppp : CSpec := { args := [.agg [.sint .i64 (.var 0), .pv (.int .i64) (.var 2), .pv (.agg [.int .u8, .int .u8, .int .u8, .int .u8, .int .u8, .int .u8, .int .u8, .int .u8, .int .u8, .int .u8, .int .u8, .int .u8, .int .u8, .int .u8, .int .u8, .int .u8]) (.var 4), .pv (.int .u8) (.var 6)]], next := 4, rows := [], pre := [(.le (.un .len (.var 2)) (.int 5000), true), (.le (.un .len (.var 4)) (.int 5000), true), (.le (.un .len (.var 6)) (.int 5000), true)], res := .sint .i64 zSa6, frows := [], same := [] }
abbrev asSa62 : Q × Bool := ((.le (.int 0) zSa1), true)
abbrev asSa63 : Q × Bool := ((.le (.int 25) zSa1), false)
abbrev asSa64 : Q × Bool := ((.same (.bi .sel txSa36 (.int 0)) (.lits [])), true)
def chkppp_t0 : List (Q × Bool) := [asSa62, asSa63, asSa64]
def chkppp_d0 : List Duty := [(true, (.int 2), zSa6)]
noncomputable abbrev ltSa0 : List LEntry := [⟨13, [4, 1, 0, 1, 1, 1], numPY⟩, ⟨13, [4, 1, 0, 1, 1, 1], numPN⟩]
theorem chkppp_y0 : endC chkppp [] 1000 (callC Try.prog (tellA chkppp_t0) ltSa0 [(35, shapeC)] [] 3000 40 13 chkppp) = some chkppp_d0 := by kernel_rfl
abbrev asSa65 : Q × Bool := ((.same (.bi .sel txSa36 (.int 0)) (.lits [])), false)
abbrev asSa66 : Q × Bool := ((.fit .i64 (.un .len (.var 2))), true)
abbrev asSa67 : Q × Bool := ((.le txSa40 (.un .len (.var 2))), false)
def chkppp_t1 : List (Q × Bool) := [asSa62, asSa63, asSa65, asSa66, asSa67]
def chkppp_d1 : List Duty := [zSa2]
theorem chkppp_y1 : endC chkppp [] 1000 (callC Try.prog (tellA chkppp_t1) ltSa0 [(35, shapeC)] [] 3000 40 13 chkppp) = some chkppp_d1 := by kernel_rfl
abbrev asSa68 : Q × Bool := ((.le txSa40 (.un .len (.var 2))), true)
abbrev asSa69 : Q × Bool := ((.le (.un .len (.var 2)) txSa41), false)
def chkppp_t2 : List (Q × Bool) := [asSa62, asSa63, asSa65, asSa66, asSa68, asSa69]
def chkppp_d2 : List Duty := [zSa2]
theorem chkppp_y2 : endC chkppp [] 1000 (callC Try.prog (tellA chkppp_t2) ltSa0 [(35, shapeC)] [] 3000 40 13 chkppp) = some chkppp_d2 := by kernel_rfl
abbrev asSa70 : Q × Bool := ((.le (.un .len (.var 2)) txSa41), true)
abbrev asSa71 : Q × Bool := ((.fit .i64 (.un .len (.var 4))), true)
abbrev asSa72 : Q × Bool := ((.le txSa42 (.un .len (.var 4))), false)
def chkppp_t3 : List (Q × Bool) := [asSa62, asSa63, asSa65, asSa66, asSa68, asSa70, asSa71, asSa72]
def chkppp_d3 : List Duty := [zSa2]
theorem chkppp_y3 : endC chkppp [] 1000 (callC Try.prog (tellA chkppp_t3) ltSa0 [(35, shapeC)] [] 3000 40 13 chkppp) = some chkppp_d3 := by kernel_rfl
abbrev asSa73 : Q × Bool := ((.le txSa42 (.un .len (.var 4))), true)
abbrev asSa74 : Q × Bool := ((.le (.un .len (.var 4)) txSa43), false)
def chkppp_t4 : List (Q × Bool) := [asSa62, asSa63, asSa65, asSa66, asSa68, asSa70, asSa71, asSa73, asSa74]
def chkppp_d4 : List Duty := [zSa2]
theorem chkppp_y4 : endC chkppp [] 1000 (callC Try.prog (tellA chkppp_t4) ltSa0 [(35, shapeC)] [] 3000 40 13 chkppp) = some chkppp_d4 := by kernel_rfl
abbrev asSa75 : Q × Bool := ((.le (.un .len (.var 4)) txSa43), true)
abbrev asSa76 : Q × Bool := ((.fit .i64 (.un .len (.var 6))), true)
abbrev asSa77 : Q × Bool := ((.le txSa44 (.un .len (.var 6))), false)
def chkppp_t5 : List (Q × Bool) := [asSa62, asSa63, asSa65, asSa66, asSa68, asSa70, asSa71, asSa73, asSa75, asSa76, asSa77]
def chkppp_d5 : List Duty := [zSa2]
theorem chkppp_y5 : endC chkppp [] 1000 (callC Try.prog (tellA chkppp_t5) ltSa0 [(35, shapeC)] [] 3000 40 13 chkppp) = some chkppp_d5 := by kernel_rfl
abbrev asSa78 : Q × Bool := ((.le txSa44 (.un .len (.var 6))), true)
abbrev asSa79 : Q × Bool := ((.le (.un .len (.var 6)) txSa45), false)
def chkppp_t6 : List (Q × Bool) := [asSa62, asSa63, asSa65, asSa66, asSa68, asSa70, asSa71, asSa73, asSa75, asSa76, asSa78, asSa79]
def chkppp_d6 : List Duty := [zSa2]
theorem chkppp_y6 : endC chkppp [] 1000 (callC Try.prog (tellA chkppp_t6) ltSa0 [(35, shapeC)] [] 3000 40 13 chkppp) = some chkppp_d6 := by kernel_rfl
abbrev asSa80 : Q × Bool := ((.le (.un .len (.var 6)) txSa45), true)
abbrev asSa81 : Q × Bool := ((.le (.int 0) (.un .len (.var 2))), true)
abbrev asSa82 : Q × Bool := ((.eq zSa11 (.int 1)), false)
def chkppp_t7 : List (Q × Bool) := [asSa62, asSa63, asSa65, asSa66, asSa68, asSa70, asSa71, asSa73, asSa75, asSa76, asSa78, asSa80, asSa81, asSa82]
def chkppp_d7 : List Duty := [zSa2]
theorem chkppp_y7 : endC chkppp [] 1000 (callC Try.prog (tellA chkppp_t7) ltSa0 [(35, shapeC)] [] 3000 40 13 chkppp) = some chkppp_d7 := by kernel_rfl
abbrev asSa83 : Q × Bool := ((.eq zSa11 (.int 1)), true)
def chkppp_t8 : List (Q × Bool) := [asSa62, asSa63, asSa65, asSa66, asSa68, asSa70, asSa71, asSa73, asSa75, asSa76, asSa78, asSa80, asSa81, asSa83]
def chkppp_d8 : List Duty := [(true, (.int 0), zSa6)]
theorem chkppp_y8 : endC chkppp [] 1000 (callC Try.prog (tellA chkppp_t8) ltSa0 [(35, shapeC)] [] 3000 40 13 chkppp) = some chkppp_d8 := by kernel_rfl
set_option maxHeartbeats 16000000 in
theorem chkppp_holds : CHolds Try.prog 13 chkppp F := by
 refine cholds_of sound (tableCons numPY_holds (tableCons numPN_holds (tableNil _ _))) (specsCons shapeC_holds (specsNil _ _)) (oversNil _ _) (fuel := 3000) (depth := 40) (by kernel_rfl) fun d hp hR hA => ?_
 have hp := allTold'_iff.2 hp
 simp only [chkppp, tl] at hp hR hA
 have hk := kind_in (d 0).toInt
 have tf := tab_in hk
 by_cases g0 : nameI (kindI (d 0).toInt) = []
 ·refine ⟨tellA chkppp_t0, _, _, _, tellA_ok (allTold'_iff.1 ?_), chkppp_y0, dutiesTold_ok ?_⟩
  all_goals simp only [chkppp_t0, chkppp_d0, F30, F31, F32, F33, rowF, lowF, topF, nameF, drop_z, tl]
  all_goals first | done | (and_intros <;> first | omega | assumption | exact one_to (by assumption) | exact not_to (by assumption) | trivial) | (simp [wrongI, holdB, g0]; done)
 ·by_cases g1 : lowI (kindI (d 0).toInt) 1 ≤ ((d 2).ints.length : Int)
  ·by_cases g2 : ((d 2).ints.length : Int) ≤ topI (kindI (d 0).toInt) 1
   ·by_cases g3 : lowI (kindI (d 0).toInt) 2 ≤ ((d 4).ints.length : Int)
    ·by_cases g4 : ((d 4).ints.length : Int) ≤ topI (kindI (d 0).toInt) 2
     ·by_cases g5 : lowI (kindI (d 0).toInt) 3 ≤ ((d 6).ints.length : Int)
      ·by_cases g6 : ((d 6).ints.length : Int) ≤ topI (kindI (d 0).toInt) 3
       ·by_cases g7 : fineL (d 2).ints = true
        ·refine ⟨tellA chkppp_t8, _, _, _, tellA_ok (allTold'_iff.1 ?_), chkppp_y8, dutiesTold_ok ?_⟩
         all_goals simp only [chkppp_t8, chkppp_d8, F30, F31, F32, F33, rowF, lowF, topF, nameF, drop_z, tl]
         all_goals first | done | (and_intros <;> first | omega | assumption | exact one_to (by assumption) | exact not_to (by assumption) | trivial) | (simp [wrongI, holdB, g0, g1, g2, g3, g4, g5, g6, g7]; done)
        ·refine ⟨tellA chkppp_t7, _, _, _, tellA_ok (allTold'_iff.1 ?_), chkppp_y7, dutiesTold_ok ?_⟩
         all_goals simp only [chkppp_t7, chkppp_d7, F30, F31, F32, F33, rowF, lowF, topF, nameF, drop_z, tl]
         all_goals first | done | (and_intros <;> first | omega | assumption | exact one_to (by assumption) | exact not_to (by assumption) | trivial) | (simp [wrongI, holdB, g0, g1, g2, g3, g4, g5, g6, g7]; done)
       ·refine ⟨tellA chkppp_t6, _, _, _, tellA_ok (allTold'_iff.1 ?_), chkppp_y6, dutiesTold_ok ?_⟩
        all_goals simp only [chkppp_t6, chkppp_d6, F30, F31, F32, F33, rowF, lowF, topF, nameF, drop_z, tl]
        all_goals first | done | (and_intros <;> first | omega | assumption | exact one_to (by assumption) | exact not_to (by assumption) | trivial) | (simp [wrongI, holdB, g0, g1, g2, g3, g4, g5, g6]; done)
      ·refine ⟨tellA chkppp_t5, _, _, _, tellA_ok (allTold'_iff.1 ?_), chkppp_y5, dutiesTold_ok ?_⟩
       all_goals simp only [chkppp_t5, chkppp_d5, F30, F31, F32, F33, rowF, lowF, topF, nameF, drop_z, tl]
       all_goals first | done | (and_intros <;> first | omega | assumption | exact one_to (by assumption) | exact not_to (by assumption) | trivial) | (simp [wrongI, holdB, g0, g1, g2, g3, g4, g5]; done)
     ·refine ⟨tellA chkppp_t4, _, _, _, tellA_ok (allTold'_iff.1 ?_), chkppp_y4, dutiesTold_ok ?_⟩
      all_goals simp only [chkppp_t4, chkppp_d4, F30, F31, F32, F33, rowF, lowF, topF, nameF, drop_z, tl]
      all_goals first | done | (and_intros <;> first | omega | assumption | exact one_to (by assumption) | exact not_to (by assumption) | trivial) | (simp [wrongI, holdB, g0, g1, g2, g3, g4]; done)
    ·refine ⟨tellA chkppp_t3, _, _, _, tellA_ok (allTold'_iff.1 ?_), chkppp_y3, dutiesTold_ok ?_⟩
     all_goals simp only [chkppp_t3, chkppp_d3, F30, F31, F32, F33, rowF, lowF, topF, nameF, drop_z, tl]
     all_goals first | done | (and_intros <;> first | omega | assumption | exact one_to (by assumption) | exact not_to (by assumption) | trivial) | (simp [wrongI, holdB, g0, g1, g2, g3]; done)
   ·refine ⟨tellA chkppp_t2, _, _, _, tellA_ok (allTold'_iff.1 ?_), chkppp_y2, dutiesTold_ok ?_⟩
    all_goals simp only [chkppp_t2, chkppp_d2, F30, F31, F32, F33, rowF, lowF, topF, nameF, drop_z, tl]
    all_goals first | done | (and_intros <;> first | omega | assumption | exact one_to (by assumption) | exact not_to (by assumption) | trivial) | (simp [wrongI, holdB, g0, g1, g2]; done)
  ·refine ⟨tellA chkppp_t1, _, _, _, tellA_ok (allTold'_iff.1 ?_), chkppp_y1, dutiesTold_ok ?_⟩
   all_goals simp only [chkppp_t1, chkppp_d1, F30, F31, F32, F33, rowF, lowF, topF, nameF, drop_z, tl]
   all_goals first | done | (and_intros <;> first | omega | assumption | exact one_to (by assumption) | exact not_to (by assumption) | trivial) | (simp [wrongI, holdB, g0, g1]; done)

def chkoeo : CSpec := { args := [.agg [.sint .i64 (.var 0), .sslice 3 (.int 0) (.var 1) (.var 9) true, .slice 5 0 0 0 false, .sslice 7 (.int 0) (.var 5) (.var 11) true]], next := 4, rows := [zSa9], pre := [(.le (.int 0) (.var 1), true), (.le (.var 1) (.int 5000), true), (.le (.int 0) (.var 5), true), (.le (.var 5) (.int 5000), true)], res := .sint .i64 zSa4, frows := [], same := [3] }
def chkoeo_t0 : List (Q × Bool) := [asSa62, asSa63, asSa64]
def chkoeo_d0 : List Duty := [(true, (.int 2), zSa4)]
noncomputable abbrev ltSa1 : List LEntry := [⟨13, [4, 1, 0, 1, 1, 1], numOY⟩, ⟨13, [4, 1, 0, 1, 1, 1], numON⟩]
theorem chkoeo_y0 : endC chkoeo [(3, 3)] 1000 (callC Try.prog (tellA chkoeo_t0) ltSa1 [(35, shapeC)] [] 3000 40 13 chkoeo) = some chkoeo_d0 := by kernel_rfl
abbrev asSa84 : Q × Bool := ((.fit .i64 (.var 1)), true)
abbrev asSa85 : Q × Bool := ((.le txSa40 (.var 1)), false)
def chkoeo_t1 : List (Q × Bool) := [asSa62, asSa63, asSa65, asSa84, asSa85]
def chkoeo_d1 : List Duty := [(true, (.int 5), zSa4)]
theorem chkoeo_y1 : endC chkoeo [(3, 3)] 1000 (callC Try.prog (tellA chkoeo_t1) ltSa1 [(35, shapeC)] [] 3000 40 13 chkoeo) = some chkoeo_d1 := by kernel_rfl
abbrev asSa86 : Q × Bool := ((.le txSa40 (.var 1)), true)
abbrev asSa87 : Q × Bool := ((.le (.var 1) txSa41), false)
def chkoeo_t2 : List (Q × Bool) := [asSa62, asSa63, asSa65, asSa84, asSa86, asSa87]
def chkoeo_d2 : List Duty := [(true, (.int 5), zSa4)]
theorem chkoeo_y2 : endC chkoeo [(3, 3)] 1000 (callC Try.prog (tellA chkoeo_t2) ltSa1 [(35, shapeC)] [] 3000 40 13 chkoeo) = some chkoeo_d2 := by kernel_rfl
abbrev asSa88 : Q × Bool := ((.le (.var 1) txSa41), true)
abbrev asSa89 : Q × Bool := ((.le txSa42 (.int 0)), false)
def chkoeo_t3 : List (Q × Bool) := [asSa62, asSa63, asSa65, asSa84, asSa86, asSa88, asSa89]
def chkoeo_d3 : List Duty := [(true, (.int 5), zSa4)]
theorem chkoeo_y3 : endC chkoeo [(3, 3)] 1000 (callC Try.prog (tellA chkoeo_t3) ltSa1 [(35, shapeC)] [] 3000 40 13 chkoeo) = some chkoeo_d3 := by kernel_rfl
abbrev asSa90 : Q × Bool := ((.le txSa42 (.int 0)), true)
abbrev asSa91 : Q × Bool := ((.le (.int 0) txSa43), true)
abbrev asSa92 : Q × Bool := ((.fit .i64 (.var 5)), true)
abbrev asSa93 : Q × Bool := ((.le txSa44 (.var 5)), false)
def chkoeo_t4 : List (Q × Bool) := [asSa62, asSa63, asSa65, asSa84, asSa86, asSa88, asSa90, asSa91, asSa92, asSa93]
def chkoeo_d4 : List Duty := [(true, (.int 5), zSa4)]
theorem chkoeo_y4 : endC chkoeo [(3, 3)] 1000 (callC Try.prog (tellA chkoeo_t4) ltSa1 [(35, shapeC)] [] 3000 40 13 chkoeo) = some chkoeo_d4 := by kernel_rfl
abbrev asSa94 : Q × Bool := ((.le txSa44 (.var 5)), true)
abbrev asSa95 : Q × Bool := ((.le (.var 5) txSa45), false)
def chkoeo_t5 : List (Q × Bool) := [asSa62, asSa63, asSa65, asSa84, asSa86, asSa88, asSa90, asSa91, asSa92, asSa94, asSa95]
def chkoeo_d5 : List Duty := [(true, (.int 5), zSa4)]
theorem chkoeo_y5 : endC chkoeo [(3, 3)] 1000 (callC Try.prog (tellA chkoeo_t5) ltSa1 [(35, shapeC)] [] 3000 40 13 chkoeo) = some chkoeo_d5 := by kernel_rfl
abbrev asSa96 : Q × Bool := ((.le (.var 5) txSa45), true)
abbrev asSa97 : Q × Bool := ((.le (.int 0) (.var 1)), true)
def chkoeo_t6 : List (Q × Bool) := [asSa62, asSa63, asSa65, asSa84, asSa86, asSa88, asSa90, asSa91, asSa92, asSa94, asSa96, asSa97, asSa82]
def chkoeo_d6 : List Duty := [(true, (.int 5), zSa4)]
theorem chkoeo_y6 : endC chkoeo [(3, 3)] 1000 (callC Try.prog (tellA chkoeo_t6) ltSa1 [(35, shapeC)] [] 3000 40 13 chkoeo) = some chkoeo_d6 := by kernel_rfl
def chkoeo_t7 : List (Q × Bool) := [asSa62, asSa63, asSa65, asSa84, asSa86, asSa88, asSa90, asSa91, asSa92, asSa94, asSa96, asSa97, asSa83]
def chkoeo_d7 : List Duty := [(true, (.int 0), zSa4)]
theorem chkoeo_y7 : endC chkoeo [(3, 3)] 1000 (callC Try.prog (tellA chkoeo_t7) ltSa1 [(35, shapeC)] [] 3000 40 13 chkoeo) = some chkoeo_d7 := by kernel_rfl
set_option maxHeartbeats 16000000 in
theorem chkoeo_holds : CHolds Try.prog 13 chkoeo F := by
 refine cholds_of sound (tableCons numOY_holds (tableCons numON_holds (tableNil _ _))) (specsCons shapeC_holds (specsNil _ _)) (oversNil _ _) (fuel := 3000) (depth := 40) (by kernel_rfl) fun d hp hR hA => ?_
 have hp := allTold'_iff.2 hp
 simp only [chkoeo, tl] at hp hR hA
 have hk := kind_in (d 0).toInt
 have tf := tab_in hk
 by_cases g0 : nameI (kindI (d 0).toInt) = []
 ·refine ⟨tellA chkoeo_t0, _, _, _, tellA_ok (allTold'_iff.1 ?_), chkoeo_y0, dutiesTold_ok ?_⟩
  all_goals simp only [chkoeo_t0, chkoeo_d0, F30, F31, F32, F33, rowF, lowF, topF, nameF, drop_z, tl]
  all_goals first | done | (and_intros <;> first | omega | assumption | exact one_to (by assumption) | exact not_to (by assumption) | trivial) | (simp [wrongI, holdB, g0]; done)
 ·by_cases g1 : lowI (kindI (d 0).toInt) 1 ≤ (d 1).toInt
  ·by_cases g2 : (d 1).toInt ≤ topI (kindI (d 0).toInt) 1
   ·by_cases g3 : lowI (kindI (d 0).toInt) 2 ≤ (0 : Int)
    ·by_cases g4 : (0 : Int) ≤ topI (kindI (d 0).toInt) 2
     ·by_cases g5 : lowI (kindI (d 0).toInt) 3 ≤ (d 5).toInt
      ·by_cases g6 : (d 5).toInt ≤ topI (kindI (d 0).toInt) 3
       ·by_cases g7 : fineL (d 2).ints = true
        ·refine ⟨tellA chkoeo_t7, _, _, _, tellA_ok (allTold'_iff.1 ?_), chkoeo_y7, dutiesTold_ok ?_⟩
         all_goals simp only [chkoeo_t7, chkoeo_d7, F30, F31, F32, F33, rowF, lowF, topF, nameF, drop_z, tl]
         all_goals first | done | (and_intros <;> first | omega | assumption | exact one_to (by assumption) | exact not_to (by assumption) | trivial) | (simp [wrongI, holdB, g0, g1, g2, g3, g4, g5, g6, g7]; done)
        ·refine ⟨tellA chkoeo_t6, _, _, _, tellA_ok (allTold'_iff.1 ?_), chkoeo_y6, dutiesTold_ok ?_⟩
         all_goals simp only [chkoeo_t6, chkoeo_d6, F30, F31, F32, F33, rowF, lowF, topF, nameF, drop_z, tl]
         all_goals first | done | (and_intros <;> first | omega | assumption | exact one_to (by assumption) | exact not_to (by assumption) | trivial) | (simp [wrongI, holdB, g0, g1, g2, g3, g4, g5, g6, g7]; done)
       ·refine ⟨tellA chkoeo_t5, _, _, _, tellA_ok (allTold'_iff.1 ?_), chkoeo_y5, dutiesTold_ok ?_⟩
        all_goals simp only [chkoeo_t5, chkoeo_d5, F30, F31, F32, F33, rowF, lowF, topF, nameF, drop_z, tl]
        all_goals first | done | (and_intros <;> first | omega | assumption | exact one_to (by assumption) | exact not_to (by assumption) | trivial) | (simp [wrongI, holdB, g0, g1, g2, g3, g4, g5, g6]; done)
      ·refine ⟨tellA chkoeo_t4, _, _, _, tellA_ok (allTold'_iff.1 ?_), chkoeo_y4, dutiesTold_ok ?_⟩
       all_goals simp only [chkoeo_t4, chkoeo_d4, F30, F31, F32, F33, rowF, lowF, topF, nameF, drop_z, tl]
       all_goals first | done | (and_intros <;> first | omega | assumption | exact one_to (by assumption) | exact not_to (by assumption) | trivial) | (simp [wrongI, holdB, g0, g1, g2, g3, g4, g5]; done)
     ·exfalso
      omega
    ·refine ⟨tellA chkoeo_t3, _, _, _, tellA_ok (allTold'_iff.1 ?_), chkoeo_y3, dutiesTold_ok ?_⟩
     all_goals simp only [chkoeo_t3, chkoeo_d3, F30, F31, F32, F33, rowF, lowF, topF, nameF, drop_z, tl]
     all_goals first | done | (and_intros <;> first | omega | assumption | exact one_to (by assumption) | exact not_to (by assumption) | trivial) | (simp [wrongI, holdB, g0, g1, g2, g3]; done)
   ·refine ⟨tellA chkoeo_t2, _, _, _, tellA_ok (allTold'_iff.1 ?_), chkoeo_y2, dutiesTold_ok ?_⟩
    all_goals simp only [chkoeo_t2, chkoeo_d2, F30, F31, F32, F33, rowF, lowF, topF, nameF, drop_z, tl]
    all_goals first | done | (and_intros <;> first | omega | assumption | exact one_to (by assumption) | exact not_to (by assumption) | trivial) | (simp [wrongI, holdB, g0, g1, g2]; done)
  ·refine ⟨tellA chkoeo_t1, _, _, _, tellA_ok (allTold'_iff.1 ?_), chkoeo_y1, dutiesTold_ok ?_⟩
   all_goals simp only [chkoeo_t1, chkoeo_d1, F30, F31, F32, F33, rowF, lowF, topF, nameF, drop_z, tl]
   all_goals first | done | (and_intros <;> first | omega | assumption | exact one_to (by assumption) | exact not_to (by assumption) | trivial) | (simp [wrongI, holdB, g0, g1]; done)

def chkooo : CSpec := { args := [.agg [.sint .i64 (.var 0), .sslice 3 (.int 0) (.var 1) (.var 9) true, .vslice 5 16 (.int 0) (.var 3) (.var 10) true, .sslice 7 (.int 0) (.var 5) (.var 11) true]], next := 4, rows := [zSa9], pre := [(.le (.int 0) (.var 1), true), (.le (.var 1) (.int 5000), true), (.le (.int 0) (.var 3), true), (.le (.var 3) (.int 5000), true), (.le (.int 0) (.var 5), true), (.le (.var 5) (.int 5000), true)], res := .sint .i64 zSa7, frows := [], same := [3] }
def chkooo_t0 : List (Q × Bool) := [asSa62, asSa63, asSa64]
def chkooo_d0 : List Duty := [(true, (.int 2), zSa7)]
theorem chkooo_y0 : endC chkooo [(3, 3)] 1000 (callC Try.prog (tellA chkooo_t0) ltSa1 [(35, shapeC)] [] 3000 40 13 chkooo) = some chkooo_d0 := by kernel_rfl
def chkooo_t1 : List (Q × Bool) := [asSa62, asSa63, asSa65, asSa84, asSa85]
def chkooo_d1 : List Duty := [zSa3]
theorem chkooo_y1 : endC chkooo [(3, 3)] 1000 (callC Try.prog (tellA chkooo_t1) ltSa1 [(35, shapeC)] [] 3000 40 13 chkooo) = some chkooo_d1 := by kernel_rfl
def chkooo_t2 : List (Q × Bool) := [asSa62, asSa63, asSa65, asSa84, asSa86, asSa87]
def chkooo_d2 : List Duty := [zSa3]
theorem chkooo_y2 : endC chkooo [(3, 3)] 1000 (callC Try.prog (tellA chkooo_t2) ltSa1 [(35, shapeC)] [] 3000 40 13 chkooo) = some chkooo_d2 := by kernel_rfl
abbrev asSa98 : Q × Bool := ((.fit .i64 (.var 3)), true)
abbrev asSa99 : Q × Bool := ((.le txSa42 (.var 3)), false)
def chkooo_t3 : List (Q × Bool) := [asSa62, asSa63, asSa65, asSa84, asSa86, asSa88, asSa98, asSa99]
def chkooo_d3 : List Duty := [zSa3]
theorem chkooo_y3 : endC chkooo [(3, 3)] 1000 (callC Try.prog (tellA chkooo_t3) ltSa1 [(35, shapeC)] [] 3000 40 13 chkooo) = some chkooo_d3 := by kernel_rfl
abbrev asSa100 : Q × Bool := ((.le txSa42 (.var 3)), true)
abbrev asSa101 : Q × Bool := ((.le (.var 3) txSa43), false)
def chkooo_t4 : List (Q × Bool) := [asSa62, asSa63, asSa65, asSa84, asSa86, asSa88, asSa98, asSa100, asSa101]
def chkooo_d4 : List Duty := [zSa3]
theorem chkooo_y4 : endC chkooo [(3, 3)] 1000 (callC Try.prog (tellA chkooo_t4) ltSa1 [(35, shapeC)] [] 3000 40 13 chkooo) = some chkooo_d4 := by kernel_rfl
abbrev asSa102 : Q × Bool := ((.le (.var 3) txSa43), true)
def chkooo_t5 : List (Q × Bool) := [asSa62, asSa63, asSa65, asSa84, asSa86, asSa88, asSa98, asSa100, asSa102, asSa92, asSa93]
def chkooo_d5 : List Duty := [zSa3]
theorem chkooo_y5 : endC chkooo [(3, 3)] 1000 (callC Try.prog (tellA chkooo_t5) ltSa1 [(35, shapeC)] [] 3000 40 13 chkooo) = some chkooo_d5 := by kernel_rfl
def chkooo_t6 : List (Q × Bool) := [asSa62, asSa63, asSa65, asSa84, asSa86, asSa88, asSa98, asSa100, asSa102, asSa92, asSa94, asSa95]
def chkooo_d6 : List Duty := [zSa3]
theorem chkooo_y6 : endC chkooo [(3, 3)] 1000 (callC Try.prog (tellA chkooo_t6) ltSa1 [(35, shapeC)] [] 3000 40 13 chkooo) = some chkooo_d6 := by kernel_rfl
def chkooo_t7 : List (Q × Bool) := [asSa62, asSa63, asSa65, asSa84, asSa86, asSa88, asSa98, asSa100, asSa102, asSa92, asSa94, asSa96, asSa97, asSa82]
def chkooo_d7 : List Duty := [zSa3]
theorem chkooo_y7 : endC chkooo [(3, 3)] 1000 (callC Try.prog (tellA chkooo_t7) ltSa1 [(35, shapeC)] [] 3000 40 13 chkooo) = some chkooo_d7 := by kernel_rfl
def chkooo_t8 : List (Q × Bool) := [asSa62, asSa63, asSa65, asSa84, asSa86, asSa88, asSa98, asSa100, asSa102, asSa92, asSa94, asSa96, asSa97, asSa83]
def chkooo_d8 : List Duty := [(true, (.int 0), zSa7)]
theorem chkooo_y8 : endC chkooo [(3, 3)] 1000 (callC Try.prog (tellA chkooo_t8) ltSa1 [(35, shapeC)] [] 3000 40 13 chkooo) = some chkooo_d8 := by kernel_rfl
set_option maxHeartbeats 16000000 in
theorem chkooo_holds : CHolds Try.prog 13 chkooo F := by
 refine cholds_of sound (tableCons numOY_holds (tableCons numON_holds (tableNil _ _))) (specsCons shapeC_holds (specsNil _ _)) (oversNil _ _) (fuel := 3000) (depth := 40) (by kernel_rfl) fun d hp hR hA => ?_
 have hp := allTold'_iff.2 hp
 simp only [chkooo, tl] at hp hR hA
 have hk := kind_in (d 0).toInt
 have tf := tab_in hk
 by_cases g0 : nameI (kindI (d 0).toInt) = []
 ·refine ⟨tellA chkooo_t0, _, _, _, tellA_ok (allTold'_iff.1 ?_), chkooo_y0, dutiesTold_ok ?_⟩
  all_goals simp only [chkooo_t0, chkooo_d0, F30, F31, F32, F33, rowF, lowF, topF, nameF, drop_z, tl]
  all_goals first | done | (and_intros <;> first | omega | assumption | exact one_to (by assumption) | exact not_to (by assumption) | trivial) | (simp [wrongI, holdB, g0]; done)
 ·by_cases g1 : lowI (kindI (d 0).toInt) 1 ≤ (d 1).toInt
  ·by_cases g2 : (d 1).toInt ≤ topI (kindI (d 0).toInt) 1
   ·by_cases g3 : lowI (kindI (d 0).toInt) 2 ≤ (d 3).toInt
    ·by_cases g4 : (d 3).toInt ≤ topI (kindI (d 0).toInt) 2
     ·by_cases g5 : lowI (kindI (d 0).toInt) 3 ≤ (d 5).toInt
      ·by_cases g6 : (d 5).toInt ≤ topI (kindI (d 0).toInt) 3
       ·by_cases g7 : fineL (d 2).ints = true
        ·refine ⟨tellA chkooo_t8, _, _, _, tellA_ok (allTold'_iff.1 ?_), chkooo_y8, dutiesTold_ok ?_⟩
         all_goals simp only [chkooo_t8, chkooo_d8, F30, F31, F32, F33, rowF, lowF, topF, nameF, drop_z, tl]
         all_goals first | done | (and_intros <;> first | omega | assumption | exact one_to (by assumption) | exact not_to (by assumption) | trivial) | (simp [wrongI, holdB, g0, g1, g2, g3, g4, g5, g6, g7]; done)
        ·refine ⟨tellA chkooo_t7, _, _, _, tellA_ok (allTold'_iff.1 ?_), chkooo_y7, dutiesTold_ok ?_⟩
         all_goals simp only [chkooo_t7, chkooo_d7, F30, F31, F32, F33, rowF, lowF, topF, nameF, drop_z, tl]
         all_goals first | done | (and_intros <;> first | omega | assumption | exact one_to (by assumption) | exact not_to (by assumption) | trivial) | (simp [wrongI, holdB, g0, g1, g2, g3, g4, g5, g6, g7]; done)
       ·refine ⟨tellA chkooo_t6, _, _, _, tellA_ok (allTold'_iff.1 ?_), chkooo_y6, dutiesTold_ok ?_⟩
        all_goals simp only [chkooo_t6, chkooo_d6, F30, F31, F32, F33, rowF, lowF, topF, nameF, drop_z, tl]
        all_goals first | done | (and_intros <;> first | omega | assumption | exact one_to (by assumption) | exact not_to (by assumption) | trivial) | (simp [wrongI, holdB, g0, g1, g2, g3, g4, g5, g6]; done)
      ·refine ⟨tellA chkooo_t5, _, _, _, tellA_ok (allTold'_iff.1 ?_), chkooo_y5, dutiesTold_ok ?_⟩
       all_goals simp only [chkooo_t5, chkooo_d5, F30, F31, F32, F33, rowF, lowF, topF, nameF, drop_z, tl]
       all_goals first | done | (and_intros <;> first | omega | assumption | exact one_to (by assumption) | exact not_to (by assumption) | trivial) | (simp [wrongI, holdB, g0, g1, g2, g3, g4, g5]; done)
     ·refine ⟨tellA chkooo_t4, _, _, _, tellA_ok (allTold'_iff.1 ?_), chkooo_y4, dutiesTold_ok ?_⟩
      all_goals simp only [chkooo_t4, chkooo_d4, F30, F31, F32, F33, rowF, lowF, topF, nameF, drop_z, tl]
      all_goals first | done | (and_intros <;> first | omega | assumption | exact one_to (by assumption) | exact not_to (by assumption) | trivial) | (simp [wrongI, holdB, g0, g1, g2, g3, g4]; done)
    ·refine ⟨tellA chkooo_t3, _, _, _, tellA_ok (allTold'_iff.1 ?_), chkooo_y3, dutiesTold_ok ?_⟩
     all_goals simp only [chkooo_t3, chkooo_d3, F30, F31, F32, F33, rowF, lowF, topF, nameF, drop_z, tl]
     all_goals first | done | (and_intros <;> first | omega | assumption | exact one_to (by assumption) | exact not_to (by assumption) | trivial) | (simp [wrongI, holdB, g0, g1, g2, g3]; done)
   ·refine ⟨tellA chkooo_t2, _, _, _, tellA_ok (allTold'_iff.1 ?_), chkooo_y2, dutiesTold_ok ?_⟩
    all_goals simp only [chkooo_t2, chkooo_d2, F30, F31, F32, F33, rowF, lowF, topF, nameF, drop_z, tl]
    all_goals first | done | (and_intros <;> first | omega | assumption | exact one_to (by assumption) | exact not_to (by assumption) | trivial) | (simp [wrongI, holdB, g0, g1, g2]; done)
  ·refine ⟨tellA chkooo_t1, _, _, _, tellA_ok (allTold'_iff.1 ?_), chkooo_y1, dutiesTold_ok ?_⟩
   all_goals simp only [chkooo_t1, chkooo_d1, F30, F31, F32, F33, rowF, lowF, topF, nameF, drop_z, tl]
   all_goals first | done | (and_intros <;> first | omega | assumption | exact one_to (by assumption) | exact not_to (by assumption) | trivial) | (simp [wrongI, holdB, g0, g1]; done)

end Go.Proofs.Ytmmfjmmldhnpfaa.Sa
