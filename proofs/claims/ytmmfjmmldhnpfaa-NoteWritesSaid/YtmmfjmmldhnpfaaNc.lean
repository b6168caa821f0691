/-
 Contracts of this seat: what loops and calls leave, for all inputs. No condition.
-/
import Derived.Test.YtmmfjmmldhnpfaaSycp
import Derived.Test.YtmmfjmmldhnpfaaCo
import Derived.Test.YtmmfjmmldhnpfaaNa
import Derived.Test.YtmmfjmmldhnpfaaNb
set_option linter.unusedSimpArgs false
set_option linter.unusedVariables false
namespace Go.Proofs.Ytmmfjmmldhnpfaa.Nc
open Go.RowKit Go.Ev Go.Proofs.Ytmmfjmmldhnpfaa.Co

open Go.Proofs.Ytmmfjmmldhnpfaa.Na
open Go.Proofs.Ytmmfjmmldhnpfaa.Nb
theorem tab_name : ∀ k : Fin 25, (k : Int) = 0 ∨ nameI k ≠ [] := by decide +kernel
theorem name_of {k : Int} (h : kindI k = 0) : nameI (kindI k) = [] := by rw [h]; rfl
theorem name_to {k : Int} (h : ¬ kindI k = 0) : ¬ nameI (kindI k) = [] := by
 have g := kind_in k
 have := tab_name ⟨(kindI k).toNat, by omega⟩
 rw [show (((⟨(kindI k).toNat, by omega⟩ : Fin 25) : Nat) : Int) = kindI k by simp; omega] at this
 exact this.resolve_left h
theorem kind_pos {k : Int} (h : ¬ kindI k = 0) : 1 ≤ k ∧ k ≤ 24 := by
 refine Decidable.byContradiction fun g => h ?_
 exact if_neg g
theorem kind_non {k : Int} (h : kindI k = 0) : ¬ (1 ≤ k ∧ k ≤ 24) := by
 intro g
 rw [show kindI k = k from if_pos g] at h
 omega

abbrev zNc13 : E := (.bi .pair (.un .len (.var 2)) (.int 0))
abbrev txNc0 : E := (.fn 1 zNc13)
abbrev zNc14 : E := (.bi .pair (.un .len (.var 4)) (.int 0))
abbrev txNc1 : E := (.fn 1 zNc14)
abbrev zNc15 : E := (.bi .pair (.un .len (.var 6)) (.int 0))
abbrev txNc2 : E := (.fn 1 zNc15)
abbrev zNc9 : E := (.bi .sel (.var 2) (.var 0))
abbrev txNc3 : E := (.bi .pair zNc9 (.int 0))
abbrev zNc7 : E := (.bi .add (.var 0) (.int 1))
abbrev txNc4 : E := (.bi .pair zNc7 (.int 0))
abbrev zNc4 : E := (.bi .pair (.var 0) (.int 0))
abbrev txNc5 : E := (.bi .pair (.var 2) zNc4)
abbrev txNc6 : E := (.bi .pair (.var 2) (.bi .pair (.int 0) (.int 0)))
abbrev txNc7 : E := (.bi .pair (.var 4) zNc4)
abbrev txNc8 : E := (.bi .pair (.var 4) (.bi .pair (.var 6) (.int 0)))
abbrev txNc9 : E := (.bi .pair (.var 4) (.bi .pair (.int 0) (.int 0)))
abbrev txNc10 : E := (.tr .seg (.bi .sel (.var 4) (.var 0)) (.int 0) (.int 16))
abbrev txNc11 : E := (.bi .pair (.un .len (.var 6)) (.bi .pair (.var 2) (.int 0)))
abbrev txNc12 : E := (.bi .sel (.fn 31 (.int 0)) (.fn 30 zNc4))
abbrev txNc13 : E := (.un .len (.fn 80 (.bi .pair (.var 2) txNc4)))
abbrev txNc14 : E := (.un .len (.fn 81 (.bi .pair (.var 4) txNc4)))
abbrev txNc15 : E := (.bi .add (.var 21) (.un .len (.fn 80 txNc5)))
abbrev txNc16 : E := (.bi .add (.var 21) (.un .len (.fn 81 txNc7)))
abbrev txNc17 : E := (.bi .pair (.var 0) (.bi .pair (.var 2) txNc8))
abbrev txNc18 : E := (.bi .add (.fn 1 zNc4) txNc0)
abbrev txNc19 : E := (.bi .sel (.bi .sel txNc12 (.int 1)) (.int 0))
abbrev txNc20 : E := (.bi .sel (.bi .sel txNc12 (.int 1)) (.int 1))
abbrev txNc21 : E := (.bi .sel (.bi .sel txNc12 (.int 2)) (.int 0))
abbrev txNc22 : E := (.bi .sel (.bi .sel txNc12 (.int 2)) (.int 1))
abbrev txNc23 : E := (.bi .sel (.bi .sel txNc12 (.int 3)) (.int 0))
abbrev txNc24 : E := (.bi .sel (.bi .sel txNc12 (.int 3)) (.int 1))
abbrev txNc25 : E := (.bi .pair (.un .len (.var 2)) (.bi .pair (.un .len (.var 4)) txNc11))
abbrev zNc12 : E := (.bi .add (.var 21) (.int 16))
abbrev txNc26 : E := (.bi .add zNc12 txNc14)
abbrev zNc10 : E := (.bi .add (.var 21) (.fn 1 txNc3))
abbrev txNc27 : E := (.bi .add zNc10 txNc13)
abbrev zNc21 : E := (.bi .add txNc18 (.un .len (.fn 80 txNc6)))
abbrev txNc28 : E := (.bi .add zNc21 txNc1)
abbrev zNc22 : E := (.bi .add txNc28 (.un .len (.fn 81 txNc9)))
abbrev txNc29 : E := (.bi .add zNc22 txNc2)
abbrev zNc0 : Nat × RW := (1, .cells 26 0 false false [.sint .i64 (.var 8), .pv (.int .i64) (.var 2), .pv (.agg [.int .u8, .int .u8, .int .u8, .int .u8, .int .u8, .int .u8, .int .u8, .int .u8, .int .u8, .int .u8, .int .u8, .int .u8, .int .u8, .int .u8, .int .u8, .int .u8]) (.var 4), .pv (.int .u8) (.var 6)])
abbrev zNc1 : E := (.bi .add (.var 0) (.int (-1)))
abbrev zNc2 : E := (.bi .sel txNc12 (.int 0))
abbrev zNc3 : E := (.fn 32 (.bi .pair (.var 0) txNc25))
abbrev zNc5 : Duty := (true, (.int 5), (.un .len zNc2))
abbrev zNc6 : Duty := (true, (.int 4), (.un .len zNc2))
abbrev zNc19 : E := (.un .len (.fn 82 txNc17))
abbrev zNc8 : Duty := (true, (.bi .add txNc29 (.un .len (.var 6))), zNc19)
abbrev zNc11 : Nat × RW := (3, .cells 58 0 false false [.sslice 13 (.int 0) (.var 21) (.var 21) true, .bool false])
abbrev zNc16 : E := (.bi .app (.var 22) (.fn 3 txNc3))
abbrev zNc17 : Duty := (true, (.int 6), (.un .len zNc2))
abbrev zNc18 : E := (.bi .app (.var 22) txNc10)
abbrev zNc20 : Nat × RW := (13, .seq ⟨5, .u8, .var 21, .var 22, true, false⟩)
def ofY : CSpec := { args := [.sint .i64 (.var 0)], next := 0, rows := [], pre := [(.eq (.fn 30 zNc4) (.int 0), false)], res := .tuple [.agg [.sstr (.un .len zNc2) zNc2, .sint .i64 txNc19, .sint .i64 txNc20, .sint .i64 txNc21, .sint .i64 txNc22, .sint .i64 txNc23, .sint .i64 txNc24], .bool true], frows := [], same := [] }
abbrev asNc0 : Q × Bool := ((.le (.int 1) (.var 0)), true)
abbrev asNc1 : Q × Bool := ((.le (.var 0) (.int 24)), true)
abbrev asNc2 : Q × Bool := ((.fit .i64 zNc1), true)
abbrev asNc3 : Q × Bool := ((.eq zNc1 (.int 0)), true)
def ofY_t0 : List (Q × Bool) := [asNc0, asNc1, asNc2, asNc3]
def ofY_d0 : List Duty := [zNc5, (false, (.lits [98, 101, 103, 105, 110]), zNc2), (true, (.int 3), txNc19), (true, (.int 3), txNc20), (true, (.int 0), txNc21), (true, (.int 0), txNc22), (true, (.int 0), txNc23), (true, (.int 0), txNc24)]
theorem ofY_y0 : endC ofY [] 1000 (callC Try.prog (tellA ofY_t0) [] [] [] 3000 40 38 ofY) = some ofY_d0 := by kernel_rfl
abbrev asNc4 : Q × Bool := ((.eq zNc1 (.int 0)), false)
abbrev asNc5 : Q × Bool := ((.eq zNc1 (.int 1)), true)
def ofY_t1 : List (Q × Bool) := [asNc0, asNc1, asNc2, asNc4, asNc5]
def ofY_d1 : List Duty := [zNc6, (false, (.lits [112, 97, 114, 116]), zNc2), (true, (.int 1), txNc19), (true, (.int 1), txNc20), (true, (.int 0), txNc21), (true, (.int 0), txNc22), (true, (.int 1), txNc23), (true, (.int 1000), txNc24)]
theorem ofY_y1 : endC ofY [] 1000 (callC Try.prog (tellA ofY_t1) [] [] [] 3000 40 38 ofY) = some ofY_d1 := by kernel_rfl
abbrev asNc6 : Q × Bool := ((.eq zNc1 (.int 1)), false)
abbrev asNc7 : Q × Bool := ((.eq zNc1 (.int 2)), true)
def ofY_t2 : List (Q × Bool) := [asNc0, asNc1, asNc2, asNc4, asNc6, asNc7]
def ofY_d2 : List Duty := [zNc5, (false, (.lits [113, 117, 101, 114, 121]), zNc2), (true, (.int 0), txNc19), (true, (.int 0), txNc20), (true, (.int 1), txNc21), (true, (.int 16), txNc22), (true, (.int 0), txNc23), (true, (.int 0), txNc24)]
theorem ofY_y2 : endC ofY [] 1000 (callC Try.prog (tellA ofY_t2) [] [] [] 3000 40 38 ofY) = some ofY_d2 := by kernel_rfl
abbrev asNc8 : Q × Bool := ((.eq zNc1 (.int 2)), false)
abbrev asNc9 : Q × Bool := ((.eq zNc1 (.int 3)), true)
def ofY_t3 : List (Q × Bool) := [asNc0, asNc1, asNc2, asNc4, asNc6, asNc8, asNc9]
def ofY_d3 : List Duty := [zNc6, (false, (.lits [103, 105, 118, 101]), zNc2), (true, (.int 0), txNc19), (true, (.int 0), txNc20), (true, (.int 1), txNc21), (true, (.int 1), txNc22), (true, (.int 1), txNc23), (true, (.int 1024), txNc24)]
theorem ofY_y3 : endC ofY [] 1000 (callC Try.prog (tellA ofY_t3) [] [] [] 3000 40 38 ofY) = some ofY_d3 := by kernel_rfl
abbrev asNc10 : Q × Bool := ((.eq zNc1 (.int 3)), false)
abbrev asNc11 : Q × Bool := ((.eq zNc1 (.int 4)), true)
def ofY_t4 : List (Q × Bool) := [asNc0, asNc1, asNc2, asNc4, asNc6, asNc8, asNc10, asNc11]
def ofY_d4 : List Duty := [zNc17, (false, (.lits [99, 111, 109, 109, 105, 116]), zNc2), (true, (.int 0), txNc19), (true, (.int 0), txNc20), (true, (.int 0), txNc21), (true, (.int 0), txNc22), (true, (.int 0), txNc23), (true, (.int 0), txNc24)]
theorem ofY_y4 : endC ofY [] 1000 (callC Try.prog (tellA ofY_t4) [] [] [] 3000 40 38 ofY) = some ofY_d4 := by kernel_rfl
abbrev asNc12 : Q × Bool := ((.eq zNc1 (.int 4)), false)
abbrev asNc13 : Q × Bool := ((.eq zNc1 (.int 5)), true)
def ofY_t5 : List (Q × Bool) := [asNc0, asNc1, asNc2, asNc4, asNc6, asNc8, asNc10, asNc12, asNc13]
def ofY_d5 : List Duty := [zNc5, (false, (.lits [97, 98, 111, 114, 116]), zNc2), (true, (.int 0), txNc19), (true, (.int 0), txNc20), (true, (.int 0), txNc21), (true, (.int 0), txNc22), (true, (.int 0), txNc23), (true, (.int 0), txNc24)]
theorem ofY_y5 : endC ofY [] 1000 (callC Try.prog (tellA ofY_t5) [] [] [] 3000 40 38 ofY) = some ofY_d5 := by kernel_rfl
abbrev asNc14 : Q × Bool := ((.eq zNc1 (.int 5)), false)
abbrev asNc15 : Q × Bool := ((.eq zNc1 (.int 6)), true)
def ofY_t6 : List (Q × Bool) := [asNc0, asNc1, asNc2, asNc4, asNc6, asNc8, asNc10, asNc12, asNc14, asNc15]
def ofY_d6 : List Duty := [zNc6, (false, (.lits [108, 105, 115, 116]), zNc2), (true, (.int 0), txNc19), (true, (.int 0), txNc20), (true, (.int 0), txNc21), (true, (.int 0), txNc22), (true, (.int 0), txNc23), (true, (.int 0), txNc24)]
theorem ofY_y6 : endC ofY [] 1000 (callC Try.prog (tellA ofY_t6) [] [] [] 3000 40 38 ofY) = some ofY_d6 := by kernel_rfl
abbrev asNc16 : Q × Bool := ((.eq zNc1 (.int 6)), false)
abbrev asNc17 : Q × Bool := ((.eq zNc1 (.int 7)), true)
def ofY_t7 : List (Q × Bool) := [asNc0, asNc1, asNc2, asNc4, asNc6, asNc8, asNc10, asNc12, asNc14, asNc16, asNc17]
def ofY_d7 : List Duty := [(true, (.int 7), (.un .len zNc2)), (false, (.lits [114, 101, 115, 116, 111, 114, 101]), zNc2), (true, (.int 1), txNc19), (true, (.int 1), txNc20), (true, (.int 0), txNc21), (true, (.int 0), txNc22), (true, (.int 0), txNc23), (true, (.int 0), txNc24)]
theorem ofY_y7 : endC ofY [] 1000 (callC Try.prog (tellA ofY_t7) [] [] [] 3000 40 38 ofY) = some ofY_d7 := by kernel_rfl
abbrev asNc18 : Q × Bool := ((.eq zNc1 (.int 7)), false)
abbrev asNc19 : Q × Bool := ((.eq zNc1 (.int 8)), true)
def ofY_t8 : List (Q × Bool) := [asNc0, asNc1, asNc2, asNc4, asNc6, asNc8, asNc10, asNc12, asNc14, asNc16, asNc18, asNc19]
def ofY_d8 : List Duty := [zNc6, (false, (.lits [109, 111, 114, 101]), zNc2), (true, (.int 1), txNc19), (true, (.int 1), txNc20), (true, (.int 0), txNc21), (true, (.int 0), txNc22), (true, (.int 0), txNc23), (true, (.int 0), txNc24)]
theorem ofY_y8 : endC ofY [] 1000 (callC Try.prog (tellA ofY_t8) [] [] [] 3000 40 38 ofY) = some ofY_d8 := by kernel_rfl
abbrev asNc20 : Q × Bool := ((.eq zNc1 (.int 8)), false)
abbrev asNc21 : Q × Bool := ((.eq zNc1 (.int 9)), true)
def ofY_t9 : List (Q × Bool) := [asNc0, asNc1, asNc2, asNc4, asNc6, asNc8, asNc10, asNc12, asNc14, asNc16, asNc18, asNc20, asNc21]
def ofY_d9 : List Duty := [zNc5, (false, (.lits [102, 101, 116, 99, 104]), zNc2), (true, (.int 0), txNc19), (true, (.int 0), txNc20), (true, (.int 1), txNc21), (true, (.int 16), txNc22), (true, (.int 0), txNc23), (true, (.int 0), txNc24)]
theorem ofY_y9 : endC ofY [] 1000 (callC Try.prog (tellA ofY_t9) [] [] [] 3000 40 38 ofY) = some ofY_d9 := by kernel_rfl
abbrev asNc22 : Q × Bool := ((.eq zNc1 (.int 9)), false)
abbrev asNc23 : Q × Bool := ((.eq zNc1 (.int 10)), true)
def ofY_t10 : List (Q × Bool) := [asNc0, asNc1, asNc2, asNc4, asNc6, asNc8, asNc10, asNc12, asNc14, asNc16, asNc18, asNc20, asNc22, asNc23]
def ofY_d10 : List Duty := [zNc17, (false, (.lits [118, 101, 114, 105, 102, 121]), zNc2), (true, (.int 1), txNc19), (true, (.int 1), txNc20), (true, (.int 0), txNc21), (true, (.int 0), txNc22), (true, (.int 0), txNc23), (true, (.int 0), txNc24)]
theorem ofY_y10 : endC ofY [] 1000 (callC Try.prog (tellA ofY_t10) [] [] [] 3000 40 38 ofY) = some ofY_d10 := by kernel_rfl
abbrev asNc24 : Q × Bool := ((.eq zNc1 (.int 10)), false)
abbrev asNc25 : Q × Bool := ((.eq zNc1 (.int 11)), true)
def ofY_t11 : List (Q × Bool) := [asNc0, asNc1, asNc2, asNc4, asNc6, asNc8, asNc10, asNc12, asNc14, asNc16, asNc18, asNc20, asNc22, asNc24, asNc25]
def ofY_d11 : List Duty := [zNc17, (false, (.lits [102, 111, 114, 103, 101, 116]), zNc2), (true, (.int 1), txNc19), (true, (.int 1), txNc20), (true, (.int 0), txNc21), (true, (.int 0), txNc22), (true, (.int 0), txNc23), (true, (.int 0), txNc24)]
theorem ofY_y11 : endC ofY [] 1000 (callC Try.prog (tellA ofY_t11) [] [] [] 3000 40 38 ofY) = some ofY_d11 := by kernel_rfl
abbrev asNc26 : Q × Bool := ((.eq zNc1 (.int 11)), false)
abbrev asNc27 : Q × Bool := ((.eq zNc1 (.int 12)), true)
def ofY_t12 : List (Q × Bool) := [asNc0, asNc1, asNc2, asNc4, asNc6, asNc8, asNc10, asNc12, asNc14, asNc16, asNc18, asNc20, asNc22, asNc24, asNc26, asNc27]
def ofY_d12 : List Duty := [zNc5, (false, (.lits [112, 114, 117, 110, 101]), zNc2), (true, (.int 0), txNc19), (true, (.int 0), txNc20), (true, (.int 0), txNc21), (true, (.int 0), txNc22), (true, (.int 0), txNc23), (true, (.int 0), txNc24)]
theorem ofY_y12 : endC ofY [] 1000 (callC Try.prog (tellA ofY_t12) [] [] [] 3000 40 38 ofY) = some ofY_d12 := by kernel_rfl
abbrev asNc28 : Q × Bool := ((.eq zNc1 (.int 12)), false)
abbrev asNc29 : Q × Bool := ((.eq zNc1 (.int 13)), true)
def ofY_t13 : List (Q × Bool) := [asNc0, asNc1, asNc2, asNc4, asNc6, asNc8, asNc10, asNc12, asNc14, asNc16, asNc18, asNc20, asNc22, asNc24, asNc26, asNc28, asNc29]
def ofY_d13 : List Duty := [zNc5, (false, (.lits [117, 115, 97, 103, 101]), zNc2), (true, (.int 0), txNc19), (true, (.int 0), txNc20), (true, (.int 0), txNc21), (true, (.int 0), txNc22), (true, (.int 0), txNc23), (true, (.int 0), txNc24)]
theorem ofY_y13 : endC ofY [] 1000 (callC Try.prog (tellA ofY_t13) [] [] [] 3000 40 38 ofY) = some ofY_d13 := by kernel_rfl
abbrev asNc30 : Q × Bool := ((.eq zNc1 (.int 13)), false)
abbrev asNc31 : Q × Bool := ((.eq zNc1 (.int 14)), true)
def ofY_t14 : List (Q × Bool) := [asNc0, asNc1, asNc2, asNc4, asNc6, asNc8, asNc10, asNc12, asNc14, asNc16, asNc18, asNc20, asNc22, asNc24, asNc26, asNc28, asNc30, asNc31]
def ofY_d14 : List Duty := [zNc6, (false, (.lits [112, 105, 110, 103]), zNc2), (true, (.int 1), txNc19), (true, (.int 1), txNc20), (true, (.int 0), txNc21), (true, (.int 0), txNc22), (true, (.int 0), txNc23), (true, (.int 0), txNc24)]
theorem ofY_y14 : endC ofY [] 1000 (callC Try.prog (tellA ofY_t14) [] [] [] 3000 40 38 ofY) = some ofY_d14 := by kernel_rfl
abbrev asNc32 : Q × Bool := ((.eq zNc1 (.int 14)), false)
abbrev asNc33 : Q × Bool := ((.eq zNc1 (.int 15)), true)
def ofY_t15 : List (Q × Bool) := [asNc0, asNc1, asNc2, asNc4, asNc6, asNc8, asNc10, asNc12, asNc14, asNc16, asNc18, asNc20, asNc22, asNc24, asNc26, asNc28, asNc30, asNc32, asNc33]
def ofY_d15 : List Duty := [zNc5, (false, (.lits [114, 101, 97, 100, 121]), zNc2), (true, (.int 1), txNc19), (true, (.int 1), txNc20), (true, (.int 0), txNc21), (true, (.int 0), txNc22), (true, (.int 0), txNc23), (true, (.int 0), txNc24)]
theorem ofY_y15 : endC ofY [] 1000 (callC Try.prog (tellA ofY_t15) [] [] [] 3000 40 38 ofY) = some ofY_d15 := by kernel_rfl
abbrev asNc34 : Q × Bool := ((.eq zNc1 (.int 15)), false)
abbrev asNc35 : Q × Bool := ((.eq zNc1 (.int 16)), true)
def ofY_t16 : List (Q × Bool) := [asNc0, asNc1, asNc2, asNc4, asNc6, asNc8, asNc10, asNc12, asNc14, asNc16, asNc18, asNc20, asNc22, asNc24, asNc26, asNc28, asNc30, asNc32, asNc34, asNc35]
def ofY_d16 : List Duty := [zNc6, (false, (.lits [104, 97, 118, 101]), zNc2), (true, (.int 1), txNc19), (true, (.int 16), txNc20), (true, (.int 0), txNc21), (true, (.int 0), txNc22), (true, (.int 0), txNc23), (true, (.int 0), txNc24)]
theorem ofY_y16 : endC ofY [] 1000 (callC Try.prog (tellA ofY_t16) [] [] [] 3000 40 38 ofY) = some ofY_d16 := by kernel_rfl
abbrev asNc36 : Q × Bool := ((.eq zNc1 (.int 16)), false)
abbrev asNc37 : Q × Bool := ((.eq zNc1 (.int 17)), true)
def ofY_t17 : List (Q × Bool) := [asNc0, asNc1, asNc2, asNc4, asNc6, asNc8, asNc10, asNc12, asNc14, asNc16, asNc18, asNc20, asNc22, asNc24, asNc26, asNc28, asNc30, asNc32, asNc34, asNc36, asNc37]
def ofY_d17 : List Duty := [zNc6, (false, (.lits [116, 111, 111, 107]), zNc2), (true, (.int 0), txNc19), (true, (.int 0), txNc20), (true, (.int 1), txNc21), (true, (.int 1), txNc22), (true, (.int 0), txNc23), (true, (.int 0), txNc24)]
theorem ofY_y17 : endC ofY [] 1000 (callC Try.prog (tellA ofY_t17) [] [] [] 3000 40 38 ofY) = some ofY_d17 := by kernel_rfl
abbrev asNc38 : Q × Bool := ((.eq zNc1 (.int 17)), false)
abbrev asNc39 : Q × Bool := ((.eq zNc1 (.int 18)), true)
def ofY_t18 : List (Q × Bool) := [asNc0, asNc1, asNc2, asNc4, asNc6, asNc8, asNc10, asNc12, asNc14, asNc16, asNc18, asNc20, asNc22, asNc24, asNc26, asNc28, asNc30, asNc32, asNc34, asNc36, asNc38, asNc39]
def ofY_d18 : List Duty := [zNc6, (false, (.lits [100, 111, 110, 101]), zNc2), (true, (.int 1), txNc19), (true, (.int 1), txNc20), (true, (.int 0), txNc21), (true, (.int 0), txNc22), (true, (.int 0), txNc23), (true, (.int 0), txNc24)]
theorem ofY_y18 : endC ofY [] 1000 (callC Try.prog (tellA ofY_t18) [] [] [] 3000 40 38 ofY) = some ofY_d18 := by kernel_rfl
abbrev asNc40 : Q × Bool := ((.eq zNc1 (.int 18)), false)
abbrev asNc41 : Q × Bool := ((.eq zNc1 (.int 19)), true)
def ofY_t19 : List (Q × Bool) := [asNc0, asNc1, asNc2, asNc4, asNc6, asNc8, asNc10, asNc12, asNc14, asNc16, asNc18, asNc20, asNc22, asNc24, asNc26, asNc28, asNc30, asNc32, asNc34, asNc36, asNc38, asNc40, asNc41]
def ofY_d19 : List Duty := [zNc6, (false, (.lits [102, 97, 105, 108]), zNc2), (true, (.int 2), txNc19), (true, (.int 2), txNc20), (true, (.int 0), txNc21), (true, (.int 0), txNc22), (true, (.int 0), txNc23), (true, (.int 0), txNc24)]
theorem ofY_y19 : endC ofY [] 1000 (callC Try.prog (tellA ofY_t19) [] [] [] 3000 40 38 ofY) = some ofY_d19 := by kernel_rfl
abbrev asNc42 : Q × Bool := ((.eq zNc1 (.int 19)), false)
abbrev asNc43 : Q × Bool := ((.eq zNc1 (.int 20)), true)
def ofY_t20 : List (Q × Bool) := [asNc0, asNc1, asNc2, asNc4, asNc6, asNc8, asNc10, asNc12, asNc14, asNc16, asNc18, asNc20, asNc22, asNc24, asNc26, asNc28, asNc30, asNc32, asNc34, asNc36, asNc38, asNc40, asNc42, asNc43]
def ofY_d20 : List Duty := [zNc5, (false, (.lits [115, 110, 97, 112, 115]), zNc2), (true, (.int 0), txNc19), (true, (.int 128), txNc20), (true, (.int 0), txNc21), (true, (.int 0), txNc22), (true, (.int 0), txNc23), (true, (.int 0), txNc24)]
theorem ofY_y20 : endC ofY [] 1000 (callC Try.prog (tellA ofY_t20) [] [] [] 3000 40 38 ofY) = some ofY_d20 := by kernel_rfl
abbrev asNc44 : Q × Bool := ((.eq zNc1 (.int 20)), false)
abbrev asNc45 : Q × Bool := ((.eq zNc1 (.int 21)), true)
def ofY_t21 : List (Q × Bool) := [asNc0, asNc1, asNc2, asNc4, asNc6, asNc8, asNc10, asNc12, asNc14, asNc16, asNc18, asNc20, asNc22, asNc24, asNc26, asNc28, asNc30, asNc32, asNc34, asNc36, asNc38, asNc40, asNc42, asNc44, asNc45]
def ofY_d21 : List Duty := [zNc5, (false, (.lits [112, 105, 101, 99, 101]), zNc2), (true, (.int 2), txNc19), (true, (.int 2), txNc20), (true, (.int 0), txNc21), (true, (.int 0), txNc22), (true, (.int 0), txNc23), (true, (.int 1000), txNc24)]
theorem ofY_y21 : endC ofY [] 1000 (callC Try.prog (tellA ofY_t21) [] [] [] 3000 40 38 ofY) = some ofY_d21 := by kernel_rfl
abbrev asNc46 : Q × Bool := ((.eq zNc1 (.int 21)), false)
abbrev asNc47 : Q × Bool := ((.eq zNc1 (.int 22)), true)
def ofY_t22 : List (Q × Bool) := [asNc0, asNc1, asNc2, asNc4, asNc6, asNc8, asNc10, asNc12, asNc14, asNc16, asNc18, asNc20, asNc22, asNc24, asNc26, asNc28, asNc30, asNc32, asNc34, asNc36, asNc38, asNc40, asNc42, asNc44, asNc46, asNc47]
def ofY_d22 : List Duty := [zNc5, (false, (.lits [99, 104, 117, 110, 107]), zNc2), (true, (.int 0), txNc19), (true, (.int 0), txNc20), (true, (.int 1), txNc21), (true, (.int 1), txNc22), (true, (.int 1), txNc23), (true, (.int 1024), txNc24)]
theorem ofY_y22 : endC ofY [] 1000 (callC Try.prog (tellA ofY_t22) [] [] [] 3000 40 38 ofY) = some ofY_d22 := by kernel_rfl
abbrev asNc48 : Q × Bool := ((.eq zNc1 (.int 22)), false)
abbrev asNc49 : Q × Bool := ((.eq zNc1 (.int 23)), true)
def ofY_t23 : List (Q × Bool) := [asNc0, asNc1, asNc2, asNc4, asNc6, asNc8, asNc10, asNc12, asNc14, asNc16, asNc18, asNc20, asNc22, asNc24, asNc26, asNc28, asNc30, asNc32, asNc34, asNc36, asNc38, asNc40, asNc42, asNc44, asNc46, asNc48, asNc49]
def ofY_d23 : List Duty := [zNc5, (false, (.lits [99, 111, 117, 110, 116]), zNc2), (true, (.int 2), txNc19), (true, (.int 2), txNc20), (true, (.int 0), txNc21), (true, (.int 0), txNc22), (true, (.int 0), txNc23), (true, (.int 0), txNc24)]
theorem ofY_y23 : endC ofY [] 1000 (callC Try.prog (tellA ofY_t23) [] [] [] 3000 40 38 ofY) = some ofY_d23 := by kernel_rfl
theorem ofY_holds : CHolds Try.prog 38 ofY F := by
 refine cholds_of sound (tableNil _ _) (specsNil _ _) (oversNil _ _) (fuel := 3000) (depth := 40) (by kernel_rfl) fun d hp hR hA => ?_
 have hp := allTold'_iff.2 hp
 simp only [ofY, tl] at hp hR hA
 simp only [F30, D.toInt_int] at hp
 have hk := kind_pos hp
 have hc : (d 0).toInt = 1 ∨ (d 0).toInt = 2 ∨ (d 0).toInt = 3 ∨ (d 0).toInt = 4 ∨ (d 0).toInt = 5 ∨ (d 0).toInt = 6 ∨ (d 0).toInt = 7 ∨ (d 0).toInt = 8 ∨ (d 0).toInt = 9 ∨ (d 0).toInt = 10 ∨ (d 0).toInt = 11 ∨ (d 0).toInt = 12 ∨ (d 0).toInt = 13 ∨ (d 0).toInt = 14 ∨ (d 0).toInt = 15 ∨ (d 0).toInt = 16 ∨ (d 0).toInt = 17 ∨ (d 0).toInt = 18 ∨ (d 0).toInt = 19 ∨ (d 0).toInt = 20 ∨ (d 0).toInt = 21 ∨ (d 0).toInt = 22 ∨ (d 0).toInt = 23 ∨ (d 0).toInt = 24 := by omega
 rcases hc with h | h | h | h | h | h | h | h | h | h | h | h | h | h | h | h | h | h | h | h | h | h | h | h
 ·have hq : kindI (d 0).toInt = 1 := by rw [h]; rfl
  refine ⟨tellA ofY_t0, _, _, _, tellA_ok (allTold'_iff.1 ?_), ofY_y0, dutiesTold_ok ?_⟩
  all_goals simp only [ofY_t0, ofY_d0, F30, F31, hq, D.toInt_int, tl]
  all_goals first | done | omega | trivial | (and_intros <;> first | done | omega | rfl)
 ·have hq : kindI (d 0).toInt = 2 := by rw [h]; rfl
  refine ⟨tellA ofY_t1, _, _, _, tellA_ok (allTold'_iff.1 ?_), ofY_y1, dutiesTold_ok ?_⟩
  all_goals simp only [ofY_t1, ofY_d1, F30, F31, hq, D.toInt_int, tl]
  all_goals first | done | omega | trivial | (and_intros <;> first | done | omega | rfl)
 ·have hq : kindI (d 0).toInt = 3 := by rw [h]; rfl
  refine ⟨tellA ofY_t2, _, _, _, tellA_ok (allTold'_iff.1 ?_), ofY_y2, dutiesTold_ok ?_⟩
  all_goals simp only [ofY_t2, ofY_d2, F30, F31, hq, D.toInt_int, tl]
  all_goals first | done | omega | trivial | (and_intros <;> first | done | omega | rfl)
 ·have hq : kindI (d 0).toInt = 4 := by rw [h]; rfl
  refine ⟨tellA ofY_t3, _, _, _, tellA_ok (allTold'_iff.1 ?_), ofY_y3, dutiesTold_ok ?_⟩
  all_goals simp only [ofY_t3, ofY_d3, F30, F31, hq, D.toInt_int, tl]
  all_goals first | done | omega | trivial | (and_intros <;> first | done | omega | rfl)
 ·have hq : kindI (d 0).toInt = 5 := by rw [h]; rfl
  refine ⟨tellA ofY_t4, _, _, _, tellA_ok (allTold'_iff.1 ?_), ofY_y4, dutiesTold_ok ?_⟩
  all_goals simp only [ofY_t4, ofY_d4, F30, F31, hq, D.toInt_int, tl]
  all_goals first | done | omega | trivial | (and_intros <;> first | done | omega | rfl)
 ·have hq : kindI (d 0).toInt = 6 := by rw [h]; rfl
  refine ⟨tellA ofY_t5, _, _, _, tellA_ok (allTold'_iff.1 ?_), ofY_y5, dutiesTold_ok ?_⟩
  all_goals simp only [ofY_t5, ofY_d5, F30, F31, hq, D.toInt_int, tl]
  all_goals first | done | omega | trivial | (and_intros <;> first | done | omega | rfl)
 ·have hq : kindI (d 0).toInt = 7 := by rw [h]; rfl
  refine ⟨tellA ofY_t6, _, _, _, tellA_ok (allTold'_iff.1 ?_), ofY_y6, dutiesTold_ok ?_⟩
  all_goals simp only [ofY_t6, ofY_d6, F30, F31, hq, D.toInt_int, tl]
  all_goals first | done | omega | trivial | (and_intros <;> first | done | omega | rfl)
 ·have hq : kindI (d 0).toInt = 8 := by rw [h]; rfl
  refine ⟨tellA ofY_t7, _, _, _, tellA_ok (allTold'_iff.1 ?_), ofY_y7, dutiesTold_ok ?_⟩
  all_goals simp only [ofY_t7, ofY_d7, F30, F31, hq, D.toInt_int, tl]
  all_goals first | done | omega | trivial | (and_intros <;> first | done | omega | rfl)
 ·have hq : kindI (d 0).toInt = 9 := by rw [h]; rfl
  refine ⟨tellA ofY_t8, _, _, _, tellA_ok (allTold'_iff.1 ?_), ofY_y8, dutiesTold_ok ?_⟩
  all_goals simp only [ofY_t8, ofY_d8, F30, F31, hq, D.toInt_int, tl]
  all_goals first | done | omega | trivial | (and_intros <;> first | done | omega | rfl)
 ·have hq : kindI (d 0).toInt = 10 := by rw [h]; rfl
  refine ⟨tellA ofY_t9, _, _, _, tellA_ok (allTold'_iff.1 ?_), ofY_y9, dutiesTold_ok ?_⟩
  all_goals simp only [ofY_t9, ofY_d9, F30, F31, hq, D.toInt_int, tl]
  all_goals first | done | omega | trivial | (and_intros <;> first | done | omega | rfl)
 ·have hq : kindI (d 0).toInt = 11 := by rw [h]; rfl
  refine ⟨tellA ofY_t10, _, _, _, tellA_ok (allTold'_iff.1 ?_), ofY_y10, dutiesTold_ok ?_⟩
  all_goals simp only [ofY_t10, ofY_d10, F30, F31, hq, D.toInt_int, tl]
  all_goals first | done | omega | trivial | (and_intros <;> first | done | omega | rfl)
 ·have hq : kindI (d 0).toInt = 12 := by rw [h]; rfl
  refine ⟨tellA ofY_t11, _, _, _, tellA_ok (allTold'_iff.1 ?_), ofY_y11, dutiesTold_ok ?_⟩
  all_goals simp only [ofY_t11, ofY_d11, F30, F31, hq, D.toInt_int, tl]
  all_goals first | done | omega | trivial | (and_intros <;> first | done | omega | rfl)
 ·have hq : kindI (d 0).toInt = 13 := by rw [h]; rfl
  refine ⟨tellA ofY_t12, _, _, _, tellA_ok (allTold'_iff.1 ?_), ofY_y12, dutiesTold_ok ?_⟩
  all_goals simp only [ofY_t12, ofY_d12, F30, F31, hq, D.toInt_int, tl]
  all_goals first | done | omega | trivial | (and_intros <;> first | done | omega | rfl)
 ·have hq : kindI (d 0).toInt = 14 := by rw [h]; rfl
  refine ⟨tellA ofY_t13, _, _, _, tellA_ok (allTold'_iff.1 ?_), ofY_y13, dutiesTold_ok ?_⟩
  all_goals simp only [ofY_t13, ofY_d13, F30, F31, hq, D.toInt_int, tl]
  all_goals first | done | omega | trivial | (and_intros <;> first | done | omega | rfl)
 ·have hq : kindI (d 0).toInt = 15 := by rw [h]; rfl
  refine ⟨tellA ofY_t14, _, _, _, tellA_ok (allTold'_iff.1 ?_), ofY_y14, dutiesTold_ok ?_⟩
  all_goals simp only [ofY_t14, ofY_d14, F30, F31, hq, D.toInt_int, tl]
  all_goals first | done | omega | trivial | (and_intros <;> first | done | omega | rfl)
 ·have hq : kindI (d 0).toInt = 16 := by rw [h]; rfl
  refine ⟨tellA ofY_t15, _, _, _, tellA_ok (allTold'_iff.1 ?_), ofY_y15, dutiesTold_ok ?_⟩
  all_goals simp only [ofY_t15, ofY_d15, F30, F31, hq, D.toInt_int, tl]
  all_goals first | done | omega | trivial | (and_intros <;> first | done | omega | rfl)
 ·have hq : kindI (d 0).toInt = 17 := by rw [h]; rfl
  refine ⟨tellA ofY_t16, _, _, _, tellA_ok (allTold'_iff.1 ?_), ofY_y16, dutiesTold_ok ?_⟩
  all_goals simp only [ofY_t16, ofY_d16, F30, F31, hq, D.toInt_int, tl]
  all_goals first | done | omega | trivial | (and_intros <;> first | done | omega | rfl)
 ·have hq : kindI (d 0).toInt = 18 := by rw [h]; rfl
  refine ⟨tellA ofY_t17, _, _, _, tellA_ok (allTold'_iff.1 ?_), ofY_y17, dutiesTold_ok ?_⟩
  all_goals simp only [ofY_t17, ofY_d17, F30, F31, hq, D.toInt_int, tl]
  all_goals first | done | omega | trivial | (and_intros <;> first | done | omega | rfl)
 ·have hq : kindI (d 0).toInt = 19 := by rw [h]; rfl
  refine ⟨tellA ofY_t18, _, _, _, tellA_ok (allTold'_iff.1 ?_), ofY_y18, dutiesTold_ok ?_⟩
  all_goals simp only [ofY_t18, ofY_d18, F30, F31, hq, D.toInt_int, tl]
  all_goals first | done | omega | trivial | (and_intros <;> first | done | omega | rfl)
 ·have hq : kindI (d 0).toInt = 20 := by rw [h]; rfl
  refine ⟨tellA ofY_t19, _, _, _, tellA_ok (allTold'_iff.1 ?_), ofY_y19, dutiesTold_ok ?_⟩
  all_goals simp only [ofY_t19, ofY_d19, F30, F31, hq, D.toInt_int, tl]
  all_goals first | done | omega | trivial | (and_intros <;> first | done | omega | rfl)
 ·have hq : kindI (d 0).toInt = 21 := by rw [h]; rfl
  refine ⟨tellA ofY_t20, _, _, _, tellA_ok (allTold'_iff.1 ?_), ofY_y20, dutiesTold_ok ?_⟩
  all_goals simp only [ofY_t20, ofY_d20, F30, F31, hq, D.toInt_int, tl]
  all_goals first | done | omega | trivial | (and_intros <;> first | done | omega | rfl)
 ·have hq : kindI (d 0).toInt = 22 := by rw [h]; rfl
  refine ⟨tellA ofY_t21, _, _, _, tellA_ok (allTold'_iff.1 ?_), ofY_y21, dutiesTold_ok ?_⟩
  all_goals simp only [ofY_t21, ofY_d21, F30, F31, hq, D.toInt_int, tl]
  all_goals first | done | omega | trivial | (and_intros <;> first | done | omega | rfl)
 ·have hq : kindI (d 0).toInt = 23 := by rw [h]; rfl
  refine ⟨tellA ofY_t22, _, _, _, tellA_ok (allTold'_iff.1 ?_), ofY_y22, dutiesTold_ok ?_⟩
  all_goals simp only [ofY_t22, ofY_d22, F30, F31, hq, D.toInt_int, tl]
  all_goals first | done | omega | trivial | (and_intros <;> first | done | omega | rfl)
 ·have hq : kindI (d 0).toInt = 24 := by rw [h]; rfl
  refine ⟨tellA ofY_t23, _, _, _, tellA_ok (allTold'_iff.1 ?_), ofY_y23, dutiesTold_ok ?_⟩
  all_goals simp only [ofY_t23, ofY_d23, F30, F31, hq, D.toInt_int, tl]
  all_goals first | done | omega | trivial | (and_intros <;> first | done | omega | rfl)

def ofN : CSpec := { args := [.sint .i64 (.var 0)], next := 0, rows := [], pre := [(.eq (.fn 30 zNc4) (.int 0), true)], res := .tuple [.agg [.str ⟨#[]⟩, .int .i64 0, .int .i64 0, .int .i64 0, .int .i64 0, .int .i64 0, .int .i64 0], .bool false], frows := [], same := [] }
abbrev asNc50 : Q × Bool := ((.le (.int 1) (.var 0)), false)
def ofN_t0 : List (Q × Bool) := [asNc50]
def ofN_d0 : List Duty := []
theorem ofN_y0 : endC ofN [] 1000 (callC Try.prog (tellA ofN_t0) [] [] [] 3000 40 38 ofN) = some ofN_d0 := by kernel_rfl
abbrev asNc51 : Q × Bool := ((.le (.var 0) (.int 24)), false)
def ofN_t1 : List (Q × Bool) := [asNc0, asNc51]
def ofN_d1 : List Duty := []
theorem ofN_y1 : endC ofN [] 1000 (callC Try.prog (tellA ofN_t1) [] [] [] 3000 40 38 ofN) = some ofN_d1 := by kernel_rfl
theorem ofN_holds : CHolds Try.prog 38 ofN F := by
 refine cholds_of sound (tableNil _ _) (specsNil _ _) (oversNil _ _) (fuel := 3000) (depth := 40) (by kernel_rfl) fun d hp hR hA => ?_
 have hp := allTold'_iff.2 hp
 simp only [ofN, tl] at hp hR hA
 simp only [F30, D.toInt_int] at hp
 have hk := kind_non hp
 by_cases h : 1 ≤ (d 0).toInt
 ·refine ⟨tellA ofN_t1, _, _, _, tellA_ok (allTold'_iff.1 ?_), ofN_y1, dutiesTold_ok ?_⟩
  all_goals simp only [ofN_t1, ofN_d1, F30, tl]
  all_goals first | done | omega | trivial | (and_intros <;> first | omega | rfl | trivial)
 ·refine ⟨tellA ofN_t0, _, _, _, tellA_ok (allTold'_iff.1 ?_), ofN_y0, dutiesTold_ok ?_⟩
  all_goals simp only [ofN_t0, ofN_d0, F30, tl]
  all_goals first | done | omega | trivial | (and_intros <;> first | omega | rfl | trivial)

def docY : LSpec := { n := 59, next := 2, pat := [(1, .ptr 1 0), (5, .sint .i64 (.var 0))], rows := [zNc0], pre := [(.le (.int 0) (.var 0), true), (.le (.var 0) (.un .len (.var 2)), true), (.eq (.fn 33 txNc5) (.int 1), true), (.le (.un .len (.var 2)) (.int 9223372036854775807), true)], x := 0, fin := [(1, .ptr 1 0)], frows := [zNc0], same := [1], chg := [1, 5, 45, 46, 47, 48, 49, 50, 51, 52, 53, 54, 55, 56, 57, 58] }
abbrev asNc52 : Q × Bool := ((.fit .i64 (.un .len (.var 2))), true)
abbrev asNc53 : Q × Bool := ((.le (.un .len (.var 2)) (.var 0)), false)
abbrev asNc54 : Q × Bool := ((.le (.int 0) (.var 0)), true)
abbrev asNc55 : Q × Bool := ((.le (.int 0) zNc9), true)
abbrev asNc56 : Q × Bool := ((.le zNc9 (.int 2147483647)), true)
abbrev asNc57 : Q × Bool := ((.fit .i64 zNc7), true)
def docY_t0 : List (Q × Bool) := [asNc52, asNc53, asNc54, asNc55, asNc56, asNc57]
def docY_d0 : List Duty := []
def docY_h0 : List (Nat × E) := [(6, (.var 6)), (4, (.var 4)), (2, (.var 2)), (8, (.var 8)), (0, zNc7)]
theorem docY_h0_a : lookE docY_h0 0 = zNc7 ∧ lookE docY_h0 2 = (.var 2) ∧ lookE docY_h0 4 = (.var 4) ∧ lookE docY_h0 6 = (.var 6) ∧ lookE docY_h0 8 = (.var 8) := ⟨rfl, rfl, rfl, rfl, rfl⟩
theorem docY_y0 : nextD docY docY_h0 [(1, 1)] (roundC Try.prog [] [] [] 3000 40 14 [4, 1, 0, 1, 1, 1, 1] (tellA docY_t0) docY) = some docY_d0 := by kernel_rfl
abbrev asNc58 : Q × Bool := ((.le (.un .len (.var 2)) (.var 0)), true)
def docY_t1 : List (Q × Bool) := [asNc52, asNc58]
def docY_d1 : List Duty := []
theorem docY_y1 : endD docY [(1, 1)] 1000 (roundC Try.prog [] [] [] 3000 40 14 [4, 1, 0, 1, 1, 1, 1] (tellA docY_t1) docY) = some docY_d1 := by kernel_rfl
theorem docY_holds : LHolds Try.prog (loopAt Try.prog 14 [4, 1, 0, 1, 1, 1, 1]) docY F := by
 refine loop_roundsC sound (tableNil _ _) (specsNil _ _) (oversNil _ _) (fuel := 3000) (depth := 40) (by kernel_rfl) (by kernel_rfl) (by kernel_rfl) (fun d => (((d 2).toList.length : Int) - (d 0).toInt).toNat) fun d hp hR hA => ?_
 have hp := allTold'_iff.2 hp
 simp only [docY, tl] at hp hR hA
 simp only [F33] at hp
 obtain ⟨p0, p1, p2, p3⟩ := hp
 by_cases h : ((d 2).ints.length : Int) ≤ (d 0).toInt
 ·refine ⟨tellA docY_t1, tellA_ok (allTold'_iff.1 ?_), .inl ⟨_, _, _, docY_y1, dutiesTold_ok ?_⟩⟩
  all_goals try simp only [docY_t1, docY_d1, F33, tl]
  all_goals first | done | (and_intros <;> first | omega | assumption | exact one_to (by assumption) | exact not_to (by assumption) | trivial)
 ·have p2 := one_of p2
  have hs := fine_step (x := (d 2).ints) (i := (d 0).toInt) p0 (by omega)
  rw [hs] at p2
  simp only [Bool.and_eq_true, decide_eq_true_eq] at p2
  obtain ⟨⟨q0, q1⟩, q2⟩ := p2
  refine ⟨tellA docY_t0, tellA_ok (allTold'_iff.1 ?_), .inr ⟨docY_h0, _, _, docY_y0, dutiesTold_ok ?_, allTold'_iff.1 ?_, ?_⟩⟩
  all_goals try simp only [docY_t0, docY_d0, F33, docY, docY_h0_a, tl]
  all_goals first | done | (and_intros <;> first | omega | assumption | exact one_to (by assumption) | exact not_to (by assumption) | trivial)

def docN : LSpec := { n := 59, next := 2, pat := [(1, .ptr 1 0), (5, .sint .i64 (.var 0))], rows := [zNc0], pre := [(.le (.int 0) (.var 0), true), (.le (.var 0) (.un .len (.var 2)), true), (.eq (.fn 33 txNc5) (.int 1), false), (.le (.un .len (.var 2)) (.int 9223372036854775807), true)], x := 999999, fin := [(2, .int .i64 5)], frows := [zNc0], same := [1], chg := [1, 2, 5, 45, 46, 47, 48, 49, 50, 51, 52, 53, 54, 55, 56, 57, 58] }
def docN_t0 : List (Q × Bool) := [asNc52, asNc53, asNc54, asNc55, asNc56, asNc57]
def docN_d0 : List Duty := []
def docN_h0 : List (Nat × E) := [(6, (.var 6)), (4, (.var 4)), (2, (.var 2)), (8, (.var 8)), (0, zNc7)]
theorem docN_h0_a : lookE docN_h0 0 = zNc7 ∧ lookE docN_h0 2 = (.var 2) ∧ lookE docN_h0 4 = (.var 4) ∧ lookE docN_h0 6 = (.var 6) ∧ lookE docN_h0 8 = (.var 8) := ⟨rfl, rfl, rfl, rfl, rfl⟩
theorem docN_y0 : nextD docN docN_h0 [(1, 1)] (roundC Try.prog [] [] [] 3000 40 14 [4, 1, 0, 1, 1, 1, 1] (tellA docN_t0) docN) = some docN_d0 := by kernel_rfl
abbrev asNc59 : Q × Bool := ((.le (.int 0) zNc9), false)
def docN_t1 : List (Q × Bool) := [asNc52, asNc53, asNc54, asNc59]
def docN_d1 : List Duty := []
theorem docN_y1 : endD docN [(1, 1)] 1000 (roundC Try.prog [] [] [] 3000 40 14 [4, 1, 0, 1, 1, 1, 1] (tellA docN_t1) docN) = some docN_d1 := by kernel_rfl
abbrev asNc60 : Q × Bool := ((.le zNc9 (.int 2147483647)), false)
def docN_t2 : List (Q × Bool) := [asNc52, asNc53, asNc54, asNc55, asNc60]
def docN_d2 : List Duty := []
theorem docN_y2 : endD docN [(1, 1)] 1000 (roundC Try.prog [] [] [] 3000 40 14 [4, 1, 0, 1, 1, 1, 1] (tellA docN_t2) docN) = some docN_d2 := by kernel_rfl
theorem docN_holds : LHolds Try.prog (loopAt Try.prog 14 [4, 1, 0, 1, 1, 1, 1]) docN F := by
 refine loop_roundsC sound (tableNil _ _) (specsNil _ _) (oversNil _ _) (fuel := 3000) (depth := 40) (by kernel_rfl) (by kernel_rfl) (by kernel_rfl) (fun d => (((d 2).toList.length : Int) - (d 0).toInt).toNat) fun d hp hR hA => ?_
 have hp := allTold'_iff.2 hp
 simp only [docN, tl] at hp hR hA
 simp only [F33] at hp
 obtain ⟨p0, p1, p2, p3⟩ := hp
 have p2 := not_of p2
 by_cases h : ((d 2).ints.length : Int) ≤ (d 0).toInt
 ·exact absurd (fine_end (x := (d 2).ints) (i := (d 0).toInt) (by omega)) p2
 ·have hs := fine_step (x := (d 2).ints) (i := (d 0).toInt) p0 (by omega)
  rw [hs] at p2
  simp only [Bool.and_eq_true, decide_eq_true_eq] at p2
  by_cases g : 0 ≤ (d 2).ints[(d 0).toInt.toNat]?.getD 0
  ·by_cases g2 : (d 2).ints[(d 0).toInt.toNat]?.getD 0 ≤ 2147483647
   ·have q2 : ¬ fineL ((d 2).ints.drop ((d 0).toInt + 1).toNat) = true := fun q => p2 ⟨⟨g, g2⟩, q⟩
    refine ⟨tellA docN_t0, tellA_ok (allTold'_iff.1 ?_), .inr ⟨docN_h0, _, _, docN_y0, dutiesTold_ok ?_, allTold'_iff.1 ?_, ?_⟩⟩
    all_goals try simp only [docN_t0, docN_d0, F33, docN, docN_h0_a, tl]
    all_goals first | done | (and_intros <;> first | omega | assumption | exact one_to (by assumption) | exact not_to (by assumption) | trivial)
   ·refine ⟨tellA docN_t2, tellA_ok (allTold'_iff.1 ?_), .inl ⟨_, _, _, docN_y2, dutiesTold_ok ?_⟩⟩
    all_goals try simp only [docN_t2, docN_d2, F33, tl]
    all_goals first | done | (and_intros <;> first | omega | assumption | exact one_to (by assumption) | exact not_to (by assumption) | trivial)
  ·refine ⟨tellA docN_t1, tellA_ok (allTold'_iff.1 ?_), .inl ⟨_, _, _, docN_y1, dutiesTold_ok ?_⟩⟩
   all_goals try simp only [docN_t1, docN_d1, F33, tl]
   all_goals first | done | (and_intros <;> first | omega | assumption | exact one_to (by assumption) | exact not_to (by assumption) | trivial)

def chkD : CSpec := { args := [.agg [.sint .i64 (.var 0), .pv (.int .i64) (.var 2), .pv (.agg [.int .u8, .int .u8, .int .u8, .int .u8, .int .u8, .int .u8, .int .u8, .int .u8, .int .u8, .int .u8, .int .u8, .int .u8, .int .u8, .int .u8, .int .u8, .int .u8]) (.var 4), .pv (.int .u8) (.var 6)]], next := 4, rows := [], pre := [(.le (.un .len (.var 2)) (.int 5000), true), (.le (.un .len (.var 4)) (.int 5000), true), (.le (.un .len (.var 6)) (.int 5000), true)], res := .sint .i64 zNc3, frows := [], same := [] }
abbrev asNc61 : Q × Bool := ((.eq (.fn 30 zNc4) (.int 0)), true)
def chkD_t0 : List (Q × Bool) := [asNc61]
def chkD_d0 : List Duty := [(true, (.int 2), zNc3)]
noncomputable abbrev ltNc0 : List LEntry := [⟨14, [4, 1, 0, 1, 1, 1, 1], docY⟩, ⟨14, [4, 1, 0, 1, 1, 1, 1], docN⟩]
theorem chkD_y0 : endC chkD [] 1000 (callC Try.prog (tellA chkD_t0) ltNc0 [(38, ofY), (38, ofN)] [] 3000 40 14 chkD) = some chkD_d0 := by kernel_rfl
abbrev asNc62 : Q × Bool := ((.eq (.fn 30 zNc4) (.int 0)), false)
abbrev asNc63 : Q × Bool := ((.le txNc19 (.un .len (.var 2))), false)
def chkD_t1 : List (Q × Bool) := [asNc62, asNc52, asNc63]
def chkD_d1 : List Duty := [(true, (.int 5), zNc3)]
theorem chkD_y1 : endC chkD [] 1000 (callC Try.prog (tellA chkD_t1) ltNc0 [(38, ofY), (38, ofN)] [] 3000 40 14 chkD) = some chkD_d1 := by kernel_rfl
abbrev asNc64 : Q × Bool := ((.le txNc19 (.un .len (.var 2))), true)
abbrev asNc65 : Q × Bool := ((.le (.un .len (.var 2)) txNc20), false)
def chkD_t2 : List (Q × Bool) := [asNc62, asNc52, asNc64, asNc65]
def chkD_d2 : List Duty := [(true, (.int 5), zNc3)]
theorem chkD_y2 : endC chkD [] 1000 (callC Try.prog (tellA chkD_t2) ltNc0 [(38, ofY), (38, ofN)] [] 3000 40 14 chkD) = some chkD_d2 := by kernel_rfl
abbrev asNc66 : Q × Bool := ((.le (.un .len (.var 2)) txNc20), true)
abbrev asNc67 : Q × Bool := ((.fit .i64 (.un .len (.var 4))), true)
abbrev asNc68 : Q × Bool := ((.le txNc21 (.un .len (.var 4))), false)
def chkD_t3 : List (Q × Bool) := [asNc62, asNc52, asNc64, asNc66, asNc67, asNc68]
def chkD_d3 : List Duty := [(true, (.int 5), zNc3)]
theorem chkD_y3 : endC chkD [] 1000 (callC Try.prog (tellA chkD_t3) ltNc0 [(38, ofY), (38, ofN)] [] 3000 40 14 chkD) = some chkD_d3 := by kernel_rfl
abbrev asNc69 : Q × Bool := ((.le txNc21 (.un .len (.var 4))), true)
abbrev asNc70 : Q × Bool := ((.le (.un .len (.var 4)) txNc22), false)
def chkD_t4 : List (Q × Bool) := [asNc62, asNc52, asNc64, asNc66, asNc67, asNc69, asNc70]
def chkD_d4 : List Duty := [(true, (.int 5), zNc3)]
theorem chkD_y4 : endC chkD [] 1000 (callC Try.prog (tellA chkD_t4) ltNc0 [(38, ofY), (38, ofN)] [] 3000 40 14 chkD) = some chkD_d4 := by kernel_rfl
abbrev asNc71 : Q × Bool := ((.le (.un .len (.var 4)) txNc22), true)
abbrev asNc72 : Q × Bool := ((.fit .i64 (.un .len (.var 6))), true)
abbrev asNc73 : Q × Bool := ((.le txNc23 (.un .len (.var 6))), false)
def chkD_t5 : List (Q × Bool) := [asNc62, asNc52, asNc64, asNc66, asNc67, asNc69, asNc71, asNc72, asNc73]
def chkD_d5 : List Duty := [(true, (.int 5), zNc3)]
theorem chkD_y5 : endC chkD [] 1000 (callC Try.prog (tellA chkD_t5) ltNc0 [(38, ofY), (38, ofN)] [] 3000 40 14 chkD) = some chkD_d5 := by kernel_rfl
abbrev asNc74 : Q × Bool := ((.le txNc23 (.un .len (.var 6))), true)
abbrev asNc75 : Q × Bool := ((.le (.un .len (.var 6)) txNc24), false)
def chkD_t6 : List (Q × Bool) := [asNc62, asNc52, asNc64, asNc66, asNc67, asNc69, asNc71, asNc72, asNc74, asNc75]
def chkD_d6 : List Duty := [(true, (.int 5), zNc3)]
theorem chkD_y6 : endC chkD [] 1000 (callC Try.prog (tellA chkD_t6) ltNc0 [(38, ofY), (38, ofN)] [] 3000 40 14 chkD) = some chkD_d6 := by kernel_rfl
abbrev asNc76 : Q × Bool := ((.le (.un .len (.var 6)) txNc24), true)
abbrev asNc77 : Q × Bool := ((.le (.int 0) (.un .len (.var 2))), true)
abbrev asNc78 : Q × Bool := ((.eq (.fn 33 txNc6) (.int 1)), false)
abbrev asNc79 : Q × Bool := ((.le (.un .len (.var 2)) (.int 9223372036854775807)), true)
def chkD_t7 : List (Q × Bool) := [asNc62, asNc52, asNc64, asNc66, asNc67, asNc69, asNc71, asNc72, asNc74, asNc76, asNc77, asNc78, asNc79]
def chkD_d7 : List Duty := [(true, (.int 5), zNc3)]
theorem chkD_y7 : endC chkD [] 1000 (callC Try.prog (tellA chkD_t7) ltNc0 [(38, ofY), (38, ofN)] [] 3000 40 14 chkD) = some chkD_d7 := by kernel_rfl
abbrev asNc80 : Q × Bool := ((.eq (.fn 33 txNc6) (.int 1)), true)
def chkD_t8 : List (Q × Bool) := [asNc62, asNc52, asNc64, asNc66, asNc67, asNc69, asNc71, asNc72, asNc74, asNc76, asNc77, asNc80, asNc79]
def chkD_d8 : List Duty := [(true, (.int 0), zNc3)]
theorem chkD_y8 : endC chkD [] 1000 (callC Try.prog (tellA chkD_t8) ltNc0 [(38, ofY), (38, ofN)] [] 3000 40 14 chkD) = some chkD_d8 := by kernel_rfl
set_option maxHeartbeats 16000000 in
theorem chkD_holds : CHolds Try.prog 14 chkD F := by
 refine cholds_of sound (tableCons docY_holds (tableCons docN_holds (tableNil _ _))) (specsCons ofY_holds (specsCons ofN_holds (specsNil _ _))) (oversNil _ _) (fuel := 3000) (depth := 40) (by kernel_rfl) fun d hp hR hA => ?_
 have hp := allTold'_iff.2 hp
 simp only [chkD, tl] at hp hR hA
 have hk := kind_in (d 0).toInt
 have tf := tab_in hk
 by_cases gk : kindI (d 0).toInt = 0
 ·have g0 := name_of gk
  refine ⟨tellA chkD_t0, _, _, _, tellA_ok (allTold'_iff.1 ?_), chkD_y0, dutiesTold_ok ?_⟩
  all_goals simp only [chkD_t0, chkD_d0, F30, F31, F32, F33, rowF, lowF, topF, nameF, drop_z, tl]
  all_goals first | done | (and_intros <;> first | omega | assumption | exact one_to (by assumption) | exact not_to (by assumption) | trivial) | (simp [wrongI, holdB, g0]; done)
 ·have g0 := name_to gk
  by_cases g1 : lowI (kindI (d 0).toInt) 1 ≤ ((d 2).ints.length : Int)
  ·by_cases g2 : ((d 2).ints.length : Int) ≤ topI (kindI (d 0).toInt) 1
   ·by_cases g3 : lowI (kindI (d 0).toInt) 2 ≤ ((d 4).ints.length : Int)
    ·by_cases g4 : ((d 4).ints.length : Int) ≤ topI (kindI (d 0).toInt) 2
     ·by_cases g5 : lowI (kindI (d 0).toInt) 3 ≤ ((d 6).ints.length : Int)
      ·by_cases g6 : ((d 6).ints.length : Int) ≤ topI (kindI (d 0).toInt) 3
       ·by_cases g7 : fineL (d 2).ints = true
        ·refine ⟨tellA chkD_t8, _, _, _, tellA_ok (allTold'_iff.1 ?_), chkD_y8, dutiesTold_ok ?_⟩
         all_goals simp only [chkD_t8, chkD_d8, F30, F31, F32, F33, rowF, lowF, topF, nameF, drop_z, tl]
         all_goals first | done | (and_intros <;> first | omega | assumption | exact one_to (by assumption) | exact not_to (by assumption) | trivial) | (simp [wrongI, holdB, g0, g1, g2, g3, g4, g5, g6, g7]; done)
        ·refine ⟨tellA chkD_t7, _, _, _, tellA_ok (allTold'_iff.1 ?_), chkD_y7, dutiesTold_ok ?_⟩
         all_goals simp only [chkD_t7, chkD_d7, F30, F31, F32, F33, rowF, lowF, topF, nameF, drop_z, tl]
         all_goals first | done | (and_intros <;> first | omega | assumption | exact one_to (by assumption) | exact not_to (by assumption) | trivial) | (simp [wrongI, holdB, g0, g1, g2, g3, g4, g5, g6, g7]; done)
       ·refine ⟨tellA chkD_t6, _, _, _, tellA_ok (allTold'_iff.1 ?_), chkD_y6, dutiesTold_ok ?_⟩
        all_goals simp only [chkD_t6, chkD_d6, F30, F31, F32, F33, rowF, lowF, topF, nameF, drop_z, tl]
        all_goals first | done | (and_intros <;> first | omega | assumption | exact one_to (by assumption) | exact not_to (by assumption) | trivial) | (simp [wrongI, holdB, g0, g1, g2, g3, g4, g5, g6]; done)
      ·refine ⟨tellA chkD_t5, _, _, _, tellA_ok (allTold'_iff.1 ?_), chkD_y5, dutiesTold_ok ?_⟩
       all_goals simp only [chkD_t5, chkD_d5, F30, F31, F32, F33, rowF, lowF, topF, nameF, drop_z, tl]
       all_goals first | done | (and_intros <;> first | omega | assumption | exact one_to (by assumption) | exact not_to (by assumption) | trivial) | (simp [wrongI, holdB, g0, g1, g2, g3, g4, g5]; done)
     ·refine ⟨tellA chkD_t4, _, _, _, tellA_ok (allTold'_iff.1 ?_), chkD_y4, dutiesTold_ok ?_⟩
      all_goals simp only [chkD_t4, chkD_d4, F30, F31, F32, F33, rowF, lowF, topF, nameF, drop_z, tl]
      all_goals first | done | (and_intros <;> first | omega | assumption | exact one_to (by assumption) | exact not_to (by assumption) | trivial) | (simp [wrongI, holdB, g0, g1, g2, g3, g4]; done)
    ·refine ⟨tellA chkD_t3, _, _, _, tellA_ok (allTold'_iff.1 ?_), chkD_y3, dutiesTold_ok ?_⟩
     all_goals simp only [chkD_t3, chkD_d3, F30, F31, F32, F33, rowF, lowF, topF, nameF, drop_z, tl]
     all_goals first | done | (and_intros <;> first | omega | assumption | exact one_to (by assumption) | exact not_to (by assumption) | trivial) | (simp [wrongI, holdB, g0, g1, g2, g3]; done)
   ·refine ⟨tellA chkD_t2, _, _, _, tellA_ok (allTold'_iff.1 ?_), chkD_y2, dutiesTold_ok ?_⟩
    all_goals simp only [chkD_t2, chkD_d2, F30, F31, F32, F33, rowF, lowF, topF, nameF, drop_z, tl]
    all_goals first | done | (and_intros <;> first | omega | assumption | exact one_to (by assumption) | exact not_to (by assumption) | trivial) | (simp [wrongI, holdB, g0, g1, g2]; done)
  ·refine ⟨tellA chkD_t1, _, _, _, tellA_ok (allTold'_iff.1 ?_), chkD_y1, dutiesTold_ok ?_⟩
   all_goals simp only [chkD_t1, chkD_d1, F30, F31, F32, F33, rowF, lowF, topF, nameF, drop_z, tl]
   all_goals first | done | (and_intros <;> first | omega | assumption | exact one_to (by assumption) | exact not_to (by assumption) | trivial) | (simp [wrongI, holdB, g0, g1]; done)

def numD : LSpec := { n := 65, next := 14, pat := [(1, .ptr 1 0), (5, .ptr 3 0), (6, .sint .i64 (.var 0))], rows := [zNc0, zNc11, zNc20], pre := [(.le (.int 0) (.var 0), true), (.le (.var 0) (.un .len (.var 2)), true), (.eq (.fn 33 txNc5) (.int 1), true), (.le (.int 1) (.var 21), true), (.le (.bi .add (.var 21) (.bi .mul (.int 5) (.bi .sub (.un .len (.var 2)) (.var 0)))) (.int 500000), true), (.le (.un .len (.var 2)) (.int 5000), true)], x := 0, fin := [(1, .ptr 1 0), (5, .ptr 3 0)], frows := [zNc0, (3, .cells 58 0 false false [.sslice 13 (.int 0) txNc15 txNc15 true, .bool false]), (13, .seq ⟨5, .u8, .bi .add (.var 21) (.un .len (.fn 80 txNc5)), .bi .app (.var 22) (.fn 80 txNc5), true, false⟩)], same := [1, 3], chg := [1, 5, 6, 24, 25, 26, 27, 28, 29, 30, 31, 32, 33, 34, 35, 36, 37] }
abbrev asNc81 : Q × Bool := ((.eq (.fn 40 txNc3) (.int 0)), false)
abbrev asNc82 : Q × Bool := ((.le (.int 1) (.var 21)), true)
abbrev asNc83 : Q × Bool := ((.le (.bi .mul zNc10 (.int 2)) (.int 281474976710656)), true)
def numD_t0 : List (Q × Bool) := [asNc52, asNc53, asNc54, asNc81, asNc55, asNc56, asNc82, asNc83, asNc57]
def numD_d0 : List Duty := [(true, txNc27, txNc15), (true, txNc27, txNc15), (true, txNc27, txNc15), (false, (.bi .app zNc16 (.fn 80 (.bi .pair (.var 2) txNc4))), (.bi .app (.var 22) (.fn 80 txNc5)))]
def numD_h0 : List (Nat × E) := [(22, zNc16), (21, zNc10), (6, (.var 6)), (4, (.var 4)), (2, (.var 2)), (8, (.var 8)), (0, zNc7)]
theorem numD_h0_a : lookE numD_h0 0 = zNc7 ∧ lookE numD_h0 2 = (.var 2) ∧ lookE numD_h0 4 = (.var 4) ∧ lookE numD_h0 6 = (.var 6) ∧ lookE numD_h0 8 = (.var 8) ∧ lookE numD_h0 21 = zNc10 ∧ lookE numD_h0 22 = zNc16 := ⟨rfl, rfl, rfl, rfl, rfl, rfl, rfl⟩
theorem numD_y0 : nextD numD numD_h0 [(13, 31), (3, 3), (1, 1)] (roundC Try.prog [] [(62, sizeR), (63, putR)] [] 3000 40 11 [4, 1, 0, 1, 1, 1, 1, 1, 1] (tellA numD_t0) numD) = some numD_d0 := by kernel_rfl
def numD_t1 : List (Q × Bool) := [asNc52, asNc58]
def numD_d1 : List Duty := [(true, (.var 21), txNc15), (true, (.var 21), txNc15), (true, (.var 21), txNc15), (false, (.var 22), (.bi .app (.var 22) (.fn 80 txNc5)))]
theorem numD_y1 : endD numD [(13, 13), (3, 3), (1, 1)] 1000 (roundC Try.prog [] [(62, sizeR), (63, putR)] [] 3000 40 11 [4, 1, 0, 1, 1, 1, 1, 1, 1] (tellA numD_t1) numD) = some numD_d1 := by kernel_rfl
set_option maxHeartbeats 16000000 in
theorem numD_holds : LHolds Try.prog (loopAt Try.prog 11 [4, 1, 0, 1, 1, 1, 1, 1, 1]) numD F := by
 refine loop_roundsC sound (tableNil _ _) (specsCons sizeR_holds (specsCons putR_holds (specsNil _ _))) (oversNil _ _) (fuel := 3000) (depth := 40) (by kernel_rfl) (by kernel_rfl) (by kernel_rfl) (fun d => (((d 2).toList.length : Int) - (d 0).toInt).toNat) fun d hp hR hA => ?_
 have hp := allTold'_iff.2 hp
 simp only [numD, tl] at hp hR hA
 simp only [F33] at hp
 obtain ⟨p0, p1, p2, p3, p4, p5⟩ := hp
 by_cases h : ((d 2).ints.length : Int) ≤ (d 0).toInt
 ·have e := enc_end (x := (d 2).ints) (i := (d 0).toInt) (by omega)
  refine ⟨tellA numD_t1, tellA_ok (allTold'_iff.1 ?_), .inl ⟨_, _, _, numD_y1, dutiesTold_ok ?_⟩⟩
  all_goals simp only [numD_t1, numD_d1, F80, D.ints_ofInts, e, List.append_nil, List.length_nil, tl]
  all_goals first | done | omega | exact True.intro | (and_intros <;> first | done | omega | exact True.intro | exact one_to (by assumption) | (simp only [ints_list, List.map_append, List.map_drop, List.map_take, map_ints, D.ints_ofInts, seg_map, List.append_assoc, List.nil_append, seg_map]; done))
 ·have e := enc_step (x := (d 2).ints) p0 (show (d 0).toInt < _ by omega)
  have p2 := one_of p2
  have hs := fine_step (x := (d 2).ints) (i := (d 0).toInt) p0 (by omega)
  rw [hs] at p2
  simp only [Bool.and_eq_true, decide_eq_true_eq] at p2
  obtain ⟨⟨q0, q1⟩, q2⟩ := p2
  have g1 := put_len q0 q1
  have g2 := sz_in ((d 2).ints[(d 0).toInt.toNat]?.getD 0)
  have g3 := five_cut q0 q1
  refine ⟨tellA numD_t0, tellA_ok (allTold'_iff.1 ?_), .inr ⟨numD_h0, _, _, numD_y0, dutiesTold_ok ?_, allTold'_iff.1 ?_, ?_⟩⟩
  all_goals simp only [numD_t0, numD_d0, numD, numD_h0_a, F80, D.toInt_int, D.ints_ofInts, F1, F2, F3, F33, F40, e, g3, List.length_append, tl]
  all_goals first | done | omega | exact True.intro | (and_intros <;> first | done | omega | exact True.intro | exact one_to (by assumption) | (simp only [ints_list, List.map_append, List.map_drop, List.map_take, map_ints, D.ints_ofInts, seg_map, List.append_assoc, List.nil_append, g3]; done))

def idsD : LSpec := { n := 65, next := 14, pat := [(1, .ptr 1 0), (5, .ptr 3 0), (7, .sint .i64 (.var 0))], rows := [zNc0, zNc11, zNc20], pre := [(.le (.int 0) (.var 0), true), (.le (.var 0) (.un .len (.var 4)), true), (.le (.int 1) (.var 21), true), (.le (.bi .add (.var 21) (.bi .mul (.int 16) (.bi .sub (.un .len (.var 4)) (.var 0)))) (.int 500000), true), (.le (.un .len (.var 4)) (.int 5000), true)], x := 2, fin := [(1, .ptr 1 0), (5, .ptr 3 0)], frows := [zNc0, (3, .cells 58 0 false false [.sslice 13 (.int 0) txNc16 txNc16 true, .bool false]), (13, .seq ⟨5, .u8, .bi .add (.var 21) (.un .len (.fn 81 txNc7)), .bi .app (.var 22) (.fn 81 txNc7), true, false⟩)], same := [1, 3], chg := [1, 5, 7, 43, 44, 45, 46, 47, 48, 49, 50, 51, 52, 53, 54, 55, 56] }
abbrev asNc84 : Q × Bool := ((.le (.un .len (.var 4)) (.var 0)), false)
abbrev asNc85 : Q × Bool := ((.le (.bi .mul zNc12 (.int 2)) (.int 281474976710656)), true)
def idsD_t0 : List (Q × Bool) := [asNc67, asNc84, asNc54, asNc85, asNc57]
def idsD_d0 : List Duty := [(true, txNc26, txNc16), (true, txNc26, txNc16), (true, txNc26, txNc16), (false, (.bi .app zNc18 (.fn 81 (.bi .pair (.var 4) txNc4))), (.bi .app (.var 22) (.fn 81 txNc7)))]
def idsD_h0 : List (Nat × E) := [(22, zNc18), (21, zNc12), (6, (.var 6)), (4, (.var 4)), (2, (.var 2)), (8, (.var 8)), (0, zNc7)]
theorem idsD_h0_a : lookE idsD_h0 0 = zNc7 ∧ lookE idsD_h0 2 = (.var 2) ∧ lookE idsD_h0 4 = (.var 4) ∧ lookE idsD_h0 6 = (.var 6) ∧ lookE idsD_h0 8 = (.var 8) ∧ lookE idsD_h0 21 = zNc12 ∧ lookE idsD_h0 22 = zNc18 := ⟨rfl, rfl, rfl, rfl, rfl, rfl, rfl⟩
theorem idsD_y0 : nextD idsD idsD_h0 [(13, 31), (3, 3), (1, 1)] (roundC Try.prog [] [(62, sizeR), (63, putR)] [] 3000 40 11 [4, 1, 0, 1, 1, 1, 1, 1, 1, 1, 1] (tellA idsD_t0) idsD) = some idsD_d0 := by kernel_rfl
abbrev asNc86 : Q × Bool := ((.le (.un .len (.var 4)) (.var 0)), true)
def idsD_t1 : List (Q × Bool) := [asNc67, asNc86]
def idsD_d1 : List Duty := [(true, (.var 21), txNc16), (true, (.var 21), txNc16), (true, (.var 21), txNc16), (false, (.var 22), (.bi .app (.var 22) (.fn 81 txNc7)))]
theorem idsD_y1 : endD idsD [(13, 13), (3, 3), (1, 1)] 1000 (roundC Try.prog [] [(62, sizeR), (63, putR)] [] 3000 40 11 [4, 1, 0, 1, 1, 1, 1, 1, 1, 1, 1] (tellA idsD_t1) idsD) = some idsD_d1 := by kernel_rfl
set_option maxHeartbeats 16000000 in
theorem idsD_holds : LHolds Try.prog (loopAt Try.prog 11 [4, 1, 0, 1, 1, 1, 1, 1, 1, 1, 1]) idsD F := by
 refine loop_roundsC sound (tableNil _ _) (specsCons sizeR_holds (specsCons putR_holds (specsNil _ _))) (oversNil _ _) (fuel := 3000) (depth := 40) (by kernel_rfl) (by kernel_rfl) (by kernel_rfl) (fun d => (((d 4).toList.length : Int) - (d 0).toInt).toNat) fun d hp hR hA => ?_
 have hp := allTold'_iff.2 hp
 simp only [idsD, tl] at hp hR hA
 obtain ⟨p0, p1, p3, p4, p5⟩ := hp
 have h4 : (d 4).ints.length = (d 4).toList.length := List.length_map ..
 by_cases h : ((d 4).toList.length : Int) ≤ (d 0).toInt
 ·have e := ids_end (y := (d 4).toList) (i := (d 0).toInt) (by omega)
  refine ⟨tellA idsD_t1, tellA_ok (allTold'_iff.1 ?_), .inl ⟨_, _, _, idsD_y1, dutiesTold_ok ?_⟩⟩
  all_goals simp only [idsD_t1, idsD_d1, F81, D.ints_ofInts, e, List.append_nil, List.length_nil, tl]
  all_goals first | done | omega | exact True.intro | (and_intros <;> first | done | omega | exact True.intro | exact one_to (by assumption) | (simp only [ints_list, List.map_append, List.map_drop, List.map_take, map_ints, D.ints_ofInts, seg_map, List.append_assoc, List.nil_append, seg_map]; done))
 ·have e := ids_step (y := (d 4).toList) p0 (show (d 0).toInt < _ by omega)
  have g1 := seg_len ((d 4).toList[(d 0).toInt.toNat]?.getD (D.int 0)).ints
  refine ⟨tellA idsD_t0, tellA_ok (allTold'_iff.1 ?_), .inr ⟨idsD_h0, _, _, idsD_y0, dutiesTold_ok ?_, allTold'_iff.1 ?_, ?_⟩⟩
  all_goals simp only [idsD_t0, idsD_d0, idsD, idsD_h0_a, F81, D.toInt_int, D.ints_ofInts, e, List.length_append, g1, tl]
  all_goals first | done | omega | exact True.intro | (and_intros <;> first | done | omega | exact True.intro | exact one_to (by assumption) | (simp only [ints_list, List.map_append, List.map_drop, List.map_take, map_ints, D.ints_ofInts, seg_map, List.append_assoc, List.nil_append, seg_map]; done))

def bytD : CSpec := { args := [.agg [.sint .i64 (.var 0), .pv (.int .i64) (.var 2), .pv (.agg [.int .u8, .int .u8, .int .u8, .int .u8, .int .u8, .int .u8, .int .u8, .int .u8, .int .u8, .int .u8, .int .u8, .int .u8, .int .u8, .int .u8, .int .u8, .int .u8]) (.var 4), .pv (.int .u8) (.var 6)]], next := 8, rows := [], pre := [(.eq zNc3 (.int 0), true), (.le (.un .len (.var 2)) (.int 5000), true), (.le (.un .len (.var 4)) (.int 5000), true), (.le (.un .len (.var 6)) (.int 5000), true)], res := .tuple [.sslice 9 (.int 0) zNc19 zNc19 true, .int .i64 0], frows := [(9, .seq ⟨5, .u8, .un .len (.fn 82 txNc17), .fn 82 txNc17, true, false⟩)], same := [] }
abbrev asNc87 : Q × Bool := ((.le (.un .len (.var 2)) (.int 5000)), true)
abbrev asNc88 : Q × Bool := ((.le (.un .len (.var 4)) (.int 5000)), true)
abbrev asNc89 : Q × Bool := ((.le (.un .len (.var 6)) (.int 5000)), true)
abbrev asNc90 : Q × Bool := ((.eq zNc3 (.int 0)), true)
abbrev asNc91 : Q × Bool := ((.eq (.fn 40 zNc4) (.int 0)), false)
abbrev asNc92 : Q × Bool := ((.le (.var 0) (.int 2147483647)), true)
abbrev asNc93 : Q × Bool := ((.eq (.fn 1 zNc4) (.int 0)), false)
abbrev asNc94 : Q × Bool := ((.le (.bi .mul (.fn 1 zNc4) (.int 2)) (.int 281474976710656)), true)
abbrev asNc95 : Q × Bool := ((.eq (.fn 40 zNc13) (.int 0)), false)
abbrev asNc96 : Q × Bool := ((.le (.un .len (.var 2)) (.int 2147483647)), true)
abbrev asNc97 : Q × Bool := ((.le (.int 1) (.fn 1 zNc4)), true)
abbrev asNc98 : Q × Bool := ((.le (.bi .mul txNc18 (.int 2)) (.int 281474976710656)), true)
abbrev asNc99 : Q × Bool := ((.le (.int 1) txNc18), true)
abbrev asNc100 : Q × Bool := ((.le (.bi .add txNc18 (.bi .mul (.int 5) (.bi .sub (.un .len (.var 2)) (.int 0)))) (.int 500000)), true)
abbrev asNc101 : Q × Bool := ((.eq (.fn 40 zNc14) (.int 0)), false)
abbrev asNc102 : Q × Bool := ((.le (.int 0) (.un .len (.var 4))), true)
abbrev asNc103 : Q × Bool := ((.le (.un .len (.var 4)) (.int 2147483647)), true)
abbrev asNc104 : Q × Bool := ((.le (.int 1) zNc21), true)
abbrev asNc105 : Q × Bool := ((.le (.bi .mul txNc28 (.int 2)) (.int 281474976710656)), true)
abbrev asNc106 : Q × Bool := ((.le (.int 1) txNc28), true)
abbrev asNc107 : Q × Bool := ((.le (.bi .add txNc28 (.bi .mul (.int 16) (.bi .sub (.un .len (.var 4)) (.int 0)))) (.int 500000)), true)
abbrev asNc108 : Q × Bool := ((.eq (.fn 40 zNc15) (.int 0)), false)
abbrev asNc109 : Q × Bool := ((.le (.int 0) (.un .len (.var 6))), true)
abbrev asNc110 : Q × Bool := ((.le (.un .len (.var 6)) (.int 2147483647)), true)
abbrev asNc111 : Q × Bool := ((.le (.int 1) zNc22), true)
abbrev asNc112 : Q × Bool := ((.le (.bi .mul txNc29 (.int 2)) (.int 281474976710656)), true)
abbrev asNc113 : Q × Bool := ((.le (.bi .mul (.bi .add txNc29 (.un .len (.var 6))) (.int 2)) (.int 281474976710656)), true)
def bytD_t0 : List (Q × Bool) := [asNc87, asNc88, asNc89, asNc90, asNc91, asNc54, asNc92, asNc93, asNc94, asNc52, asNc95, asNc77, asNc96, asNc97, asNc98, asNc80, asNc99, asNc100, asNc67, asNc101, asNc102, asNc103, asNc104, asNc105, asNc106, asNc107, asNc72, asNc108, asNc109, asNc110, asNc111, asNc112, asNc113]
def bytD_d0 : List Duty := [zNc8, zNc8, zNc8, (false, (.bi .app (.bi .app (.bi .app (.bi .app (.bi .app (.bi .app (.fn 3 zNc4) (.fn 3 zNc13)) (.fn 80 txNc6)) (.fn 3 zNc14)) (.fn 81 txNc9)) (.fn 3 zNc15)) (.var 6)), (.fn 82 txNc17))]
theorem bytD_y0 : endC bytD [(9, 53)] 1000 (callC Try.prog (tellA bytD_t0) [⟨11, [4, 1, 0, 1, 1, 1, 1, 1, 1], numD⟩, ⟨11, [4, 1, 0, 1, 1, 1, 1, 1, 1, 1, 1], idsD⟩] [(62, sizeR), (63, putR), (14, chkD)] [] 3000 40 11 bytD) = some bytD_d0 := by kernel_rfl
set_option maxHeartbeats 16000000 in
theorem bytD_holds : CHolds Try.prog 11 bytD F := by
 refine cholds_of sound (tableCons numD_holds (tableCons idsD_holds (tableNil _ _))) (specsCons sizeR_holds (specsCons putR_holds (specsCons chkD_holds (specsNil _ _)))) (oversNil _ _) (fuel := 3000) (depth := 40) (by kernel_rfl) fun d hp hR hA => ?_
 have hp := allTold'_iff.2 hp
 simp only [bytD, tl] at hp hR hA
 simp only [F32, D.toInt_int] at hp
 obtain ⟨pw, p1, p2, p3⟩ := hp
 obtain ⟨w0, w1, w2⟩ := wrong_iff.1 pw
 have wk := kind_some w0
 have e8 := enc_len w2
 have h4 : (d 4).ints.length = (d 4).toList.length := List.length_map ..
 have e9 := ids_len (y := (d 4).toList)
 have s0 := sz_in (d 0).toInt
 have m0 := put_len (n := (d 0).toInt) (by omega) (by omega)
 have z0 : (if 0 ≤ (d 0).toInt ∧ (d 0).toInt ≤ 2147483647 then szI (d 0).toInt else 0) = szI (d 0).toInt := if_pos ⟨by omega, by omega⟩
 have s1 := sz_in ((d 2).ints.length : Int)
 have m1 := put_len (n := ((d 2).ints.length : Int)) (by omega) (by omega)
 have z1 : (if 0 ≤ ((d 2).ints.length : Int) ∧ ((d 2).ints.length : Int) ≤ 2147483647 then szI ((d 2).ints.length : Int) else 0) = szI ((d 2).ints.length : Int) := if_pos ⟨by omega, by omega⟩
 have s2 := sz_in ((d 6).ints.length : Int)
 have m2 := put_len (n := ((d 6).ints.length : Int)) (by omega) (by omega)
 have z2 : (if 0 ≤ ((d 6).ints.length : Int) ∧ ((d 6).ints.length : Int) ≤ 2147483647 then szI ((d 6).ints.length : Int) else 0) = szI ((d 6).ints.length : Int) := if_pos ⟨by omega, by omega⟩
 have s3 := sz_in ((d 4).ints.length : Int)
 have m3 := put_len (n := ((d 4).ints.length : Int)) (by omega) (by omega)
 have z3 : (if 0 ≤ ((d 4).ints.length : Int) ∧ ((d 4).ints.length : Int) ≤ 2147483647 then szI ((d 4).ints.length : Int) else 0) = szI ((d 4).ints.length : Int) := if_pos ⟨by omega, by omega⟩
 have f0 : fineL (List.drop (Int.toNat 0) (d 2).ints) = true := w2
 refine ⟨tellA bytD_t0, _, _, _, tellA_ok (allTold'_iff.1 ?_), bytD_y0, dutiesTold_ok ?_⟩
 all_goals simp only [bytD_t0, bytD_d0, F1, F2, F3, F32, F33, F40, F80, F81, F82, noteI, z0, z1, z2, z3, D.toInt_int, D.ints_ofInts, List.length_append, List.length_nil, tl]
 all_goals first | done | omega | exact True.intro | (and_intros <;> first | done | omega | exact True.intro | exact one_to (by assumption) | (simp only [ints_list, List.map_append, List.map_drop, List.map_take, map_ints, D.ints_ofInts, seg_map, List.append_assoc, List.nil_append, z0]; done))

def tabB : List LEntry := []
def specsB : List (FuncId × CSpec) := [(60, partsC)]
def oversB : Overs := []
theorem tabB_ok : TableOK Try.prog tabB F := tableNil _ _
theorem specsB_ok : SpecsOK Try.prog specsB F := specsCons partsC_holds (specsNil _ _)
theorem oversB_ok : OversOK Try.prog oversB F := oversNil _ _
end Go.Proofs.Ytmmfjmmldhnpfaa.Nc
