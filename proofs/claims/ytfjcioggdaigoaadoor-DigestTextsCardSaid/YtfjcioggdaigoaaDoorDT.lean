/-
  The law DigestTexts of the layer digest holds of the code: for all inputs the call returns true, and the arguments read as they did. No condition; the package variables that it reads are as the program's text lays them (the card ties them).
-/
import Derived.Test.YtfjcioggdaigoaaDoorCo
import Derived.Test.YtfjcioggdaigoaaDoorSycp
import Derived.Test.YtfjcioggdaigoaaDoorDb
import Derived.Test.YtfjcioggdaigoaaDoorCards
import Derived.Test.YtfjcioggdaigoaaDoorTie
import Derived.SevenTiedAt
import Derived.WalkKit
import Derived.ProofKit
import Derived.OpenShut
set_option linter.unusedSimpArgs false
set_option linter.unusedVariables false
namespace Go.Proofs.YtfjcioggdaigoaaDoor.digestTexts
open Go.ChangeShapes Go.WideShapes Go.ChangeAt Go.RowKit Go.Ev Go.Proofs.YtfjcioggdaigoaaDoor.Co Go.Proofs.YtfjcioggdaigoaaDoor.Db

def om (zs0 : List Int) (s1 : ByteArray) : Om := ⟨fun _ => .bool false, fun i => if i = 2 then D.ofInts zs0 else if i = 10 then .int s1.size else if i = 12 then D.ofInts (strE s1) else .int 0, F⟩
theorem om_2 (zs0 : List Int) (s1 : ByteArray) : (om zs0 s1).d 2 = D.ofInts zs0 := rfl
theorem om_10 (zs0 : List Int) (s1 : ByteArray) : (om zs0 s1).d 10 = .int s1.size := rfl
theorem om_12 (zs0 : List Int) (s1 : ByteArray) : (om zs0 s1).d 12 = D.ofInts (strE s1) := rfl
theorem om_f (zs0 : List Int) (s1 : ByteArray) : (om zs0 s1).f = F := rfl
theorem quo8 {c : Int} (h : 0 ≤ c ∧ c ≤ 255) : iopI .quo .u8 c 16 = c / 16 := by
  show IntKind.u8.wrap (c.tdiv 16) = _
  rw [Int.tdiv_eq_ediv_of_nonneg (by omega), wrap_fit (by simp only [u8min, u8max]; omega)]
theorem wrap8 (x : Int) : IntKind.u8.wrap x = x % 256 := by simp [IntKind.wrap, IntKind.signed, IntKind.bits]
theorem add8 (x y : Int) : iopI .add .u8 x y = (x + y) % 256 := wrap8 _
theorem mul8 (x y : Int) : iopI .mul .u8 x y = (x * y) % 256 := wrap8 _
theorem lo1 {x : Int} (h : 0 ≤ x ∧ x ≤ 15) : -9223372036854775808 ≤ x * 16 := by omega
theorem hi1 {x : Int} (h : 0 ≤ x ∧ x ≤ 15) : x * 16 ≤ 9223372036854775807 := by omega
theorem lo2 {x y : Int} (h : 0 ≤ x ∧ x ≤ 15) (g : 0 ≤ y ∧ y ≤ 15) : -9223372036854775808 ≤ x * 16 + y := by omega
theorem hi2 {x y : Int} (h : 0 ≤ x ∧ x ≤ 15) (g : 0 ≤ y ∧ y ≤ 15) : x * 16 + y ≤ 9223372036854775807 := by omega
theorem eqL {x y : Int} (h : 0 ≤ x ∧ x ≤ 15) (g : 0 ≤ y ∧ y ≤ 15) : (x * 16 + y) % 256 = ((16 * x) % 256 + y) % 256 := by omega

def c_t0 : List (Q × Bool) := [((.fit .i64 (.var 10)), true),
  ((.le (.var 10) (.int 100)), false)]
set_option maxRecDepth 100000 in
theorem c_y0 : yesOf Tryd.prog (knownV (tellA c_t0) tab specs overs) 8000 80 5 [.agg [.sint .u8 (.bi .sel (.var 2) (.int 0)), .sint .u8 (.bi .sel (.var 2) (.int 1)), .sint .u8 (.bi .sel (.var 2) (.int 2)), .sint .u8 (.bi .sel (.var 2) (.int 3)), .sint .u8 (.bi .sel (.var 2) (.int 4)), .sint .u8 (.bi .sel (.var 2) (.int 5)), .sint .u8 (.bi .sel (.var 2) (.int 6)), .sint .u8 (.bi .sel (.var 2) (.int 7)), .sint .u8 (.bi .sel (.var 2) (.int 8)), .sint .u8 (.bi .sel (.var 2) (.int 9)), .sint .u8 (.bi .sel (.var 2) (.int 10)), .sint .u8 (.bi .sel (.var 2) (.int 11)), .sint .u8 (.bi .sel (.var 2) (.int 12)), .sint .u8 (.bi .sel (.var 2) (.int 13)), .sint .u8 (.bi .sel (.var 2) (.int 14)), .sint .u8 (.bi .sel (.var 2) (.int 15))], .sstr (.var 10) (.var 12)] (globSt g0) = true := by kernel_rfl
def c_t1 : List (Q × Bool) := [((.fit .i64 (.var 10)), true),
  ((.le (.var 10) (.int 100)), true),
  ((.le (.int 0) (.var 10)), true),
  ((.le (.var 10) (.int 1000)), true),
  ((.eq (.fn 12 (.bi .pair (.var 12) (.int 0))) (.var 10)), false),
  ((.le (.int 0) (.fn 12 (.bi .pair (.var 12) (.int 0)))), true),
  ((.le (.var 10) (.fn 12 (.bi .pair (.var 12) (.int 0)))), false),
  ((.le (.int 0) (.bi (.iop .quo .u8) (.bi .sel (.var 2) (.int 0)) (.int 16))), true),
  ((.le (.int 16) (.bi (.iop .quo .u8) (.bi .sel (.var 2) (.int 0)) (.int 16))), false),
  ((.le (.int 0) (.bi (.iop .rem .u8) (.bi .sel (.var 2) (.int 0)) (.int 16))), true),
  ((.le (.int 16) (.bi (.iop .rem .u8) (.bi .sel (.var 2) (.int 0)) (.int 16))), false),
  ((.le (.int 0) (.bi (.iop .quo .u8) (.bi .sel (.var 2) (.int 1)) (.int 16))), true),
  ((.le (.int 16) (.bi (.iop .quo .u8) (.bi .sel (.var 2) (.int 1)) (.int 16))), false),
  ((.le (.int 0) (.bi (.iop .rem .u8) (.bi .sel (.var 2) (.int 1)) (.int 16))), true),
  ((.le (.int 16) (.bi (.iop .rem .u8) (.bi .sel (.var 2) (.int 1)) (.int 16))), false),
  ((.le (.int 0) (.bi (.iop .quo .u8) (.bi .sel (.var 2) (.int 2)) (.int 16))), true),
  ((.le (.int 16) (.bi (.iop .quo .u8) (.bi .sel (.var 2) (.int 2)) (.int 16))), false),
  ((.le (.int 0) (.bi (.iop .rem .u8) (.bi .sel (.var 2) (.int 2)) (.int 16))), true),
  ((.le (.int 16) (.bi (.iop .rem .u8) (.bi .sel (.var 2) (.int 2)) (.int 16))), false),
  ((.le (.int 0) (.bi (.iop .quo .u8) (.bi .sel (.var 2) (.int 3)) (.int 16))), true),
  ((.le (.int 16) (.bi (.iop .quo .u8) (.bi .sel (.var 2) (.int 3)) (.int 16))), false),
  ((.le (.int 0) (.bi (.iop .rem .u8) (.bi .sel (.var 2) (.int 3)) (.int 16))), true),
  ((.le (.int 16) (.bi (.iop .rem .u8) (.bi .sel (.var 2) (.int 3)) (.int 16))), false),
  ((.le (.int 0) (.bi (.iop .quo .u8) (.bi .sel (.var 2) (.int 4)) (.int 16))), true),
  ((.le (.int 16) (.bi (.iop .quo .u8) (.bi .sel (.var 2) (.int 4)) (.int 16))), false),
  ((.le (.int 0) (.bi (.iop .rem .u8) (.bi .sel (.var 2) (.int 4)) (.int 16))), true),
  ((.le (.int 16) (.bi (.iop .rem .u8) (.bi .sel (.var 2) (.int 4)) (.int 16))), false),
  ((.le (.int 0) (.bi (.iop .quo .u8) (.bi .sel (.var 2) (.int 5)) (.int 16))), true),
  ((.le (.int 16) (.bi (.iop .quo .u8) (.bi .sel (.var 2) (.int 5)) (.int 16))), false),
  ((.le (.int 0) (.bi (.iop .rem .u8) (.bi .sel (.var 2) (.int 5)) (.int 16))), true),
  ((.le (.int 16) (.bi (.iop .rem .u8) (.bi .sel (.var 2) (.int 5)) (.int 16))), false),
  ((.le (.int 0) (.bi (.iop .quo .u8) (.bi .sel (.var 2) (.int 6)) (.int 16))), true),
  ((.le (.int 16) (.bi (.iop .quo .u8) (.bi .sel (.var 2) (.int 6)) (.int 16))), false),
  ((.le (.int 0) (.bi (.iop .rem .u8) (.bi .sel (.var 2) (.int 6)) (.int 16))), true),
  ((.le (.int 16) (.bi (.iop .rem .u8) (.bi .sel (.var 2) (.int 6)) (.int 16))), false),
  ((.le (.int 0) (.bi (.iop .quo .u8) (.bi .sel (.var 2) (.int 7)) (.int 16))), true),
  ((.le (.int 16) (.bi (.iop .quo .u8) (.bi .sel (.var 2) (.int 7)) (.int 16))), false),
  ((.le (.int 0) (.bi (.iop .rem .u8) (.bi .sel (.var 2) (.int 7)) (.int 16))), true),
  ((.le (.int 16) (.bi (.iop .rem .u8) (.bi .sel (.var 2) (.int 7)) (.int 16))), false),
  ((.le (.int 0) (.bi (.iop .quo .u8) (.bi .sel (.var 2) (.int 8)) (.int 16))), true),
  ((.le (.int 16) (.bi (.iop .quo .u8) (.bi .sel (.var 2) (.int 8)) (.int 16))), false),
  ((.le (.int 0) (.bi (.iop .rem .u8) (.bi .sel (.var 2) (.int 8)) (.int 16))), true),
  ((.le (.int 16) (.bi (.iop .rem .u8) (.bi .sel (.var 2) (.int 8)) (.int 16))), false),
  ((.le (.int 0) (.bi (.iop .quo .u8) (.bi .sel (.var 2) (.int 9)) (.int 16))), true),
  ((.le (.int 16) (.bi (.iop .quo .u8) (.bi .sel (.var 2) (.int 9)) (.int 16))), false),
  ((.le (.int 0) (.bi (.iop .rem .u8) (.bi .sel (.var 2) (.int 9)) (.int 16))), true),
  ((.le (.int 16) (.bi (.iop .rem .u8) (.bi .sel (.var 2) (.int 9)) (.int 16))), false),
  ((.le (.int 0) (.bi (.iop .quo .u8) (.bi .sel (.var 2) (.int 10)) (.int 16))), true),
  ((.le (.int 16) (.bi (.iop .quo .u8) (.bi .sel (.var 2) (.int 10)) (.int 16))), false),
  ((.le (.int 0) (.bi (.iop .rem .u8) (.bi .sel (.var 2) (.int 10)) (.int 16))), true),
  ((.le (.int 16) (.bi (.iop .rem .u8) (.bi .sel (.var 2) (.int 10)) (.int 16))), false),
  ((.le (.int 0) (.bi (.iop .quo .u8) (.bi .sel (.var 2) (.int 11)) (.int 16))), true),
  ((.le (.int 16) (.bi (.iop .quo .u8) (.bi .sel (.var 2) (.int 11)) (.int 16))), false),
  ((.le (.int 0) (.bi (.iop .rem .u8) (.bi .sel (.var 2) (.int 11)) (.int 16))), true),
  ((.le (.int 16) (.bi (.iop .rem .u8) (.bi .sel (.var 2) (.int 11)) (.int 16))), false),
  ((.le (.int 0) (.bi (.iop .quo .u8) (.bi .sel (.var 2) (.int 12)) (.int 16))), true),
  ((.le (.int 16) (.bi (.iop .quo .u8) (.bi .sel (.var 2) (.int 12)) (.int 16))), false),
  ((.le (.int 0) (.bi (.iop .rem .u8) (.bi .sel (.var 2) (.int 12)) (.int 16))), true),
  ((.le (.int 16) (.bi (.iop .rem .u8) (.bi .sel (.var 2) (.int 12)) (.int 16))), false),
  ((.le (.int 0) (.bi (.iop .quo .u8) (.bi .sel (.var 2) (.int 13)) (.int 16))), true),
  ((.le (.int 16) (.bi (.iop .quo .u8) (.bi .sel (.var 2) (.int 13)) (.int 16))), false),
  ((.le (.int 0) (.bi (.iop .rem .u8) (.bi .sel (.var 2) (.int 13)) (.int 16))), true),
  ((.le (.int 16) (.bi (.iop .rem .u8) (.bi .sel (.var 2) (.int 13)) (.int 16))), false),
  ((.le (.int 0) (.bi (.iop .quo .u8) (.bi .sel (.var 2) (.int 14)) (.int 16))), true),
  ((.le (.int 16) (.bi (.iop .quo .u8) (.bi .sel (.var 2) (.int 14)) (.int 16))), false),
  ((.le (.int 0) (.bi (.iop .rem .u8) (.bi .sel (.var 2) (.int 14)) (.int 16))), true),
  ((.le (.int 16) (.bi (.iop .rem .u8) (.bi .sel (.var 2) (.int 14)) (.int 16))), false),
  ((.le (.int 0) (.bi (.iop .quo .u8) (.bi .sel (.var 2) (.int 15)) (.int 16))), true),
  ((.le (.int 16) (.bi (.iop .quo .u8) (.bi .sel (.var 2) (.int 15)) (.int 16))), false),
  ((.le (.int 0) (.bi (.iop .rem .u8) (.bi .sel (.var 2) (.int 15)) (.int 16))), true),
  ((.le (.int 16) (.bi (.iop .rem .u8) (.bi .sel (.var 2) (.int 15)) (.int 16))), false)]
set_option maxRecDepth 100000 in
theorem c_y1 : yesOf Tryd.prog (knownV (tellA c_t1) tab specs overs) 8000 80 5 [.agg [.sint .u8 (.bi .sel (.var 2) (.int 0)), .sint .u8 (.bi .sel (.var 2) (.int 1)), .sint .u8 (.bi .sel (.var 2) (.int 2)), .sint .u8 (.bi .sel (.var 2) (.int 3)), .sint .u8 (.bi .sel (.var 2) (.int 4)), .sint .u8 (.bi .sel (.var 2) (.int 5)), .sint .u8 (.bi .sel (.var 2) (.int 6)), .sint .u8 (.bi .sel (.var 2) (.int 7)), .sint .u8 (.bi .sel (.var 2) (.int 8)), .sint .u8 (.bi .sel (.var 2) (.int 9)), .sint .u8 (.bi .sel (.var 2) (.int 10)), .sint .u8 (.bi .sel (.var 2) (.int 11)), .sint .u8 (.bi .sel (.var 2) (.int 12)), .sint .u8 (.bi .sel (.var 2) (.int 13)), .sint .u8 (.bi .sel (.var 2) (.int 14)), .sint .u8 (.bi .sel (.var 2) (.int 15))], .sstr (.var 10) (.var 12)] (globSt g0) = true := by kernel_rfl
def c_t2 : List (Q × Bool) := [((.fit .i64 (.var 10)), true),
  ((.le (.var 10) (.int 100)), true),
  ((.le (.int 0) (.var 10)), true),
  ((.le (.var 10) (.int 1000)), true),
  ((.eq (.fn 12 (.bi .pair (.var 12) (.int 0))) (.var 10)), true),
  ((.eq (.var 10) (.int 32)), false),
  ((.le (.var 10) (.int 32)), true),
  ((.le (.int 0) (.bi (.iop .quo .u8) (.bi .sel (.var 2) (.int 0)) (.int 16))), true),
  ((.le (.int 16) (.bi (.iop .quo .u8) (.bi .sel (.var 2) (.int 0)) (.int 16))), false),
  ((.le (.int 0) (.bi (.iop .rem .u8) (.bi .sel (.var 2) (.int 0)) (.int 16))), true),
  ((.le (.int 16) (.bi (.iop .rem .u8) (.bi .sel (.var 2) (.int 0)) (.int 16))), false),
  ((.le (.int 0) (.bi (.iop .quo .u8) (.bi .sel (.var 2) (.int 1)) (.int 16))), true),
  ((.le (.int 16) (.bi (.iop .quo .u8) (.bi .sel (.var 2) (.int 1)) (.int 16))), false),
  ((.le (.int 0) (.bi (.iop .rem .u8) (.bi .sel (.var 2) (.int 1)) (.int 16))), true),
  ((.le (.int 16) (.bi (.iop .rem .u8) (.bi .sel (.var 2) (.int 1)) (.int 16))), false),
  ((.le (.int 0) (.bi (.iop .quo .u8) (.bi .sel (.var 2) (.int 2)) (.int 16))), true),
  ((.le (.int 16) (.bi (.iop .quo .u8) (.bi .sel (.var 2) (.int 2)) (.int 16))), false),
  ((.le (.int 0) (.bi (.iop .rem .u8) (.bi .sel (.var 2) (.int 2)) (.int 16))), true),
  ((.le (.int 16) (.bi (.iop .rem .u8) (.bi .sel (.var 2) (.int 2)) (.int 16))), false),
  ((.le (.int 0) (.bi (.iop .quo .u8) (.bi .sel (.var 2) (.int 3)) (.int 16))), true),
  ((.le (.int 16) (.bi (.iop .quo .u8) (.bi .sel (.var 2) (.int 3)) (.int 16))), false),
  ((.le (.int 0) (.bi (.iop .rem .u8) (.bi .sel (.var 2) (.int 3)) (.int 16))), true),
  ((.le (.int 16) (.bi (.iop .rem .u8) (.bi .sel (.var 2) (.int 3)) (.int 16))), false),
  ((.le (.int 0) (.bi (.iop .quo .u8) (.bi .sel (.var 2) (.int 4)) (.int 16))), true),
  ((.le (.int 16) (.bi (.iop .quo .u8) (.bi .sel (.var 2) (.int 4)) (.int 16))), false),
  ((.le (.int 0) (.bi (.iop .rem .u8) (.bi .sel (.var 2) (.int 4)) (.int 16))), true),
  ((.le (.int 16) (.bi (.iop .rem .u8) (.bi .sel (.var 2) (.int 4)) (.int 16))), false),
  ((.le (.int 0) (.bi (.iop .quo .u8) (.bi .sel (.var 2) (.int 5)) (.int 16))), true),
  ((.le (.int 16) (.bi (.iop .quo .u8) (.bi .sel (.var 2) (.int 5)) (.int 16))), false),
  ((.le (.int 0) (.bi (.iop .rem .u8) (.bi .sel (.var 2) (.int 5)) (.int 16))), true),
  ((.le (.int 16) (.bi (.iop .rem .u8) (.bi .sel (.var 2) (.int 5)) (.int 16))), false),
  ((.le (.int 0) (.bi (.iop .quo .u8) (.bi .sel (.var 2) (.int 6)) (.int 16))), true),
  ((.le (.int 16) (.bi (.iop .quo .u8) (.bi .sel (.var 2) (.int 6)) (.int 16))), false),
  ((.le (.int 0) (.bi (.iop .rem .u8) (.bi .sel (.var 2) (.int 6)) (.int 16))), true),
  ((.le (.int 16) (.bi (.iop .rem .u8) (.bi .sel (.var 2) (.int 6)) (.int 16))), false),
  ((.le (.int 0) (.bi (.iop .quo .u8) (.bi .sel (.var 2) (.int 7)) (.int 16))), true),
  ((.le (.int 16) (.bi (.iop .quo .u8) (.bi .sel (.var 2) (.int 7)) (.int 16))), false),
  ((.le (.int 0) (.bi (.iop .rem .u8) (.bi .sel (.var 2) (.int 7)) (.int 16))), true),
  ((.le (.int 16) (.bi (.iop .rem .u8) (.bi .sel (.var 2) (.int 7)) (.int 16))), false),
  ((.le (.int 0) (.bi (.iop .quo .u8) (.bi .sel (.var 2) (.int 8)) (.int 16))), true),
  ((.le (.int 16) (.bi (.iop .quo .u8) (.bi .sel (.var 2) (.int 8)) (.int 16))), false),
  ((.le (.int 0) (.bi (.iop .rem .u8) (.bi .sel (.var 2) (.int 8)) (.int 16))), true),
  ((.le (.int 16) (.bi (.iop .rem .u8) (.bi .sel (.var 2) (.int 8)) (.int 16))), false),
  ((.le (.int 0) (.bi (.iop .quo .u8) (.bi .sel (.var 2) (.int 9)) (.int 16))), true),
  ((.le (.int 16) (.bi (.iop .quo .u8) (.bi .sel (.var 2) (.int 9)) (.int 16))), false),
  ((.le (.int 0) (.bi (.iop .rem .u8) (.bi .sel (.var 2) (.int 9)) (.int 16))), true),
  ((.le (.int 16) (.bi (.iop .rem .u8) (.bi .sel (.var 2) (.int 9)) (.int 16))), false),
  ((.le (.int 0) (.bi (.iop .quo .u8) (.bi .sel (.var 2) (.int 10)) (.int 16))), true),
  ((.le (.int 16) (.bi (.iop .quo .u8) (.bi .sel (.var 2) (.int 10)) (.int 16))), false),
  ((.le (.int 0) (.bi (.iop .rem .u8) (.bi .sel (.var 2) (.int 10)) (.int 16))), true),
  ((.le (.int 16) (.bi (.iop .rem .u8) (.bi .sel (.var 2) (.int 10)) (.int 16))), false),
  ((.le (.int 0) (.bi (.iop .quo .u8) (.bi .sel (.var 2) (.int 11)) (.int 16))), true),
  ((.le (.int 16) (.bi (.iop .quo .u8) (.bi .sel (.var 2) (.int 11)) (.int 16))), false),
  ((.le (.int 0) (.bi (.iop .rem .u8) (.bi .sel (.var 2) (.int 11)) (.int 16))), true),
  ((.le (.int 16) (.bi (.iop .rem .u8) (.bi .sel (.var 2) (.int 11)) (.int 16))), false),
  ((.le (.int 0) (.bi (.iop .quo .u8) (.bi .sel (.var 2) (.int 12)) (.int 16))), true),
  ((.le (.int 16) (.bi (.iop .quo .u8) (.bi .sel (.var 2) (.int 12)) (.int 16))), false),
  ((.le (.int 0) (.bi (.iop .rem .u8) (.bi .sel (.var 2) (.int 12)) (.int 16))), true),
  ((.le (.int 16) (.bi (.iop .rem .u8) (.bi .sel (.var 2) (.int 12)) (.int 16))), false),
  ((.le (.int 0) (.bi (.iop .quo .u8) (.bi .sel (.var 2) (.int 13)) (.int 16))), true),
  ((.le (.int 16) (.bi (.iop .quo .u8) (.bi .sel (.var 2) (.int 13)) (.int 16))), false),
  ((.le (.int 0) (.bi (.iop .rem .u8) (.bi .sel (.var 2) (.int 13)) (.int 16))), true),
  ((.le (.int 16) (.bi (.iop .rem .u8) (.bi .sel (.var 2) (.int 13)) (.int 16))), false),
  ((.le (.int 0) (.bi (.iop .quo .u8) (.bi .sel (.var 2) (.int 14)) (.int 16))), true),
  ((.le (.int 16) (.bi (.iop .quo .u8) (.bi .sel (.var 2) (.int 14)) (.int 16))), false),
  ((.le (.int 0) (.bi (.iop .rem .u8) (.bi .sel (.var 2) (.int 14)) (.int 16))), true),
  ((.le (.int 16) (.bi (.iop .rem .u8) (.bi .sel (.var 2) (.int 14)) (.int 16))), false),
  ((.le (.int 0) (.bi (.iop .quo .u8) (.bi .sel (.var 2) (.int 15)) (.int 16))), true),
  ((.le (.int 16) (.bi (.iop .quo .u8) (.bi .sel (.var 2) (.int 15)) (.int 16))), false),
  ((.le (.int 0) (.bi (.iop .rem .u8) (.bi .sel (.var 2) (.int 15)) (.int 16))), true),
  ((.le (.int 16) (.bi (.iop .rem .u8) (.bi .sel (.var 2) (.int 15)) (.int 16))), false)]
set_option maxRecDepth 100000 in
theorem c_y2 : yesOf Tryd.prog (knownV (tellA c_t2) tab specs overs) 8000 80 5 [.agg [.sint .u8 (.bi .sel (.var 2) (.int 0)), .sint .u8 (.bi .sel (.var 2) (.int 1)), .sint .u8 (.bi .sel (.var 2) (.int 2)), .sint .u8 (.bi .sel (.var 2) (.int 3)), .sint .u8 (.bi .sel (.var 2) (.int 4)), .sint .u8 (.bi .sel (.var 2) (.int 5)), .sint .u8 (.bi .sel (.var 2) (.int 6)), .sint .u8 (.bi .sel (.var 2) (.int 7)), .sint .u8 (.bi .sel (.var 2) (.int 8)), .sint .u8 (.bi .sel (.var 2) (.int 9)), .sint .u8 (.bi .sel (.var 2) (.int 10)), .sint .u8 (.bi .sel (.var 2) (.int 11)), .sint .u8 (.bi .sel (.var 2) (.int 12)), .sint .u8 (.bi .sel (.var 2) (.int 13)), .sint .u8 (.bi .sel (.var 2) (.int 14)), .sint .u8 (.bi .sel (.var 2) (.int 15))], .sstr (.var 10) (.var 12)] (globSt g0) = true := by kernel_rfl
def c_t3 : List (Q × Bool) := [((.fit .i64 (.var 10)), true),
  ((.le (.var 10) (.int 100)), true),
  ((.le (.int 0) (.var 10)), true),
  ((.le (.var 10) (.int 1000)), true),
  ((.eq (.fn 12 (.bi .pair (.var 12) (.int 0))) (.var 10)), true),
  ((.eq (.var 10) (.int 32)), true),
  ((.le (.var 10) (.int 0)), false),
  ((.le (.var 10) (.int 1)), false),
  ((.fit .i64 (.bi .mul (.fn 10 (.bi .pair (.bi .sel (.var 12) (.int 0)) (.int 0))) (.int 16))), true),
  ((.fit .i64 (.bi .add (.bi .mul (.fn 10 (.bi .pair (.bi .sel (.var 12) (.int 0)) (.int 0))) (.int 16)) (.fn 10 (.bi .pair (.bi .sel (.var 12) (.int 1)) (.int 0))))), true),
  ((.le (.var 10) (.int 2)), false),
  ((.le (.var 10) (.int 3)), false),
  ((.fit .i64 (.bi .mul (.fn 10 (.bi .pair (.bi .sel (.var 12) (.int 2)) (.int 0))) (.int 16))), true),
  ((.fit .i64 (.bi .add (.bi .mul (.fn 10 (.bi .pair (.bi .sel (.var 12) (.int 2)) (.int 0))) (.int 16)) (.fn 10 (.bi .pair (.bi .sel (.var 12) (.int 3)) (.int 0))))), true),
  ((.le (.var 10) (.int 4)), false),
  ((.le (.var 10) (.int 5)), false),
  ((.fit .i64 (.bi .mul (.fn 10 (.bi .pair (.bi .sel (.var 12) (.int 4)) (.int 0))) (.int 16))), true),
  ((.fit .i64 (.bi .add (.bi .mul (.fn 10 (.bi .pair (.bi .sel (.var 12) (.int 4)) (.int 0))) (.int 16)) (.fn 10 (.bi .pair (.bi .sel (.var 12) (.int 5)) (.int 0))))), true),
  ((.le (.var 10) (.int 6)), false),
  ((.le (.var 10) (.int 7)), false),
  ((.fit .i64 (.bi .mul (.fn 10 (.bi .pair (.bi .sel (.var 12) (.int 6)) (.int 0))) (.int 16))), true),
  ((.fit .i64 (.bi .add (.bi .mul (.fn 10 (.bi .pair (.bi .sel (.var 12) (.int 6)) (.int 0))) (.int 16)) (.fn 10 (.bi .pair (.bi .sel (.var 12) (.int 7)) (.int 0))))), true),
  ((.le (.var 10) (.int 8)), false),
  ((.le (.var 10) (.int 9)), false),
  ((.fit .i64 (.bi .mul (.fn 10 (.bi .pair (.bi .sel (.var 12) (.int 8)) (.int 0))) (.int 16))), true),
  ((.fit .i64 (.bi .add (.bi .mul (.fn 10 (.bi .pair (.bi .sel (.var 12) (.int 8)) (.int 0))) (.int 16)) (.fn 10 (.bi .pair (.bi .sel (.var 12) (.int 9)) (.int 0))))), true),
  ((.le (.var 10) (.int 10)), false),
  ((.le (.var 10) (.int 11)), false),
  ((.fit .i64 (.bi .mul (.fn 10 (.bi .pair (.bi .sel (.var 12) (.int 10)) (.int 0))) (.int 16))), true),
  ((.fit .i64 (.bi .add (.bi .mul (.fn 10 (.bi .pair (.bi .sel (.var 12) (.int 10)) (.int 0))) (.int 16)) (.fn 10 (.bi .pair (.bi .sel (.var 12) (.int 11)) (.int 0))))), true),
  ((.le (.var 10) (.int 12)), false),
  ((.le (.var 10) (.int 13)), false),
  ((.fit .i64 (.bi .mul (.fn 10 (.bi .pair (.bi .sel (.var 12) (.int 12)) (.int 0))) (.int 16))), true),
  ((.fit .i64 (.bi .add (.bi .mul (.fn 10 (.bi .pair (.bi .sel (.var 12) (.int 12)) (.int 0))) (.int 16)) (.fn 10 (.bi .pair (.bi .sel (.var 12) (.int 13)) (.int 0))))), true),
  ((.le (.var 10) (.int 14)), false),
  ((.le (.var 10) (.int 15)), false),
  ((.fit .i64 (.bi .mul (.fn 10 (.bi .pair (.bi .sel (.var 12) (.int 14)) (.int 0))) (.int 16))), true),
  ((.fit .i64 (.bi .add (.bi .mul (.fn 10 (.bi .pair (.bi .sel (.var 12) (.int 14)) (.int 0))) (.int 16)) (.fn 10 (.bi .pair (.bi .sel (.var 12) (.int 15)) (.int 0))))), true),
  ((.le (.var 10) (.int 16)), false),
  ((.le (.var 10) (.int 17)), false),
  ((.fit .i64 (.bi .mul (.fn 10 (.bi .pair (.bi .sel (.var 12) (.int 16)) (.int 0))) (.int 16))), true),
  ((.fit .i64 (.bi .add (.bi .mul (.fn 10 (.bi .pair (.bi .sel (.var 12) (.int 16)) (.int 0))) (.int 16)) (.fn 10 (.bi .pair (.bi .sel (.var 12) (.int 17)) (.int 0))))), true),
  ((.le (.var 10) (.int 18)), false),
  ((.le (.var 10) (.int 19)), false),
  ((.fit .i64 (.bi .mul (.fn 10 (.bi .pair (.bi .sel (.var 12) (.int 18)) (.int 0))) (.int 16))), true),
  ((.fit .i64 (.bi .add (.bi .mul (.fn 10 (.bi .pair (.bi .sel (.var 12) (.int 18)) (.int 0))) (.int 16)) (.fn 10 (.bi .pair (.bi .sel (.var 12) (.int 19)) (.int 0))))), true),
  ((.le (.var 10) (.int 20)), false),
  ((.le (.var 10) (.int 21)), false),
  ((.fit .i64 (.bi .mul (.fn 10 (.bi .pair (.bi .sel (.var 12) (.int 20)) (.int 0))) (.int 16))), true),
  ((.fit .i64 (.bi .add (.bi .mul (.fn 10 (.bi .pair (.bi .sel (.var 12) (.int 20)) (.int 0))) (.int 16)) (.fn 10 (.bi .pair (.bi .sel (.var 12) (.int 21)) (.int 0))))), true),
  ((.le (.var 10) (.int 22)), false),
  ((.le (.var 10) (.int 23)), false),
  ((.fit .i64 (.bi .mul (.fn 10 (.bi .pair (.bi .sel (.var 12) (.int 22)) (.int 0))) (.int 16))), true),
  ((.fit .i64 (.bi .add (.bi .mul (.fn 10 (.bi .pair (.bi .sel (.var 12) (.int 22)) (.int 0))) (.int 16)) (.fn 10 (.bi .pair (.bi .sel (.var 12) (.int 23)) (.int 0))))), true),
  ((.le (.var 10) (.int 24)), false),
  ((.le (.var 10) (.int 25)), false),
  ((.fit .i64 (.bi .mul (.fn 10 (.bi .pair (.bi .sel (.var 12) (.int 24)) (.int 0))) (.int 16))), true),
  ((.fit .i64 (.bi .add (.bi .mul (.fn 10 (.bi .pair (.bi .sel (.var 12) (.int 24)) (.int 0))) (.int 16)) (.fn 10 (.bi .pair (.bi .sel (.var 12) (.int 25)) (.int 0))))), true),
  ((.le (.var 10) (.int 26)), false),
  ((.le (.var 10) (.int 27)), false),
  ((.fit .i64 (.bi .mul (.fn 10 (.bi .pair (.bi .sel (.var 12) (.int 26)) (.int 0))) (.int 16))), true),
  ((.fit .i64 (.bi .add (.bi .mul (.fn 10 (.bi .pair (.bi .sel (.var 12) (.int 26)) (.int 0))) (.int 16)) (.fn 10 (.bi .pair (.bi .sel (.var 12) (.int 27)) (.int 0))))), true),
  ((.le (.var 10) (.int 28)), false),
  ((.le (.var 10) (.int 29)), false),
  ((.fit .i64 (.bi .mul (.fn 10 (.bi .pair (.bi .sel (.var 12) (.int 28)) (.int 0))) (.int 16))), true),
  ((.fit .i64 (.bi .add (.bi .mul (.fn 10 (.bi .pair (.bi .sel (.var 12) (.int 28)) (.int 0))) (.int 16)) (.fn 10 (.bi .pair (.bi .sel (.var 12) (.int 29)) (.int 0))))), true),
  ((.le (.var 10) (.int 30)), false),
  ((.le (.var 10) (.int 31)), false),
  ((.fit .i64 (.bi .mul (.fn 10 (.bi .pair (.bi .sel (.var 12) (.int 30)) (.int 0))) (.int 16))), true),
  ((.fit .i64 (.bi .add (.bi .mul (.fn 10 (.bi .pair (.bi .sel (.var 12) (.int 30)) (.int 0))) (.int 16)) (.fn 10 (.bi .pair (.bi .sel (.var 12) (.int 31)) (.int 0))))), true),
  ((.eq (.un (.wrap .u8) (.bi .add (.bi .mul (.fn 10 (.bi .pair (.bi .sel (.var 12) (.int 0)) (.int 0))) (.int 16)) (.fn 10 (.bi .pair (.bi .sel (.var 12) (.int 1)) (.int 0))))) (.bi (.iop .add .u8) (.bi (.iop .mul .u8) (.int 16) (.fn 11 (.bi .pair (.bi .sel (.var 12) (.int 0)) (.int 0)))) (.fn 11 (.bi .pair (.bi .sel (.var 12) (.int 1)) (.int 0))))), true),
  ((.eq (.un (.wrap .u8) (.bi .add (.bi .mul (.fn 10 (.bi .pair (.bi .sel (.var 12) (.int 2)) (.int 0))) (.int 16)) (.fn 10 (.bi .pair (.bi .sel (.var 12) (.int 3)) (.int 0))))) (.bi (.iop .add .u8) (.bi (.iop .mul .u8) (.int 16) (.fn 11 (.bi .pair (.bi .sel (.var 12) (.int 2)) (.int 0)))) (.fn 11 (.bi .pair (.bi .sel (.var 12) (.int 3)) (.int 0))))), true),
  ((.eq (.un (.wrap .u8) (.bi .add (.bi .mul (.fn 10 (.bi .pair (.bi .sel (.var 12) (.int 4)) (.int 0))) (.int 16)) (.fn 10 (.bi .pair (.bi .sel (.var 12) (.int 5)) (.int 0))))) (.bi (.iop .add .u8) (.bi (.iop .mul .u8) (.int 16) (.fn 11 (.bi .pair (.bi .sel (.var 12) (.int 4)) (.int 0)))) (.fn 11 (.bi .pair (.bi .sel (.var 12) (.int 5)) (.int 0))))), true),
  ((.eq (.un (.wrap .u8) (.bi .add (.bi .mul (.fn 10 (.bi .pair (.bi .sel (.var 12) (.int 6)) (.int 0))) (.int 16)) (.fn 10 (.bi .pair (.bi .sel (.var 12) (.int 7)) (.int 0))))) (.bi (.iop .add .u8) (.bi (.iop .mul .u8) (.int 16) (.fn 11 (.bi .pair (.bi .sel (.var 12) (.int 6)) (.int 0)))) (.fn 11 (.bi .pair (.bi .sel (.var 12) (.int 7)) (.int 0))))), true),
  ((.eq (.un (.wrap .u8) (.bi .add (.bi .mul (.fn 10 (.bi .pair (.bi .sel (.var 12) (.int 8)) (.int 0))) (.int 16)) (.fn 10 (.bi .pair (.bi .sel (.var 12) (.int 9)) (.int 0))))) (.bi (.iop .add .u8) (.bi (.iop .mul .u8) (.int 16) (.fn 11 (.bi .pair (.bi .sel (.var 12) (.int 8)) (.int 0)))) (.fn 11 (.bi .pair (.bi .sel (.var 12) (.int 9)) (.int 0))))), true),
  ((.eq (.un (.wrap .u8) (.bi .add (.bi .mul (.fn 10 (.bi .pair (.bi .sel (.var 12) (.int 10)) (.int 0))) (.int 16)) (.fn 10 (.bi .pair (.bi .sel (.var 12) (.int 11)) (.int 0))))) (.bi (.iop .add .u8) (.bi (.iop .mul .u8) (.int 16) (.fn 11 (.bi .pair (.bi .sel (.var 12) (.int 10)) (.int 0)))) (.fn 11 (.bi .pair (.bi .sel (.var 12) (.int 11)) (.int 0))))), true),
  ((.eq (.un (.wrap .u8) (.bi .add (.bi .mul (.fn 10 (.bi .pair (.bi .sel (.var 12) (.int 12)) (.int 0))) (.int 16)) (.fn 10 (.bi .pair (.bi .sel (.var 12) (.int 13)) (.int 0))))) (.bi (.iop .add .u8) (.bi (.iop .mul .u8) (.int 16) (.fn 11 (.bi .pair (.bi .sel (.var 12) (.int 12)) (.int 0)))) (.fn 11 (.bi .pair (.bi .sel (.var 12) (.int 13)) (.int 0))))), true),
  ((.eq (.un (.wrap .u8) (.bi .add (.bi .mul (.fn 10 (.bi .pair (.bi .sel (.var 12) (.int 14)) (.int 0))) (.int 16)) (.fn 10 (.bi .pair (.bi .sel (.var 12) (.int 15)) (.int 0))))) (.bi (.iop .add .u8) (.bi (.iop .mul .u8) (.int 16) (.fn 11 (.bi .pair (.bi .sel (.var 12) (.int 14)) (.int 0)))) (.fn 11 (.bi .pair (.bi .sel (.var 12) (.int 15)) (.int 0))))), true),
  ((.eq (.un (.wrap .u8) (.bi .add (.bi .mul (.fn 10 (.bi .pair (.bi .sel (.var 12) (.int 16)) (.int 0))) (.int 16)) (.fn 10 (.bi .pair (.bi .sel (.var 12) (.int 17)) (.int 0))))) (.bi (.iop .add .u8) (.bi (.iop .mul .u8) (.int 16) (.fn 11 (.bi .pair (.bi .sel (.var 12) (.int 16)) (.int 0)))) (.fn 11 (.bi .pair (.bi .sel (.var 12) (.int 17)) (.int 0))))), true),
  ((.eq (.un (.wrap .u8) (.bi .add (.bi .mul (.fn 10 (.bi .pair (.bi .sel (.var 12) (.int 18)) (.int 0))) (.int 16)) (.fn 10 (.bi .pair (.bi .sel (.var 12) (.int 19)) (.int 0))))) (.bi (.iop .add .u8) (.bi (.iop .mul .u8) (.int 16) (.fn 11 (.bi .pair (.bi .sel (.var 12) (.int 18)) (.int 0)))) (.fn 11 (.bi .pair (.bi .sel (.var 12) (.int 19)) (.int 0))))), true),
  ((.eq (.un (.wrap .u8) (.bi .add (.bi .mul (.fn 10 (.bi .pair (.bi .sel (.var 12) (.int 20)) (.int 0))) (.int 16)) (.fn 10 (.bi .pair (.bi .sel (.var 12) (.int 21)) (.int 0))))) (.bi (.iop .add .u8) (.bi (.iop .mul .u8) (.int 16) (.fn 11 (.bi .pair (.bi .sel (.var 12) (.int 20)) (.int 0)))) (.fn 11 (.bi .pair (.bi .sel (.var 12) (.int 21)) (.int 0))))), true),
  ((.eq (.un (.wrap .u8) (.bi .add (.bi .mul (.fn 10 (.bi .pair (.bi .sel (.var 12) (.int 22)) (.int 0))) (.int 16)) (.fn 10 (.bi .pair (.bi .sel (.var 12) (.int 23)) (.int 0))))) (.bi (.iop .add .u8) (.bi (.iop .mul .u8) (.int 16) (.fn 11 (.bi .pair (.bi .sel (.var 12) (.int 22)) (.int 0)))) (.fn 11 (.bi .pair (.bi .sel (.var 12) (.int 23)) (.int 0))))), true),
  ((.eq (.un (.wrap .u8) (.bi .add (.bi .mul (.fn 10 (.bi .pair (.bi .sel (.var 12) (.int 24)) (.int 0))) (.int 16)) (.fn 10 (.bi .pair (.bi .sel (.var 12) (.int 25)) (.int 0))))) (.bi (.iop .add .u8) (.bi (.iop .mul .u8) (.int 16) (.fn 11 (.bi .pair (.bi .sel (.var 12) (.int 24)) (.int 0)))) (.fn 11 (.bi .pair (.bi .sel (.var 12) (.int 25)) (.int 0))))), true),
  ((.eq (.un (.wrap .u8) (.bi .add (.bi .mul (.fn 10 (.bi .pair (.bi .sel (.var 12) (.int 26)) (.int 0))) (.int 16)) (.fn 10 (.bi .pair (.bi .sel (.var 12) (.int 27)) (.int 0))))) (.bi (.iop .add .u8) (.bi (.iop .mul .u8) (.int 16) (.fn 11 (.bi .pair (.bi .sel (.var 12) (.int 26)) (.int 0)))) (.fn 11 (.bi .pair (.bi .sel (.var 12) (.int 27)) (.int 0))))), true),
  ((.eq (.un (.wrap .u8) (.bi .add (.bi .mul (.fn 10 (.bi .pair (.bi .sel (.var 12) (.int 28)) (.int 0))) (.int 16)) (.fn 10 (.bi .pair (.bi .sel (.var 12) (.int 29)) (.int 0))))) (.bi (.iop .add .u8) (.bi (.iop .mul .u8) (.int 16) (.fn 11 (.bi .pair (.bi .sel (.var 12) (.int 28)) (.int 0)))) (.fn 11 (.bi .pair (.bi .sel (.var 12) (.int 29)) (.int 0))))), true),
  ((.eq (.un (.wrap .u8) (.bi .add (.bi .mul (.fn 10 (.bi .pair (.bi .sel (.var 12) (.int 30)) (.int 0))) (.int 16)) (.fn 10 (.bi .pair (.bi .sel (.var 12) (.int 31)) (.int 0))))) (.bi (.iop .add .u8) (.bi (.iop .mul .u8) (.int 16) (.fn 11 (.bi .pair (.bi .sel (.var 12) (.int 30)) (.int 0)))) (.fn 11 (.bi .pair (.bi .sel (.var 12) (.int 31)) (.int 0))))), true),
  ((.le (.int 0) (.bi (.iop .quo .u8) (.bi .sel (.var 2) (.int 0)) (.int 16))), true),
  ((.le (.int 16) (.bi (.iop .quo .u8) (.bi .sel (.var 2) (.int 0)) (.int 16))), false),
  ((.le (.int 0) (.bi (.iop .rem .u8) (.bi .sel (.var 2) (.int 0)) (.int 16))), true),
  ((.le (.int 16) (.bi (.iop .rem .u8) (.bi .sel (.var 2) (.int 0)) (.int 16))), false),
  ((.le (.int 0) (.bi (.iop .quo .u8) (.bi .sel (.var 2) (.int 1)) (.int 16))), true),
  ((.le (.int 16) (.bi (.iop .quo .u8) (.bi .sel (.var 2) (.int 1)) (.int 16))), false),
  ((.le (.int 0) (.bi (.iop .rem .u8) (.bi .sel (.var 2) (.int 1)) (.int 16))), true),
  ((.le (.int 16) (.bi (.iop .rem .u8) (.bi .sel (.var 2) (.int 1)) (.int 16))), false),
  ((.le (.int 0) (.bi (.iop .quo .u8) (.bi .sel (.var 2) (.int 2)) (.int 16))), true),
  ((.le (.int 16) (.bi (.iop .quo .u8) (.bi .sel (.var 2) (.int 2)) (.int 16))), false),
  ((.le (.int 0) (.bi (.iop .rem .u8) (.bi .sel (.var 2) (.int 2)) (.int 16))), true),
  ((.le (.int 16) (.bi (.iop .rem .u8) (.bi .sel (.var 2) (.int 2)) (.int 16))), false),
  ((.le (.int 0) (.bi (.iop .quo .u8) (.bi .sel (.var 2) (.int 3)) (.int 16))), true),
  ((.le (.int 16) (.bi (.iop .quo .u8) (.bi .sel (.var 2) (.int 3)) (.int 16))), false),
  ((.le (.int 0) (.bi (.iop .rem .u8) (.bi .sel (.var 2) (.int 3)) (.int 16))), true),
  ((.le (.int 16) (.bi (.iop .rem .u8) (.bi .sel (.var 2) (.int 3)) (.int 16))), false),
  ((.le (.int 0) (.bi (.iop .quo .u8) (.bi .sel (.var 2) (.int 4)) (.int 16))), true),
  ((.le (.int 16) (.bi (.iop .quo .u8) (.bi .sel (.var 2) (.int 4)) (.int 16))), false),
  ((.le (.int 0) (.bi (.iop .rem .u8) (.bi .sel (.var 2) (.int 4)) (.int 16))), true),
  ((.le (.int 16) (.bi (.iop .rem .u8) (.bi .sel (.var 2) (.int 4)) (.int 16))), false),
  ((.le (.int 0) (.bi (.iop .quo .u8) (.bi .sel (.var 2) (.int 5)) (.int 16))), true),
  ((.le (.int 16) (.bi (.iop .quo .u8) (.bi .sel (.var 2) (.int 5)) (.int 16))), false),
  ((.le (.int 0) (.bi (.iop .rem .u8) (.bi .sel (.var 2) (.int 5)) (.int 16))), true),
  ((.le (.int 16) (.bi (.iop .rem .u8) (.bi .sel (.var 2) (.int 5)) (.int 16))), false),
  ((.le (.int 0) (.bi (.iop .quo .u8) (.bi .sel (.var 2) (.int 6)) (.int 16))), true),
  ((.le (.int 16) (.bi (.iop .quo .u8) (.bi .sel (.var 2) (.int 6)) (.int 16))), false),
  ((.le (.int 0) (.bi (.iop .rem .u8) (.bi .sel (.var 2) (.int 6)) (.int 16))), true),
  ((.le (.int 16) (.bi (.iop .rem .u8) (.bi .sel (.var 2) (.int 6)) (.int 16))), false),
  ((.le (.int 0) (.bi (.iop .quo .u8) (.bi .sel (.var 2) (.int 7)) (.int 16))), true),
  ((.le (.int 16) (.bi (.iop .quo .u8) (.bi .sel (.var 2) (.int 7)) (.int 16))), false),
  ((.le (.int 0) (.bi (.iop .rem .u8) (.bi .sel (.var 2) (.int 7)) (.int 16))), true),
  ((.le (.int 16) (.bi (.iop .rem .u8) (.bi .sel (.var 2) (.int 7)) (.int 16))), false),
  ((.le (.int 0) (.bi (.iop .quo .u8) (.bi .sel (.var 2) (.int 8)) (.int 16))), true),
  ((.le (.int 16) (.bi (.iop .quo .u8) (.bi .sel (.var 2) (.int 8)) (.int 16))), false),
  ((.le (.int 0) (.bi (.iop .rem .u8) (.bi .sel (.var 2) (.int 8)) (.int 16))), true),
  ((.le (.int 16) (.bi (.iop .rem .u8) (.bi .sel (.var 2) (.int 8)) (.int 16))), false),
  ((.le (.int 0) (.bi (.iop .quo .u8) (.bi .sel (.var 2) (.int 9)) (.int 16))), true),
  ((.le (.int 16) (.bi (.iop .quo .u8) (.bi .sel (.var 2) (.int 9)) (.int 16))), false),
  ((.le (.int 0) (.bi (.iop .rem .u8) (.bi .sel (.var 2) (.int 9)) (.int 16))), true),
  ((.le (.int 16) (.bi (.iop .rem .u8) (.bi .sel (.var 2) (.int 9)) (.int 16))), false),
  ((.le (.int 0) (.bi (.iop .quo .u8) (.bi .sel (.var 2) (.int 10)) (.int 16))), true),
  ((.le (.int 16) (.bi (.iop .quo .u8) (.bi .sel (.var 2) (.int 10)) (.int 16))), false),
  ((.le (.int 0) (.bi (.iop .rem .u8) (.bi .sel (.var 2) (.int 10)) (.int 16))), true),
  ((.le (.int 16) (.bi (.iop .rem .u8) (.bi .sel (.var 2) (.int 10)) (.int 16))), false),
  ((.le (.int 0) (.bi (.iop .quo .u8) (.bi .sel (.var 2) (.int 11)) (.int 16))), true),
  ((.le (.int 16) (.bi (.iop .quo .u8) (.bi .sel (.var 2) (.int 11)) (.int 16))), false),
  ((.le (.int 0) (.bi (.iop .rem .u8) (.bi .sel (.var 2) (.int 11)) (.int 16))), true),
  ((.le (.int 16) (.bi (.iop .rem .u8) (.bi .sel (.var 2) (.int 11)) (.int 16))), false),
  ((.le (.int 0) (.bi (.iop .quo .u8) (.bi .sel (.var 2) (.int 12)) (.int 16))), true),
  ((.le (.int 16) (.bi (.iop .quo .u8) (.bi .sel (.var 2) (.int 12)) (.int 16))), false),
  ((.le (.int 0) (.bi (.iop .rem .u8) (.bi .sel (.var 2) (.int 12)) (.int 16))), true),
  ((.le (.int 16) (.bi (.iop .rem .u8) (.bi .sel (.var 2) (.int 12)) (.int 16))), false),
  ((.le (.int 0) (.bi (.iop .quo .u8) (.bi .sel (.var 2) (.int 13)) (.int 16))), true),
  ((.le (.int 16) (.bi (.iop .quo .u8) (.bi .sel (.var 2) (.int 13)) (.int 16))), false),
  ((.le (.int 0) (.bi (.iop .rem .u8) (.bi .sel (.var 2) (.int 13)) (.int 16))), true),
  ((.le (.int 16) (.bi (.iop .rem .u8) (.bi .sel (.var 2) (.int 13)) (.int 16))), false),
  ((.le (.int 0) (.bi (.iop .quo .u8) (.bi .sel (.var 2) (.int 14)) (.int 16))), true),
  ((.le (.int 16) (.bi (.iop .quo .u8) (.bi .sel (.var 2) (.int 14)) (.int 16))), false),
  ((.le (.int 0) (.bi (.iop .rem .u8) (.bi .sel (.var 2) (.int 14)) (.int 16))), true),
  ((.le (.int 16) (.bi (.iop .rem .u8) (.bi .sel (.var 2) (.int 14)) (.int 16))), false),
  ((.le (.int 0) (.bi (.iop .quo .u8) (.bi .sel (.var 2) (.int 15)) (.int 16))), true),
  ((.le (.int 16) (.bi (.iop .quo .u8) (.bi .sel (.var 2) (.int 15)) (.int 16))), false),
  ((.le (.int 0) (.bi (.iop .rem .u8) (.bi .sel (.var 2) (.int 15)) (.int 16))), true),
  ((.le (.int 16) (.bi (.iop .rem .u8) (.bi .sel (.var 2) (.int 15)) (.int 16))), false)]
set_option maxRecDepth 100000 in
theorem c_y3 : yesOf Tryd.prog (knownV (tellA c_t3) tab specs overs) 8000 80 5 [.agg [.sint .u8 (.bi .sel (.var 2) (.int 0)), .sint .u8 (.bi .sel (.var 2) (.int 1)), .sint .u8 (.bi .sel (.var 2) (.int 2)), .sint .u8 (.bi .sel (.var 2) (.int 3)), .sint .u8 (.bi .sel (.var 2) (.int 4)), .sint .u8 (.bi .sel (.var 2) (.int 5)), .sint .u8 (.bi .sel (.var 2) (.int 6)), .sint .u8 (.bi .sel (.var 2) (.int 7)), .sint .u8 (.bi .sel (.var 2) (.int 8)), .sint .u8 (.bi .sel (.var 2) (.int 9)), .sint .u8 (.bi .sel (.var 2) (.int 10)), .sint .u8 (.bi .sel (.var 2) (.int 11)), .sint .u8 (.bi .sel (.var 2) (.int 12)), .sint .u8 (.bi .sel (.var 2) (.int 13)), .sint .u8 (.bi .sel (.var 2) (.int 14)), .sint .u8 (.bi .sel (.var 2) (.int 15))], .sstr (.var 10) (.var 12)] (globSt g0) = true := by kernel_rfl
def c_t4 : List (Q × Bool) := [((.fit .i64 (.var 10)), true),
  ((.le (.var 10) (.int 100)), true),
  ((.le (.int 0) (.var 10)), true),
  ((.le (.var 10) (.int 1000)), true),
  ((.eq (.fn 12 (.bi .pair (.var 12) (.int 0))) (.var 10)), true),
  ((.eq (.var 10) (.int 32)), false),
  ((.le (.var 10) (.int 32)), false),
  ((.le (.int 0) (.bi (.iop .quo .u8) (.bi .sel (.var 2) (.int 0)) (.int 16))), true),
  ((.le (.int 16) (.bi (.iop .quo .u8) (.bi .sel (.var 2) (.int 0)) (.int 16))), false),
  ((.le (.int 0) (.bi (.iop .rem .u8) (.bi .sel (.var 2) (.int 0)) (.int 16))), true),
  ((.le (.int 16) (.bi (.iop .rem .u8) (.bi .sel (.var 2) (.int 0)) (.int 16))), false),
  ((.le (.int 0) (.bi (.iop .quo .u8) (.bi .sel (.var 2) (.int 1)) (.int 16))), true),
  ((.le (.int 16) (.bi (.iop .quo .u8) (.bi .sel (.var 2) (.int 1)) (.int 16))), false),
  ((.le (.int 0) (.bi (.iop .rem .u8) (.bi .sel (.var 2) (.int 1)) (.int 16))), true),
  ((.le (.int 16) (.bi (.iop .rem .u8) (.bi .sel (.var 2) (.int 1)) (.int 16))), false),
  ((.le (.int 0) (.bi (.iop .quo .u8) (.bi .sel (.var 2) (.int 2)) (.int 16))), true),
  ((.le (.int 16) (.bi (.iop .quo .u8) (.bi .sel (.var 2) (.int 2)) (.int 16))), false),
  ((.le (.int 0) (.bi (.iop .rem .u8) (.bi .sel (.var 2) (.int 2)) (.int 16))), true),
  ((.le (.int 16) (.bi (.iop .rem .u8) (.bi .sel (.var 2) (.int 2)) (.int 16))), false),
  ((.le (.int 0) (.bi (.iop .quo .u8) (.bi .sel (.var 2) (.int 3)) (.int 16))), true),
  ((.le (.int 16) (.bi (.iop .quo .u8) (.bi .sel (.var 2) (.int 3)) (.int 16))), false),
  ((.le (.int 0) (.bi (.iop .rem .u8) (.bi .sel (.var 2) (.int 3)) (.int 16))), true),
  ((.le (.int 16) (.bi (.iop .rem .u8) (.bi .sel (.var 2) (.int 3)) (.int 16))), false),
  ((.le (.int 0) (.bi (.iop .quo .u8) (.bi .sel (.var 2) (.int 4)) (.int 16))), true),
  ((.le (.int 16) (.bi (.iop .quo .u8) (.bi .sel (.var 2) (.int 4)) (.int 16))), false),
  ((.le (.int 0) (.bi (.iop .rem .u8) (.bi .sel (.var 2) (.int 4)) (.int 16))), true),
  ((.le (.int 16) (.bi (.iop .rem .u8) (.bi .sel (.var 2) (.int 4)) (.int 16))), false),
  ((.le (.int 0) (.bi (.iop .quo .u8) (.bi .sel (.var 2) (.int 5)) (.int 16))), true),
  ((.le (.int 16) (.bi (.iop .quo .u8) (.bi .sel (.var 2) (.int 5)) (.int 16))), false),
  ((.le (.int 0) (.bi (.iop .rem .u8) (.bi .sel (.var 2) (.int 5)) (.int 16))), true),
  ((.le (.int 16) (.bi (.iop .rem .u8) (.bi .sel (.var 2) (.int 5)) (.int 16))), false),
  ((.le (.int 0) (.bi (.iop .quo .u8) (.bi .sel (.var 2) (.int 6)) (.int 16))), true),
  ((.le (.int 16) (.bi (.iop .quo .u8) (.bi .sel (.var 2) (.int 6)) (.int 16))), false),
  ((.le (.int 0) (.bi (.iop .rem .u8) (.bi .sel (.var 2) (.int 6)) (.int 16))), true),
  ((.le (.int 16) (.bi (.iop .rem .u8) (.bi .sel (.var 2) (.int 6)) (.int 16))), false),
  ((.le (.int 0) (.bi (.iop .quo .u8) (.bi .sel (.var 2) (.int 7)) (.int 16))), true),
  ((.le (.int 16) (.bi (.iop .quo .u8) (.bi .sel (.var 2) (.int 7)) (.int 16))), false),
  ((.le (.int 0) (.bi (.iop .rem .u8) (.bi .sel (.var 2) (.int 7)) (.int 16))), true),
  ((.le (.int 16) (.bi (.iop .rem .u8) (.bi .sel (.var 2) (.int 7)) (.int 16))), false),
  ((.le (.int 0) (.bi (.iop .quo .u8) (.bi .sel (.var 2) (.int 8)) (.int 16))), true),
  ((.le (.int 16) (.bi (.iop .quo .u8) (.bi .sel (.var 2) (.int 8)) (.int 16))), false),
  ((.le (.int 0) (.bi (.iop .rem .u8) (.bi .sel (.var 2) (.int 8)) (.int 16))), true),
  ((.le (.int 16) (.bi (.iop .rem .u8) (.bi .sel (.var 2) (.int 8)) (.int 16))), false),
  ((.le (.int 0) (.bi (.iop .quo .u8) (.bi .sel (.var 2) (.int 9)) (.int 16))), true),
  ((.le (.int 16) (.bi (.iop .quo .u8) (.bi .sel (.var 2) (.int 9)) (.int 16))), false),
  ((.le (.int 0) (.bi (.iop .rem .u8) (.bi .sel (.var 2) (.int 9)) (.int 16))), true),
  ((.le (.int 16) (.bi (.iop .rem .u8) (.bi .sel (.var 2) (.int 9)) (.int 16))), false),
  ((.le (.int 0) (.bi (.iop .quo .u8) (.bi .sel (.var 2) (.int 10)) (.int 16))), true),
  ((.le (.int 16) (.bi (.iop .quo .u8) (.bi .sel (.var 2) (.int 10)) (.int 16))), false),
  ((.le (.int 0) (.bi (.iop .rem .u8) (.bi .sel (.var 2) (.int 10)) (.int 16))), true),
  ((.le (.int 16) (.bi (.iop .rem .u8) (.bi .sel (.var 2) (.int 10)) (.int 16))), false),
  ((.le (.int 0) (.bi (.iop .quo .u8) (.bi .sel (.var 2) (.int 11)) (.int 16))), true),
  ((.le (.int 16) (.bi (.iop .quo .u8) (.bi .sel (.var 2) (.int 11)) (.int 16))), false),
  ((.le (.int 0) (.bi (.iop .rem .u8) (.bi .sel (.var 2) (.int 11)) (.int 16))), true),
  ((.le (.int 16) (.bi (.iop .rem .u8) (.bi .sel (.var 2) (.int 11)) (.int 16))), false),
  ((.le (.int 0) (.bi (.iop .quo .u8) (.bi .sel (.var 2) (.int 12)) (.int 16))), true),
  ((.le (.int 16) (.bi (.iop .quo .u8) (.bi .sel (.var 2) (.int 12)) (.int 16))), false),
  ((.le (.int 0) (.bi (.iop .rem .u8) (.bi .sel (.var 2) (.int 12)) (.int 16))), true),
  ((.le (.int 16) (.bi (.iop .rem .u8) (.bi .sel (.var 2) (.int 12)) (.int 16))), false),
  ((.le (.int 0) (.bi (.iop .quo .u8) (.bi .sel (.var 2) (.int 13)) (.int 16))), true),
  ((.le (.int 16) (.bi (.iop .quo .u8) (.bi .sel (.var 2) (.int 13)) (.int 16))), false),
  ((.le (.int 0) (.bi (.iop .rem .u8) (.bi .sel (.var 2) (.int 13)) (.int 16))), true),
  ((.le (.int 16) (.bi (.iop .rem .u8) (.bi .sel (.var 2) (.int 13)) (.int 16))), false),
  ((.le (.int 0) (.bi (.iop .quo .u8) (.bi .sel (.var 2) (.int 14)) (.int 16))), true),
  ((.le (.int 16) (.bi (.iop .quo .u8) (.bi .sel (.var 2) (.int 14)) (.int 16))), false),
  ((.le (.int 0) (.bi (.iop .rem .u8) (.bi .sel (.var 2) (.int 14)) (.int 16))), true),
  ((.le (.int 16) (.bi (.iop .rem .u8) (.bi .sel (.var 2) (.int 14)) (.int 16))), false),
  ((.le (.int 0) (.bi (.iop .quo .u8) (.bi .sel (.var 2) (.int 15)) (.int 16))), true),
  ((.le (.int 16) (.bi (.iop .quo .u8) (.bi .sel (.var 2) (.int 15)) (.int 16))), false),
  ((.le (.int 0) (.bi (.iop .rem .u8) (.bi .sel (.var 2) (.int 15)) (.int 16))), true),
  ((.le (.int 16) (.bi (.iop .rem .u8) (.bi .sel (.var 2) (.int 15)) (.int 16))), false)]
set_option maxRecDepth 100000 in
theorem c_y4 : yesOf Tryd.prog (knownV (tellA c_t4) tab specs overs) 8000 80 5 [.agg [.sint .u8 (.bi .sel (.var 2) (.int 0)), .sint .u8 (.bi .sel (.var 2) (.int 1)), .sint .u8 (.bi .sel (.var 2) (.int 2)), .sint .u8 (.bi .sel (.var 2) (.int 3)), .sint .u8 (.bi .sel (.var 2) (.int 4)), .sint .u8 (.bi .sel (.var 2) (.int 5)), .sint .u8 (.bi .sel (.var 2) (.int 6)), .sint .u8 (.bi .sel (.var 2) (.int 7)), .sint .u8 (.bi .sel (.var 2) (.int 8)), .sint .u8 (.bi .sel (.var 2) (.int 9)), .sint .u8 (.bi .sel (.var 2) (.int 10)), .sint .u8 (.bi .sel (.var 2) (.int 11)), .sint .u8 (.bi .sel (.var 2) (.int 12)), .sint .u8 (.bi .sel (.var 2) (.int 13)), .sint .u8 (.bi .sel (.var 2) (.int 14)), .sint .u8 (.bi .sel (.var 2) (.int 15))], .sstr (.var 10) (.var 12)] (globSt g0) = true := by kernel_rfl
set_option maxHeartbeats 6000000 in
theorem c_walk {W : World} {zs0 : List Int} (zl0 : zs0.length = 16) (rng0 : ∀ c ∈ zs0, inK .u8 c) {s1 : ByteArray} (max1 : s1.size ≤ 9223372036854775807) (hG : GlobsR (om zs0 s1) W g0) : Calls Tryd.prog 5 #[.agg (zs0.map (Value.int .u8)).toArray, .string s1] W fun e w' => e = .returned (.bool true) ∧ Below W.heap.size W w' := by
  have r0 := Rel.globs (om zs0 s1) W g0 hG
  have hargs : VRs (Env.none (om zs0 s1)) [.agg [.sint .u8 (.bi .sel (.var 2) (.int 0)), .sint .u8 (.bi .sel (.var 2) (.int 1)), .sint .u8 (.bi .sel (.var 2) (.int 2)), .sint .u8 (.bi .sel (.var 2) (.int 3)), .sint .u8 (.bi .sel (.var 2) (.int 4)), .sint .u8 (.bi .sel (.var 2) (.int 5)), .sint .u8 (.bi .sel (.var 2) (.int 6)), .sint .u8 (.bi .sel (.var 2) (.int 7)), .sint .u8 (.bi .sel (.var 2) (.int 8)), .sint .u8 (.bi .sel (.var 2) (.int 9)), .sint .u8 (.bi .sel (.var 2) (.int 10)), .sint .u8 (.bi .sel (.var 2) (.int 11)), .sint .u8 (.bi .sel (.var 2) (.int 12)), .sint .u8 (.bi .sel (.var 2) (.int 13)), .sint .u8 (.bi .sel (.var 2) (.int 14)), .sint .u8 (.bi .sel (.var 2) (.int 15))], .sstr (.var 10) (.var 12)] [.agg (zs0.map (Value.int .u8)).toArray, .string s1] := VRs_cons (vr_arr (x := 2) (n := 16) (by rw [r0.opq]; rfl) rng0 zl0) (VRs_cons (vr_str (l := 10) (x := 12) (by rw [r0.opq]; rfl) (by rw [r0.opq]; rfl)) (VRs_nil))
  have zl1 := strE_length s1
  have rng1 := strE_in s1
  by_cases h : 100 < s1.size
  · refine calls_of_yesV sound tab_ok specs_ok overs_ok c_y0 rfl (tellA_ok (allTold'_iff.1 ?_)) r0 hargs
    simp only [c_t0, om_2, om_10, om_12, om_f, allTold', dutiesTold, factsA, factsP, factsR, AV.facts, RW.facts, inK, and_true, Q.holds', E.i, E.s, E.n, D.nat, E.den, BO.den, UO.den, TO.den, D.toInt_int, D.toList_list, D.ints_ofInts, i64min, i64max, u8min, u8max, u16min, u16max, u32min, u32max, u64min, u64max, i32min, i32max, Om.sub, selI, ints_app, ints_cut, ints_upd, ints_rep, ints_splice, ints_seg, len_ints]
    omega
  · have rb : ∀ j : Nat, 0 ≤ (zs0[j]?).getD 0 ∧ (zs0[j]?).getD 0 ≤ 255 := fun j => by
      cases hz : zs0[j]? with
      | none => simp
      | some c => exact rng0 c (List.mem_of_getElem? hz)
    have hq1 : ∀ j : Nat, 0 ≤ iopI .quo .u8 ((zs0[j]?).getD 0) 16 := fun j => by have := rb j; rw [quo8 this]; omega
    have hq2 : ∀ j : Nat, iopI .quo .u8 ((zs0[j]?).getD 0) 16 < 16 := fun j => by have := rb j; rw [quo8 this]; omega
    have hq3 : ∀ j : Nat, 0 ≤ iopI .rem .u8 ((zs0[j]?).getD 0) 16 := fun j => by have := rb j; rw [rem_emod _ (by omega)]; omega
    have hq4 : ∀ j : Nat, iopI .rem .u8 ((zs0[j]?).getD 0) 16 < 16 := fun j => by have := rb j; rw [rem_emod _ (by omega)]; omega
    have ll := lead_le (strE s1)
    by_cases hb : leadI (strE s1) < s1.size
    · refine calls_of_yesV sound tab_ok specs_ok overs_ok c_y1 rfl (tellA_ok (allTold'_iff.1 ?_)) r0 hargs
      simp only [c_t1, om_2, om_10, om_12, om_f, F12, allTold', dutiesTold, factsA, factsP, factsR, AV.facts, RW.facts, inK, and_true, Q.holds', E.i, E.s, E.n, D.nat, E.den, BO.den, UO.den, TO.den, D.toInt_int, D.toList_list, D.ints_ofInts, i64min, i64max, u8min, u8max, u16min, u16max, u32min, u32max, u64min, u64max, i32min, i32max, Om.sub, selI, ints_app, ints_cut, ints_upd, ints_rep, ints_splice, ints_seg, len_ints]
      and_intros <;> first | exact hq1 _ | exact hq2 _ | exact hq3 _ | exact hq4 _ | omega | rfl | trivial
    · by_cases h32 : s1.size = 32
      · have hv : ∀ j : Int, 0 ≤ j → j < 32 → valI (((strE s1)[Int.toNat j]?).getD 0) = numI (((strE s1)[Int.toNat j]?).getD 0) ∧ 0 ≤ numI (((strE s1)[Int.toNat j]?).getD 0) ∧ numI (((strE s1)[Int.toNat j]?).getD 0) ≤ 15 ∧ digI (((strE s1)[Int.toNat j]?).getD 0) = numI (((strE s1)[Int.toNat j]?).getD 0) := by
          intro j hj0 hj
          obtain ⟨c, hc, hg⟩ := lead_good (strE s1) j.toNat (by omega)
          rw [hc]
          exact val_good hg
        refine calls_of_yesV sound tab_ok specs_ok overs_ok c_y3 rfl (tellA_ok (allTold'_iff.1 ?_)) r0 hargs
        simp only [c_t3, om_2, om_10, om_12, om_f, F10, F11, F12, allTold', dutiesTold, factsA, factsP, factsR, AV.facts, RW.facts, inK, and_true, Q.holds', E.i, E.s, E.n, D.nat, E.den, BO.den, UO.den, TO.den, D.toInt_int, D.toList_list, D.ints_ofInts, i64min, i64max, u8min, u8max, u16min, u16max, u32min, u32max, u64min, u64max, i32min, i32max, Om.sub, selI, ints_app, ints_cut, ints_upd, ints_rep, ints_splice, ints_seg, len_ints]
        have v0 := hv 0 (by omega) (by omega)
        have v1 := hv 1 (by omega) (by omega)
        have v2 := hv 2 (by omega) (by omega)
        have v3 := hv 3 (by omega) (by omega)
        have v4 := hv 4 (by omega) (by omega)
        have v5 := hv 5 (by omega) (by omega)
        have v6 := hv 6 (by omega) (by omega)
        have v7 := hv 7 (by omega) (by omega)
        have v8 := hv 8 (by omega) (by omega)
        have v9 := hv 9 (by omega) (by omega)
        have v10 := hv 10 (by omega) (by omega)
        have v11 := hv 11 (by omega) (by omega)
        have v12 := hv 12 (by omega) (by omega)
        have v13 := hv 13 (by omega) (by omega)
        have v14 := hv 14 (by omega) (by omega)
        have v15 := hv 15 (by omega) (by omega)
        have v16 := hv 16 (by omega) (by omega)
        have v17 := hv 17 (by omega) (by omega)
        have v18 := hv 18 (by omega) (by omega)
        have v19 := hv 19 (by omega) (by omega)
        have v20 := hv 20 (by omega) (by omega)
        have v21 := hv 21 (by omega) (by omega)
        have v22 := hv 22 (by omega) (by omega)
        have v23 := hv 23 (by omega) (by omega)
        have v24 := hv 24 (by omega) (by omega)
        have v25 := hv 25 (by omega) (by omega)
        have v26 := hv 26 (by omega) (by omega)
        have v27 := hv 27 (by omega) (by omega)
        have v28 := hv 28 (by omega) (by omega)
        have v29 := hv 29 (by omega) (by omega)
        have v30 := hv 30 (by omega) (by omega)
        have v31 := hv 31 (by omega) (by omega)
        simp only [v0.1, v0.2.2.2, v1.1, v1.2.2.2, v2.1, v2.2.2.2, v3.1, v3.2.2.2, v4.1, v4.2.2.2, v5.1, v5.2.2.2, v6.1, v6.2.2.2, v7.1, v7.2.2.2, v8.1, v8.2.2.2, v9.1, v9.2.2.2, v10.1, v10.2.2.2, v11.1, v11.2.2.2, v12.1, v12.2.2.2, v13.1, v13.2.2.2, v14.1, v14.2.2.2, v15.1, v15.2.2.2, v16.1, v16.2.2.2, v17.1, v17.2.2.2, v18.1, v18.2.2.2, v19.1, v19.2.2.2, v20.1, v20.2.2.2, v21.1, v21.2.2.2, v22.1, v22.2.2.2, v23.1, v23.2.2.2, v24.1, v24.2.2.2, v25.1, v25.2.2.2, v26.1, v26.2.2.2, v27.1, v27.2.2.2, v28.1, v28.2.2.2, v29.1, v29.2.2.2, v30.1, v30.2.2.2, v31.1, v31.2.2.2, add8, mul8, wrap8]
        have hn : ∀ j : Int, 0 ≤ j → j < 32 → 0 ≤ numI (((strE s1)[Int.toNat j]?).getD 0) ∧ numI (((strE s1)[Int.toNat j]?).getD 0) ≤ 15 := fun j a b => ⟨(hv j a b).2.1, (hv j a b).2.2.1⟩
        clear v0 v1 v2 v3 v4 v5 v6 v7 v8 v9 v10 v11 v12 v13 v14 v15 v16 v17 v18 v19 v20 v21 v22 v23 v24 v25 v26 v27 v28 v29 v30 v31
        and_intros <;> first | exact hq1 _ | exact hq2 _ | exact hq3 _ | exact hq4 _ | exact (hn _ (by decide) (by decide)).1 | exact eqL (hn _ (by decide) (by decide)) (hn _ (by decide) (by decide)) | exact lo1 (hn _ (by decide) (by decide)) | exact hi1 (hn _ (by decide) (by decide)) | exact lo2 (hn _ (by decide) (by decide)) (hn _ (by decide) (by decide)) | exact hi2 (hn _ (by decide) (by decide)) (hn _ (by decide) (by decide)) | omega
      · by_cases h33 : s1.size < 32
        · refine calls_of_yesV sound tab_ok specs_ok overs_ok c_y2 rfl (tellA_ok (allTold'_iff.1 ?_)) r0 hargs
          simp only [c_t2, om_2, om_10, om_12, om_f, F12, allTold', dutiesTold, factsA, factsP, factsR, AV.facts, RW.facts, inK, and_true, Q.holds', E.i, E.s, E.n, D.nat, E.den, BO.den, UO.den, TO.den, D.toInt_int, D.toList_list, D.ints_ofInts, i64min, i64max, u8min, u8max, u16min, u16max, u32min, u32max, u64min, u64max, i32min, i32max, Om.sub, selI, ints_app, ints_cut, ints_upd, ints_rep, ints_splice, ints_seg, len_ints]
          and_intros <;> first | exact hq1 _ | exact hq2 _ | exact hq3 _ | exact hq4 _ | omega | rfl | trivial
        · refine calls_of_yesV sound tab_ok specs_ok overs_ok c_y4 rfl (tellA_ok (allTold'_iff.1 ?_)) r0 hargs
          simp only [c_t4, om_2, om_10, om_12, om_f, F12, allTold', dutiesTold, factsA, factsP, factsR, AV.facts, RW.facts, inK, and_true, Q.holds', E.i, E.s, E.n, D.nat, E.den, BO.den, UO.den, TO.den, D.toInt_int, D.toList_list, D.ints_ofInts, i64min, i64max, u8min, u8max, u16min, u16max, u32min, u32max, u64min, u64max, i32min, i32max, Om.sub, selI, ints_app, ints_cut, ints_upd, ints_rep, ints_splice, ints_seg, len_ints]
          and_intros <;> first | exact hq1 _ | exact hq2 _ | exact hq3 _ | exact hq4 _ | omega | rfl | trivial

theorem underStr9 : Tryd.prog.underlying 9 = some .string := by kernel_rfl
theorem underA27 : Tryd.prog.underlying 27 = some (.array 16 5) := by kernel_rfl
theorem cellsA27 : Tryd.prog.cellsOf 27 = 16 := by kernel_rfl
theorem underAE5 : Tryd.prog.underlying 5 = some (.int .u8) := by kernel_rfl
theorem cellsAE5 : Tryd.prog.cellsOf 5 = 1 := by kernel_rfl

set_option maxRecDepth 100000 in
theorem lifted (os : Os) (started : os.Started) (H : Type) (enc : TypeId × Value → H) :
    ReturnsInHanded {} Tryd.checked os 5 .any (fun w args => (Rows.digestTextsSpec.pre enc Tryd.prog Tryd.f5 [] false w args ∧ laidMetH Tryd.prog laidL w) ∧ sizedMet enc Tryd.prog Tryd.f5 (OpenSpec.ofChange Rows.digestTextsSpec) false w args)
      (Rows.digestTextsSpec.post enc Tryd.prog Tryd.f5 false true false false) := by
  refine returnsInHanded_of_change_and (C := Tryd.checked) (X := fun w _ => laidMetH Tryd.prog laidL w) (fun _ _ _ hh h => h.of_heap hh) own started (by kernel_rfl) Tryd.func5
    (ChangeSpec.witness_shaped (enc := enc) (C := Tryd.checked) (os := os) (X := fun w _ => laidMetH Tryd.prog laidL w) false (World.doorLaid Tryd.prog 400 os) #[.agg #[.int .u8 0, .int .u8 0, .int .u8 0, .int .u8 0, .int .u8 0, .int .u8 0, .int .u8 0, .int .u8 0, .int .u8 0, .int .u8 0, .int .u8 0, .int .u8 0, .int .u8 0, .int .u8 0, .int .u8 0, .int .u8 0], .string ByteArray.empty] 8 rfl (World.shaped_of_RefB (by kernel_rfl) (by kernel_rfl)) (by kernel_rfl) (by kernel_rfl) (by kernel_rfl) (door_met os _)) ?_
  intro W base args ds gs before hval0 hW _ _ hL _
  have hval : ∀ (j : Nat) t v, Tryd.f5.params[j]? = some t → args[j]? = some v → Value.okWide Tryd.prog W .any base t v := hval0
  have hW' := hW
  have hlt := hW.lt
  obtain ⟨p, q, hA0, hV, rfl, hfz, hnd⟩ := hW
  have hA : DataW.TrodAll enc Tryd.prog W 0 (fun _ => true) true Tryd.f5.params.toList args.toList ds p := hA0
  have hAll := hA
  rw [Tryd.params5] at hA hval hAll
  obtain ⟨rfl, rfl⟩ := trodVars_none hV
  obtain ⟨v0, v1, d0, d1, p0, p1, rfl, rfl, rfl, h0, h1⟩ := trodAll_two hA
  obtain ⟨zs0, rfl, zl0, rng0, rfl⟩ := in_arr underA27 underAE5 cellsAE5 cellsA27 (hval 0 27 _ rfl rfl) h0
  obtain ⟨s1, rfl, rfl, max1⟩ := in_str underStr9 (hval 1 9 _ rfl rfl) h1
  clear hA0 hval0
  have hcall : Calls Tryd.prog 5 #[.agg (zs0.map (Value.int .u8)).toArray, .string s1] W fun e w' => e = .returned (.bool true) ∧ Below W.heap.size W w' := by
    exact c_walk zl0 rng0 max1 (globs0 _ hL)
  refine hcall.mono fun e W' ⟨he, hg⟩ => ?_
  subst he
  exact ⟨_, rfl, _, [], _, [], _, [], hW', trodAll_cons_mk (shut_bool Tryd.underlying4 _) trodAll_mk0, trodAll_stays laid hg _ _ _ _ hAll (fun x hx => hlt x (by simp at hx)) (by kernel_rfl), rfl, hg.frame _, fun h => by cases h⟩

theorem over : Rows.digestTextsRow.holds Tryd.pinned (OpenSpec.ofChange Rows.digestTextsSpec) :=
  OpenClaim.holds_of_wide 5 Tryd.f5 rfl rfl rfl rfl rfl rfl rfl ⟨rfl, rfl, rfl, rfl, rfl⟩ rfl rfl rfl rfl rfl (by kernel_rfl) Tryd.func5 (by kernel_rfl)
    (of_decide_eq_true (by kernel_rfl)) (by unfold Func.isWrapper; first | (rw [if_pos (by decide +kernel)]; kernel_rfl) | (rw [if_neg (by decide +kernel)]; exact ⟨rfl, rfl⟩))
    (fun os started H enc _ => lifted os started H enc)

/-- The statement: the tied card. -/
theorem proved : Rows.DigestTextsCardSaid :=
  Claim7.holds_tied_plain_at .later [] [.data] true (true, "ac7028f90ed41e147c51a0be7201309638ceaa3c2d5bf928e2591fbded07ddd3") false
    over (fun _ h => by cases h) (by kernel_rfl) (fun _ h => by cases h) digestTexts_row_tie rfl ⟨rfl, rfl⟩ (by kernel_rfl) rfl
    (fun f fn hf hfn => by
      obtain rfl : f = 5 := Option.some.inj ((show Tryd.prog.funcNamed "satchel/satchellaw03.DigestTexts" = some 5 by kernel_rfl).symm.trans hf) |>.symm
      obtain rfl : fn = Tryd.f5 := (Option.some.inj (Tryd.func5.symm.trans hfn)).symm
      exact ⟨by kernel_rfl, fun j t ht => by
        rw [Tryd.params5] at ht
        have hm : t ∈ ([27, 9] : List TypeId) := by simpa using Array.mem_of_getElem? ht
        have hall : (([27, 9] : List TypeId).all fun u => !Tryd.prog.wantsStandIn u) = true := by kernel_rfl
        exact (show Tryd.prog.wantsStandIn t = false by simpa using List.all_eq_true.1 hall t hm)⟩)
    (by kernel_rfl)
#print axioms proved
end Go.Proofs.YtfjcioggdaigoaaDoor.digestTexts
