/- Loops that count: what they leave is what so many rounds make of it. No condition. -/
import Derived.Test.YtidpndnehbhloaaDoorSyx
namespace Go.Ev
open Go.RowKit

def argsE : List E → E
 | [] => .int 0
 | x :: l => .bi .pair x (argsE l)
def argD : D → Nat → D
 | .list [x, _], 0 => x
 | .list [_, r], k + 1 => argD r k
 | _, _ => .int 0


theorem i64min : IntKind.i64.min = -9223372036854775808 := rfl
theorem i64max : IntKind.i64.max = 9223372036854775807 := rfl

def Q.holds (Ω : Om) : Q → Bool → Prop
 | .le x y, true => x.i Ω ≤ y.i Ω
 | .le x y, false => ¬ x.i Ω ≤ y.i Ω
 | .eq x y, true => x.i Ω = y.i Ω
 | .eq x y, false => ¬ x.i Ω = y.i Ω
 | .fit k x, true => k.min ≤ x.i Ω ∧ x.i Ω ≤ k.max
 | .fit k x, false => ¬ (k.min ≤ x.i Ω ∧ x.i Ω ≤ k.max)
 | q, b => q.val Ω = b
end Go.Ev
