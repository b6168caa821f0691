/-
  The law FieldOrder, for each class of two numbers and each order: the evaluator's answer is true. No condition.
-/
import Derived.Test.YtioeihajajacdaaFOa
import Derived.Test.YtioeihajajacdaaProg
namespace Go.Proofs.Ytioeihajajacdaa.fieldOrder
open Go.Ev

noncomputable def goes (c : Cfg) : Bool := yesOf Try.prog (some (known c)) 2000 30 8 [.opq 0, .opq 8]
noncomputable def allFrom (x : Bool × Bool × Nat) : Bool := classes.all fun y => orders.all fun r => !maybe x y r || goes ⟨x.1, x.2.1, x.2.2, y.1, y.2.1, y.2.2, r.1, r.2⟩

theorem from_neg : allFrom (true, false, 0) = true := by kernel_rfl
theorem from_big : allFrom (false, true, 0) = true := by kernel_rfl
theorem from_1 : allFrom (false, false, 1) = true := by kernel_rfl
theorem from_2 : allFrom (false, false, 2) = true := by kernel_rfl
theorem from_3 : allFrom (false, false, 3) = true := by kernel_rfl
theorem from_4 : allFrom (false, false, 4) = true := by kernel_rfl
theorem from_5 : allFrom (false, false, 5) = true := by kernel_rfl

theorem all_from (x : Bool × Bool × Nat) (h : x ∈ classes) : allFrom x = true := by
  simp only [classes, List.mem_cons, List.not_mem_nil, or_false] at h
  rcases h with rfl | rfl | rfl | rfl | rfl | rfl | rfl
  · exact from_neg
  · exact from_big
  · exact from_1
  · exact from_2
  · exact from_3
  · exact from_4
  · exact from_5
end Go.Proofs.Ytioeihajajacdaa.fieldOrder
