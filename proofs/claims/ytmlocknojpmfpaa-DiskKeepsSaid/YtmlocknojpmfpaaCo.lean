/-
 What the texts of this seat share: the program is one that the evaluator serves; what the package variables hold that the program lays; some calls, gone through one by one. No condition.
-/
import Derived.Test.YtmlocknojpmfpaaSyn
import Derived.Test.YtmlocknojpmfpaaRows
import Derived.LaidMore
import Derived.Stop.Joined
set_option linter.unusedSimpArgs false
set_option linter.unusedVariables false
namespace Go.Proofs.Ytmlocknojpmfpaa.Co
open Go.ChangeShapes Go.WideShapes Go.ChangeAt Go.RowKit Go.Ev

theorem own : ownKnob Try.prog.godebug = none := by kernel_rfl
theorem laid : laidOutB Try.prog = true := by kernel_rfl
theorem sound : Sound Try.prog where
 mixed := by kernel_rfl
 names f fn c hf hb := by
  have hall : Try.prog.funcs.all (fun fn => fn.body.isNone || !(fn.name == "runtime.NumGoroutine")) = true := by kernel_rfl
  have := Array.all_eq_true_iff_forall_mem.1 hall fn (Array.mem_of_getElem? hf)
  simpa [hb] using this

def g0 : List (Nat × List AV) := []
theorem globs0 (Ω : Om) (W : World) : GlobsR Ω W g0 := fun p hp => by simp [g0] at hp

end Go.Proofs.Ytmlocknojpmfpaa.Co
