/-
 Contracts of this seat: what loops and calls leave, for all inputs. No condition.
-/
import Derived.Test.YtmlocknojpmfpaaSycp
import Derived.Test.YtmlocknojpmfpaaSyfm
import Derived.Test.YtmlocknojpmfpaaCo
import Derived.Test.YtmlocknojpmfpaaK1
import Derived.Test.YtmlocknojpmfpaaK2
import Derived.Test.YtmlocknojpmfpaaK3
set_option linter.unusedSimpArgs false
set_option linter.unusedVariables false
namespace Go.Proofs.Ytmlocknojpmfpaa.K4
open Go.RowKit Go.Ev Go.Proofs.Ytmlocknojpmfpaa.Co

open Go.Proofs.Ytmlocknojpmfpaa.K1
open Go.Proofs.Ytmlocknojpmfpaa.K2
open Go.Proofs.Ytmlocknojpmfpaa.K3


def tab : List LEntry := [⟨5, [4, 1, 0, 1, 1, 1], sumL⟩, ⟨5, [4, 1, 0, 1, 1, 1, 1, 1, 1, 1, 1], k0i0⟩, ⟨5, [4, 1, 0, 1, 1, 1, 1, 1, 1, 1, 1], k0o0⟩, ⟨5, [4, 1, 0, 1, 1, 1, 1, 1, 1, 1, 1], k1i0⟩, ⟨5, [4, 1, 0, 1, 1, 1, 1, 1, 1, 1, 1], k1i1⟩, ⟨5, [4, 1, 0, 1, 1, 1, 1, 1, 1, 1, 1], k1o1⟩, ⟨5, [4, 1, 0, 1, 1, 1, 1, 1, 1, 1, 1], k2i0⟩, ⟨5, [4, 1, 0, 1, 1, 1, 1, 1, 1, 1, 1], k2i1⟩, ⟨5, [4, 1, 0, 1, 1, 1, 1, 1, 1, 1, 1], k2i2⟩, ⟨5, [4, 1, 0, 1, 1, 1, 1, 1, 1, 1, 1], k2i3⟩, ⟨5, [4, 1, 0, 1, 1, 1, 1, 1, 1, 1, 1], k2o2⟩, ⟨5, [4, 1, 0, 1, 1, 1, 1, 1, 1, 1, 1], k3i0⟩, ⟨5, [4, 1, 0, 1, 1, 1, 1, 1, 1, 1, 1], k3i1⟩, ⟨5, [4, 1, 0, 1, 1, 1, 1, 1, 1, 1, 1], k3i2⟩, ⟨5, [4, 1, 0, 1, 1, 1, 1, 1, 1, 1, 1], k3i3⟩, ⟨5, [4, 1, 0, 1, 1, 1, 1, 1, 1, 1, 1], k3o3⟩]
def specs : List (FuncId × CSpec) := [(4, knownC), (30, pickC), (51, modC)]
def overs : Overs := [(64, .lib (.clone)), (35, .lib (.keys 58 9))]
theorem tab_ok : TableOK Try.prog tab F := tableCons sumL_holds (tableCons k0i0_holds (tableCons k0o0_holds (tableCons k1i0_holds (tableCons k1i1_holds (tableCons k1o1_holds (tableCons k2i0_holds (tableCons k2i1_holds (tableCons k2i2_holds (tableCons k2i3_holds (tableCons k2o2_holds (tableCons k3i0_holds (tableCons k3i1_holds (tableCons k3i2_holds (tableCons k3i3_holds (tableCons k3o3_holds (tableNil _ _))))))))))))))))
theorem specs_ok : SpecsOK Try.prog specs F := specsCons knownC_holds (specsCons pickC_holds (specsCons modC_holds (specsNil _ _)))
theorem overs_ok : OversOK Try.prog overs F := oversLib cloneL_holds (oversLib keysL0_holds (oversNil _ _))
end Go.Proofs.Ytmlocknojpmfpaa.K4
