/-
 Contracts of this seat: what loops and calls leave, for all inputs. No condition.
-/
import Derived.Test.YtljhphebljelcaaSycp
import Derived.Test.YtljhphebljelcaaSyfm
import Derived.Test.YtljhphebljelcaaCo
import Derived.Test.YtljhphebljelcaaShelf
import Derived.Test.YtljhphebljelcaaPa
import Derived.Test.YtljhphebljelcaaPb
import Derived.Test.YtljhphebljelcaaPc
import Derived.Test.YtljhphebljelcaaPd
import Derived.Test.YtljhphebljelcaaPe
import Derived.Test.YtljhphebljelcaaPf
set_option linter.unusedSimpArgs false
set_option linter.unusedVariables false
namespace Go.Proofs.Ytljhphebljelcaa.Pg
open Go.RowKit Go.Ev Go.Proofs.Ytljhphebljelcaa.Co

open Go.Proofs.Ytljhphebljelcaa.Pa
open Go.Proofs.Ytljhphebljelcaa.Pb
open Go.Proofs.Ytljhphebljelcaa.Pc
open Go.Proofs.Ytljhphebljelcaa.Pd
open Go.Proofs.Ytljhphebljelcaa.Pe
open Go.Proofs.Ytljhphebljelcaa.Pf


def repC : CSpec := { args := [.str ⟨#[97]⟩, .int .i64 61], next := 0, rows := [], pre := [], res := .str ⟨#[97, 97, 97, 97, 97, 97, 97, 97, 97, 97, 97, 97, 97, 97, 97, 97, 97, 97, 97, 97, 97, 97, 97, 97, 97, 97, 97, 97, 97, 97, 97, 97, 97, 97, 97, 97, 97, 97, 97, 97, 97, 97, 97, 97, 97, 97, 97, 97, 97, 97, 97, 97, 97, 97, 97, 97, 97, 97, 97, 97, 97]⟩, frows := [], same := [] }
theorem repC_holds : CHolds Try.prog 43 repC F := by
 intro d hp v B e w xs hr ha
 simp only [repC, VRs, VR] at ha
 obtain ⟨_, _, rfl, rfl, _, _, rfl, rfl, rfl⟩ := ha
 refine Calls.mono (Try.strings_Repeat ⟨#[97]⟩ 61 w (by decide) (by decide)) fun en w' ⟨he, hb⟩ => ⟨e, ⟨repC.next, hr.below_later hb⟩, ⟨_, he, ?_⟩, fun i hi => by simp [repC] at hi, fun g => ⟨rfl, rfl⟩⟩
 simp only [repC, VR]
 rfl


def knownC : CSpec := ⟨[], 0, [], [], .bool true, [], []⟩
set_option maxRecDepth 100000 in
theorem knownC_y : endC knownC [] 1000 (callW Try.prog F noAsk [] [(43, repC)] [] 8000 80 26 knownC) = some [] := by kernel_rfl
theorem knownC_holds : CHolds Try.prog 26 knownC F := choldsW_of sound (tableNil _ _) (specsCons repC_holds (specsNil _ _)) (oversNil _ _) (by kernel_rfl) fun d _ _ _ => ⟨noAsk, [], 1000, [], noAsk_ok _, knownC_y, fun p hp => by cases hp⟩

def tabO : List LEntry := []
def specsO : List (FuncId × CSpec) := [(20, pathC), (26, knownC)]
def oversO : Overs := []
theorem tabO_ok : TableOK Try.prog tabO F := tableNil _ _
theorem specsO_ok : SpecsOK Try.prog specsO F := specsCons pathC_holds (specsCons knownC_holds (specsNil _ _))
theorem oversO_ok : OversOK Try.prog oversO F := oversNil _ _
end Go.Proofs.Ytljhphebljelcaa.Pg
