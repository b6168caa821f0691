/- No calls of the library. No condition. -/
import Derived.Test.YtidpndnehbhloaaDoorSypa
namespace Go.Ev
open Go.RowKit
inductive LibK where
 | clone
def LibHolds (P : Program) (g : FuncId) : LibK → Prop
 | .clone => False
def libRun (A : Ask) (k : LibK) (args : List AV) (s : St) : Option (En × St) := none
theorem libRun_ok {P : Program} {Ω : Om} {w0 : Base} {A : Ask} (hA : AskOK Ω A) {g : FuncId} {kk : LibK} (H : LibHolds P g kk) {args : List AV} {s s' : St} {en : En} (k : libRun A kk args s = some (en, s')) {e : Env} {w : World} {as : List Value} (hr : Rel Ω w0 e s w) (ha : VRs e args as) :
  Calls P g as.toArray w fun E w' => ∃ e', e.le e' ∧ Rel Ω w0 e' s' w' ∧ EnR e' en E := by
 cases kk;exact H.elim
end Go.Ev
