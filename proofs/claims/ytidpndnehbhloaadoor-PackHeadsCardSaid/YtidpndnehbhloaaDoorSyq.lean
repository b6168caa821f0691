/- Every acting operation of a program in which there is no map, no method by an interface, no bodiless function that acts: instead of the text on these. No condition. -/
import Derived.Test.YtidpndnehbhloaaDoorSyva
import Derived.MapKept
import Derived.ChangeKeysEq
namespace Go.Ev
open Go.RowKit
def actB (P : Program) (A : Ask) (call : Caller) (t : T AV) (s : St) (o : Oper) : Option Res := actB1 P A call t s o
theorem actB_run {P : Program} (S : Sound P) {Ω : Om} {w0 : Base} {call : Caller} (hc : CallOK P Ω w0 call) {A : Ask} (hA : AskOK Ω A) {e : Env} {t : T AV} {a : Act} (h : FT e t a) {s : St} {w : World} (hr : Rel Ω w0 e s w) {o : Oper} {r : Res} (k : actB P A call t s o = some r)
  (K : Act → World → Prop) (Q : Exit → Act → World → Prop) (H : ResPost Ω w0 e o a K Q w r) : o.wp P a w K Q :=
 actB1_run S hc hA h hr k K Q H
end Go.Ev
