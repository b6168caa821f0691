/- No ranges over maps. No condition. -/
import Derived.Test.YtidpndnehbhloaaDoorSyj
namespace Go.Ev
open Go.RowKit
def withSums (P : Program) (F : Facts) (lp : FuncId → Loops) (f : FuncId) : Loops := lp f
theorem withSums_ok {P : Program} (S : Sound P) {Ω : Om} {w0 : Base} {F : Facts} (hF : FactsOK P Ω w0 F) {lp : FuncId → Loops} (h : ∀ f fn c, P.funcs[f]? = some fn → fn.body = some c → LoopsOK P Ω w0 c (lp f)) (f : FuncId) (fn : Func) (c : Code) (hf : P.funcs[f]? = some fn) (hc : fn.body = some c) : LoopsOK P Ω w0 c (withSums P F lp f) := h f fn c hf hc
end Go.Ev
