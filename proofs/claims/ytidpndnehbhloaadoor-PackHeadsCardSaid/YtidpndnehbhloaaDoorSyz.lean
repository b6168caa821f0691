/- Calls on values without addresses, each gone through once, with loops that are known: what they come to is reckoned. No condition. -/
import Derived.Test.YtidpndnehbhloaaDoorSyy
namespace Go.Ev
open Go.RowKit

def noAsk : Ask := fun _ => none
theorem noAsk_ok (Ω : Om) : AskOK Ω noAsk := fun _ _ h => by cases h

end Go.Ev
