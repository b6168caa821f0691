/- A law's frame: from a call that returns true and turns nothing that was there to what a law's statement asks; what is known of a slice of bytes that came in. No condition. -/
import Derived.Test.YtidpndnehbhloaaDoorSyk
import Derived.ProofKit
import Derived.Carry
import Derived.OpenShut
namespace Go.Ev
open Go.ChangeShapes Go.WideShapes Go.ChangeAt Go.RowKit Go.ChangeShapes

theorem trodAll_stays {H : Type} {enc : TypeId × Value → H} {P : Program} (hl : laidOutB P = true) {W W' : World} (hb : Below W.heap.size W W') : ∀ (ts : List TypeId) (vs : List Value) (ds : List (DataW H)) (ps : List MemPlace),
  DataW.TrodAll enc P W 0 (fun _ => true) true ts vs ds ps → (∀ p ∈ ps, p.block < W.heap.size) → (ts.all fun t => P.readableRec t && decide (t < P.types.size)) = true →
  DataW.TrodAll enc P W' 0 (fun b => decide (b < W.heap.size)) true ts vs ds ps
 | [], vs, ds, ps, h, _, _ => by
  obtain ⟨rfl, rfl, rfl⟩ := trodAll_nil h;exact trodAll_mk0
 | t :: ts, vs, ds, ps, h, hlt, hts => by
  obtain ⟨v, vs', d, ds', p, q, rfl, rfl, rfl, hd, hrest⟩ := trodAll_cons h;simp only [List.all_cons, bae, decide_eq_true_eq] at hts;exact trodAll_cons_mk (Below.trod hl hts.1.1 hts.1.2 hd hb fun x hx => hlt x (by simp [hx])) (trodAll_stays hl hb ts vs' ds' q hrest (fun x hx => hlt x (by simp [hx])) (by simpa using hts.2))

end Go.Ev
