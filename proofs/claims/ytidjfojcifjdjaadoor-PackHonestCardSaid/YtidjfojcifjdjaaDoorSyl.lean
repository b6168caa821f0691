/- A law's frame: from a call that returns true and turns nothing that was there to what a law's statement asks; what is known of a slice of bytes that came in. No condition. -/
import Derived.Test.YtidjfojcifjdjaaDoorSyk
import Derived.ProofKit
import Derived.Carry
import Derived.OpenShut
namespace Go.Ev
open Go.ChangeShapes Go.WideShapes Go.ChangeAt Go.RowKit Go.ChangeShapes

theorem trodAll_stays {H : Type} {enc : TypeId × Value → H} {P : Program} (hl : laidOutB P = true) {W W' : World} (hb : Below W.heap.size W W') : ∀ (ts : List TypeId) (vs : List Value) (ds : List (DataW H)) (ps : List MemPlace),
  DataW.TrodAll enc P W 0 (fun _ => true) true ts vs ds ps → (∀ p ∈ ps, p.block < W.heap.size) → (ts.all fun t => P.readableRec t && decide (t < P.types.size)) = true →
  DataW.TrodAll enc P W' 0 (fun b => decide (b < W.heap.size)) true ts vs ds ps
 | [], vs, ds, ps, h, _, _ => by
  obtain ⟨rfl, rfl, rfl⟩ := trodAll_nil h;exact trodAll_mk0
 | t :: ts, vs, ds, ps, h, hlt, hts => by
  obtain ⟨v, vs', d, ds', p, q, rfl, rfl, rfl, hd, hrest⟩ := trodAll_cons h;simp only [List.all_cons, bae, decide_eq_true_eq] at hts;exact trodAll_cons_mk (Below.trod hl hts.1.1 hts.1.2 hd hb fun x hx => hlt x (by simp [hx])) (trodAll_stays hl hb ts vs' ds' q hrest (fun x hx => hlt x (by simp [hx])) (by simpa using hts.2))

theorem run_len_of {P : Program} {o : Oper} {a : Act} {args : Array Operand} {tys : Array TypeId} (hop : o.op = .call { callee := .builtin .len, args := args, argTypes := tys }) {t el : TypeId} (ht : tys.toList = [t]) (hu : P.underlying t = some (.slice el))
  {b : Option Addr} {n c : Nat} (ha : args.toList.map a.eval = [.slice b n c]) (w : World) : (execOp a.eval o).run P w = .ok (.value (.int .i64 n)) w := by
 obtain rfl := toList_one ht;have ha' : args.map a.eval = #[.slice b n c] := by
  apply Array.ext';simpa using ha
 simp [execOp, hop, resolve, invoke, builtin, Builtin.len_, ha', run_underlying hu, goInt]

theorem run_gtr_of {P : Program} {o : Oper} {a : Act} {t yt : TypeId} {x y : Operand} (hop : o.op = .binOp .gtr t x y yt) {m k : Int} (hx : a.eval x = .int .i64 m) (hy : a.eval y = .int .i64 k) (w : World) :
  (execOp a.eval o).run P w = .ok (.value (.bool (decide (k < m)))) w := by
 simp [execOp, hop, hx, hy, eqGuard, binOp, Op.intCmp]

def BytesIn (W : World) (v : Value) (t : ByteArray) : Prop :=
 ∃ b n c, v = .slice b n c ∧ ∀ (P : Program) (w : World), Below W.heap.size W w → (Conv.bytesToString v).run P w = .ok (.string t) w

theorem bytesIn_of_trod {H : Type} {enc : TypeId × Value → H} {P : Program} {W : World} {t el : TypeId} (ht : P.underlying t = some (.slice el)) (he : P.underlying el = some (.int .u8)) (hc : P.cellsOf el = 1) {v : Value} {d : DataW H} {ps : List MemPlace} {base : Nat}
  (hv : Value.okWide P W .any base t v) (h : DataW.Trod enc P W 0 (fun _ => true) true t v d ps) : ∃ s, BytesIn W v s := by
 obtain ⟨a0, len, cap, rfl⟩ := okWide_slice ht hv;obtain ⟨fuel, hf⟩ := h;rcases open_ints ht he hc hf with ⟨hcs, hx⟩ | ⟨a, len', cap', zs, hcs, _, hl, hm, hz, hx, hcell, hwz⟩
 ·simp only [Value.cells, List.cons.injEq, Value.slice.injEq, and_true] at hcs;obtain ⟨rfl, rfl, rfl⟩ := hcs;exact ⟨ByteArray.empty, none, 0, 0, rfl, fun P w _ => by simp [Conv.bytesToString]⟩
 ·simp only [Value.cells, List.cons.injEq, Value.slice.injEq, and_true] at hcs;obtain ⟨rfl, rfl, rfl⟩ := hcs;simp only [if_true] at hz;refine ⟨strOf (zs.take len), some a, len, cap, rfl, fun P' w hb => ?_⟩;refine run_bytesToString w a len cap (zs.take len) ?_;have hlen : ((zs.take len).map (Value.int .u8)).length = len := by simp; omega
  have := run_loadCells_list (P := P') w a ((zs.take len).map (Value.int .u8)) fun j u hj => by
   have hjl : j < (zs.take len).length := by
    have := (List.getElem?_eq_some_iff.1 hj).1;simpa using this
   have hj2 : j < zs.length := by simp at hjl; omega
   have hcw := hcell j hj2;have hbl := World.block_lt_of_cell? W _ hcw;rw [hb.cell hbl, hcw];have hjlen : j < len := by simp at hjl; omega
   rw [← hj];simp [hjlen, hj2]
  rw [hlen] at this;exact this

theorem run_str_of {P : Program} {o : Oper} {a : Act} {src dst el : TypeId} {x : Operand} (hop : o.op = .convert src dst x) (hs : P.underlying src = some (.slice el)) (he : P.underlying el = some (.int .u8)) (hd : P.underlying dst = some .string)
  {W : World} {v : Value} {t : ByteArray} (hb : BytesIn W v t) (hx : a.eval x = v) {w : World} (hw : Below W.heap.size W w) : (execOp a.eval o).run P w = .ok (.value (.string t)) w := by
 obtain ⟨b, n, c, rfl, hr⟩ := hb;have h1 := run_convert_bytes_string (P := P) w src dst el b n c hs he hd;rw [hr P w hw] at h1;simp only [execOp, hop, hx, Sem.run_bind, h1, Result.andThen_ok, Sem.run_pure]

end Go.Ev
