/- Acting operations on rows that are not known: made, stored into, appended to, copied. Every acting operation. No condition. -/
import Derived.Test.YtidpndnehbhloaaDoorSyh
namespace Go.Ev
open Go.RowKit

def srcE (m : Mem) (k : IntKind) (x : AV) : Option (E × E) :=
 match x with
 | .sslice id off len _ _ => match m.seq id with
  | some q => match decide (q.k = k) && leB m.ask (off.add len) q.n with
   | true => some (len, mkCut q.x q.n off (off.add len))
   | false => none
  | none => none
 | .slice id off len _ _ => match readL m id off len with
  | some l => match seqOfL k l with
   | some x => some (.int len, x)
   | none => none
  | none => none
 | .nilslice => some (.int 0, .lits [])
 | .hollow => some (.int 0, .lits [])
 | .empty => some (.int 0, .lits [])
 | .str s => match decide (k = .u8) with
  | true => some (.int s.size, .lits (strE s))
  | false => none
 | .sstr n s => match decide (k = .u8) with
  | true => some (n, s)
  | false => none
 | .pv (.int l) s => match m.pl && decide (k = l) with
  | true => some (.un .len s, s)
  | false => none
 | _ => none

theorem srcE_run {P : Program} {e : Env} {m : Mem} {M : World → Prop} (R : Reads P e m M) {k : IntKind} {x : AV} {n s : E} (h : srcE m k x = some (n, s)) {y : Value} (hx : VR e x y) :
  n.i e.opq = (s.s e.opq).length ∧ (∀ c ∈ s.s e.opq, inK k c) ∧ (∀ w, (Builtin.lenOf y).run P w = .ok (n.n e.opq) w) ∧
   ∀ cnt, cnt ≤ (s.s e.opq).length → ∀ w, M w → (Builtin.firstCells 1 cnt y).run P w = .ok (((s.s e.opq).take cnt).map (Value.int k)).toArray w := by
 unfold srcE at h;split at h
 ·rename_i id off len cap opn;split at h
  ·rename_i q hq;split at h
   ·rename_i hc;simp only [bae, decide_eq_true_eq] at hc;obtain ⟨hk, hl⟩ := hc;have hl := leB_val R.ask hl;rw [E.add_i] at hl;simp only [sme, pme] at h;obtain ⟨rfl, rfl⟩ := h;obtain ⟨b, hb, hn, hg, hcell⟩ := R.seq id q hq;rw [hk] at hg hcell;simp only [VR] at hx;obtain ⟨b', p, hb', rfl, hp, g1, g2, g3⟩ := hx;obtain rfl : b' = b := by rw [hb] at hb'; exact (Option.some.inj hb').symm
    have n1 := n_of_i g1;have n2 := n_of_i g2;have n3 := n_of_i (Ω := e.opq) (x := cap) (by omega);have hcut : (mkCut q.x q.n off (off.add len)).s e.opq = ((q.x.s e.opq).drop (off.n e.opq)).take (len.n e.opq) := by
     rw [mkCut_s hn, add_n g2 g1, List.drop_take]; congr 1; omega
    rw [hcut];refine ⟨by simp; omega, fun c hc => hg c (List.mem_of_mem_drop (List.mem_of_mem_take hc)), fun w => by simp [Builtin.lenOf], fun cnt hcnt w hw => ?_⟩;have hcl : cnt ≤ len.n e.opq := by simp at hcnt; omega
    simp only [Builtin.firstCells, Nat.mul_one];by_cases h0 : cnt = 0
    ·subst h0; simp [loadCells, loadCellsFrom]
    ·have hp := hp (by omega);subst hp;refine run_loadCells_at (P := P) w b' (e.base id + off.n e.opq) cnt _ (by simp at hcnt ⊢; omega) fun j y hj => ?_
     simp only [List.getElem?_map, Option.map_eq_some_iff] at hj;obtain ⟨c, hc1, rfl⟩ := hj;have hjl : j < cnt := by
      rw [List.getElem?_take] at hc1;split at hc1
      ·assumption
      ·cases hc1
     rw [List.getElem?_take, if_pos hjl, List.getElem?_take, if_pos (by omega), List.getElem?_drop] at hc1;rw [Nat.add_assoc];exact hcell w hw _ c hc1
   ·cases h
  ·cases h
 ·rename_i id off len cap opn;split at h
  ·rename_i l hl;split at h
   ·rename_i x' hx';simp only [sme, pme] at h;obtain ⟨rfl, rfl⟩ := h;simp only [VR] at hx;obtain ⟨b, hb, rfl⟩ := hx;obtain ⟨xs, h1, h2, h3⟩ := readL_cells R hb _ _ _ hl;obtain ⟨rfl, hg⟩ := seqOfL_val hx' h1;have hlen : (x'.s e.opq).length = len := by simpa using h2
    refine ⟨by rw [hlen]; rfl, hg, fun w => by simp [Builtin.lenOf]; rfl, fun cnt hcnt w hw => ?_⟩;simp only [Builtin.firstCells, Nat.mul_one];refine run_loadCells_at (P := P) w b off cnt _ (by simp; omega) fun j y hj => ?_
    rw [List.map_take, List.getElem?_take] at hj;split at hj
    ·exact h3 w hw j y hj
    ·cases hj
   ·cases h
  ·cases h
 ·simp only [sme, pme] at h;obtain ⟨rfl, rfl⟩ := h;simp only [VR] at hx;subst hx;have e1 : (E.lits []).s e.opq = [] := by simp [E.s, E.den]
  rw [e1];exact ⟨rfl, by simp, fun w => by simp [Builtin.lenOf]; rfl, fun cnt hcnt w _ => by simp [Builtin.firstCells]⟩
 ·simp only [sme, pme] at h;obtain ⟨rfl, rfl⟩ := h;simp only [VR] at hx;obtain ⟨ad, c, rfl⟩ := hx;have e1 : (E.lits []).s e.opq = [] := by simp [E.s, E.den]
  rw [e1];refine ⟨rfl, by simp, fun w => by simp [Builtin.lenOf]; rfl, fun cnt hcnt w _ => ?_⟩;have : cnt = 0 := by simpa using hcnt
  subst this;simp [Builtin.firstCells, loadCells, loadCellsFrom]
 ·simp only [sme, pme] at h;obtain ⟨rfl, rfl⟩ := h;simp only [VR] at hx;have e1 : (E.lits []).s e.opq = [] := by simp [E.s, E.den]
  rw [e1];rcases hx with rfl | ⟨ad, c, rfl⟩
  ·exact ⟨rfl, by simp, fun w => by simp [Builtin.lenOf]; rfl, fun cnt hcnt w _ => by simp [Builtin.firstCells]⟩
  ·refine ⟨rfl, by simp, fun w => by simp [Builtin.lenOf]; rfl, fun cnt hcnt w _ => ?_⟩;have : cnt = 0 := by simpa using hcnt
   subst this;simp [Builtin.firstCells, loadCells, loadCellsFrom]
 ·rename_i st;split at h
  ·rename_i hk;obtain rfl := of_decide_eq_true hk;simp only [sme, pme] at h;obtain ⟨rfl, rfl⟩ := h;simp only [VR] at hx;subst hx;have e1 : (E.lits (strE st)).s e.opq = strE st := by simp [E.s, E.den]
   rw [e1];refine ⟨by simp [E.i, E.den, strE], strE_in st, fun w => by simp [Builtin.lenOf]; rfl, fun cnt hcnt w _ => ?_⟩;simp only [Builtin.firstCells, Sem.run_pure];congr 1;apply Array.ext';simp [strE, List.map_take, Function.comp_def]
  ·cases h
 ·rename_i n' s';split at h
  ·rename_i hk;obtain rfl := of_decide_eq_true hk;simp only [sme, pme] at h;obtain ⟨rfl, rfl⟩ := h;simp only [VR] at hx;obtain ⟨rfl, hn, hg⟩ := hx;refine ⟨hn, hg, fun w => ?_, fun cnt hcnt w _ => ?_⟩
   ·simp only [Builtin.lenOf, Sem.run_pure, strOf_size];congr 1;have := n_of_i (Ω := e.opq) (x := n') (by omega);omega
   ·simp only [Builtin.firstCells, Sem.run_pure];congr 1;apply Array.ext';rw [strOf_extract];simp only [List.drop_zero, Array.toList_map, strOf_data, List.map_map];exact List.map_congr_left fun c hc => by
     simp only [Function.comp];rw [u8_toNat (hg c (List.mem_of_mem_take hc))]
  ·cases h
 ·rename_i l' s';split at h
  ·rename_i hc;simp only [bae, decide_eq_true_eq] at hc;obtain ⟨hpl, rfl⟩ := hc;simp only [sme, pme] at h;obtain ⟨rfl, rfl⟩ := h;simp only [VR] at hx;obtain ⟨hg, hx⟩ := pv_ints hx;have hlen : (s'.den e.opq).toList.length = (s'.s e.opq).length := by simp [E.s, D.ints]
   have hni : (E.un .len s').i e.opq = ((s'.den e.opq).toList.length : Int) := rfl;have hnn : (E.un .len s').n e.opq = (s'.den e.opq).toList.length := by simp [E.n, E.den, UO.den, D.nat]
   refine ⟨by rw [hni, hlen], hg, fun w => ?_, fun cnt hcnt w hw => ?_⟩
   ·rw [hnn];rcases hx with ⟨h0, rfl | ⟨ad, cp, rfl⟩⟩ | ⟨b, o, cp, arr, rfl, _⟩ <;> simp [Builtin.lenOf, *]
   ·rcases hx with ⟨h0, rfl | ⟨ad, cp, rfl⟩⟩ | ⟨b, o, cp, arr, rfl, hle, hb, hel⟩
    ·have : cnt = 0 := by rw [← hlen, h0] at hcnt; simpa using hcnt
     subst this;simp [Builtin.firstCells]
    ·have : cnt = 0 := by rw [← hlen, h0] at hcnt; simpa using hcnt
     subst this;simp [Builtin.firstCells, loadCells, loadCellsFrom]
    ·obtain ⟨el', fz, hrow⟩ := R.pool hpl w hw _ _ hb;simp only [Builtin.firstCells, Nat.mul_one];refine run_loadCells_at (P := P) w b o cnt _ (by simp; omega) fun j y hj => ?_
     simp only [List.getElem?_map, Option.map_eq_some_iff] at hj;obtain ⟨c, hc1, rfl⟩ := hj;rw [List.getElem?_take] at hc1;split at hc1
     ·rw [cell?_row hrow];exact hel j c hc1
     ·cases hc1
  ·cases h
 ·cases h

def mkUpd (s i v : E) : E := match s with
 | .tr .upd s' j v' => match j.beq i with
  | true => .tr .upd s' i v
  | false => .tr .upd (.tr .upd s' j v') i v
 | s => .tr .upd s i v
theorem mkUpd_s (Ω : Om) (s i v : E) : (mkUpd s i v).s Ω = (s.s Ω).set (i.n Ω) (v.i Ω) := by
 have plain : ∀ s : E, (E.tr .upd s i v).s Ω = (s.s Ω).set (i.n Ω) (v.i Ω) := by
  intro s;simp only [E.s, E.den, TO.den, ints_set]; rfl
 unfold mkUpd;split
 ·rename_i s' j v';split
  ·rename_i hb;have := E.beq_eq hb;subst this;rw [plain];have : (E.tr .upd s' j v').s Ω = (s'.s Ω).set (j.n Ω) (v'.i Ω) := by simp only [E.s, E.den, TO.den, ints_set]; rfl
   rw [this, List.set_set]
  ·exact plain _
 ·exact plain _

def mkSplice (s n off p pn : E) : E := match off, pn.beq n with
 | .int 0, true => p
 | off, _ => .tr .splice s off p
theorem mkSplice_s {Ω : Om} {s n off p pn : E} (hn : n.i Ω = (s.s Ω).length) (hp : pn.i Ω = (p.s Ω).length) :
  (mkSplice s n off p pn).s Ω = (s.s Ω).take (off.n Ω) ++ p.s Ω ++ (s.s Ω).drop (off.n Ω + (p.s Ω).length) := by
 unfold mkSplice;split
 ·rename_i h;have := E.beq_eq h;subst this;have e1 : (E.int 0).n Ω = 0 := rfl;rw [e1, List.drop_eq_nil_of_le (by omega)]; simp
 ·have e1 : (p.den Ω).toList.length = (p.den Ω).ints.length := by simp [D.ints]
  simp only [E.s, E.den, TO.den];rw [e1];simp only [D.ints, D.toList_list, List.map_append, List.map_take, List.map_drop];rfl

theorem Rel.seqStores {P : Program} {Ω : Om} {w0 : Base} {e : Env} {s : St} {w : World} (h : Rel Ω w0 e s w) {id k : Nat} {q : SB} (hb : s.heap.get id = some (.seq q)) (hk : e.loc id = some k) (hs : q.str = false) {o : Nat} {l : List Int} {x' : E}
  (ho : o + l.length ≤ (q.x.s e.opq).length) (hl : ∀ c ∈ l, inK q.k c) (hx : x'.s e.opq = (q.x.s e.opq).take o ++ l ++ (q.x.s e.opq).drop (o + l.length)) :
  ∃ w', (storeCells ⟨k, o, none⟩ (l.map (Value.int q.k))).run P w = .ok () w' ∧ Rel Ω w0 e (s.setO id (.seq { q with x := x' })) w' := by
 obtain ⟨k', hl', hm, h0, arr, fz, hcell, hR⟩ := h.obj id _ hb;obtain rfl : k' = k := by rw [hk] at hl'; exact (Option.some.inj hl').symm
 have hfz := hR.plain hs;subst hfz;obtain ⟨tail, ht, htl, hty⟩ := hR.cells;have hsz : arr.size = (q.x.s e.opq).length + tail.length := by rw [← Array.length_toList, ht]; simp
 obtain ⟨cur', w', hr, hg', hoth, e1, e2, e3, e4, hcl⟩ := run_storeCells_row (P := P) k' o q.elem (l.map (Value.int q.k)) 0 arr w hcell (by simp; omega) (fun v hv => by
  simp only [List.mem_map] at hv;obtain ⟨c, _, rfl⟩ := hv; rfl)
 refine ⟨w', hr, ?_⟩;rw [St.setO_eq];have hlen : (x'.s e.opq).length = (q.x.s e.opq).length := by rw [hx]; simp; omega
 have hnew : cur'.toList = (x'.s e.opq).map (Value.int q.k) ++ tail := by
  rw [hcl, ht, hx];simp only [Nat.add_zero, List.length_map, List.map_append, List.map_take, List.map_drop];rw [List.take_append_of_le_length (by simp; omega), List.drop_append_of_le_length (by simp; omega)]
  simp
 refine h.setO hb hk hm (h.apart _ _ _ hb rfl hk) ⟨hm, h0, cur', (0, 0), hg', ⟨by rw [hlen]; exact hR.n, fun c hc => ?_, ⟨tail, hnew, htl, hty.1, fun ho => by have h5 := hty.2 ho; have h6 := congrArg List.length hnew; have h7 := congrArg List.length ht; simp at h6 h7; omega⟩, fun off hoff => by omega, fun _ => rfl, fun x => by rw [hs] at x; cases x⟩⟩ hoth e1 e2 e3 (by rw [e4]; exact Nat.le_refl _);rw [hx] at hc;rcases List.mem_append.1 hc with hc | hc
 ·rcases List.mem_append.1 hc with hc | hc
  ·exact hR.rng c (List.mem_of_mem_take hc)
  ·exact hl c hc
 ·exact hR.rng c (List.mem_of_mem_drop hc)

def St.seqW (s : St) (id : Nat) : Option SB :=
 match s.heap.get id with
 | some (.seq q) => some q
 | _ => none
theorem St.seqW_some {s : St} {id : Nat} {q : SB} (h : s.seqW id = some q) : s.heap.get id = some (.seq q) := by
 unfold St.seqW at h;split at h
 ·rename_i c hc; simp only [sme] at h; subst h; exact hc
 ·cases h

def storeS (P : Program) (A : Ask) (s : St) (ty : TypeId) (a v : AV) : Option St :=
 match P.info? ty, toE v with
 | some inf, some (k, y) => match Nat.beq inf.size 1 with
  | true => match (match a with
    | .sptr id x => some (id, x)
    | .ptr id off => some (id, .int off)
    | _ => none) with
   | some (id, x) => match s.seqW id with
    | some q => match decide (q.k = k) && !q.str && ge0 A x && ltB A x q.n with
     | true => some (s.setO id (.seq { q with x := mkUpd q.x x y }))
     | false => none
    | none => none
   | none => none
  | false => none
 | _, _ => none

theorem set_eq_splice {l : List Int} {j : Nat} {v : Int} (h : j < l.length) : l.set j v = l.take j ++ [v] ++ l.drop (j + 1) := by
 rw [List.set_eq_take_append_cons_drop, if_pos h]; simp

theorem storeS_run {P : Program} {Ω : Om} {w0 : Base} {A : Ask} (hA : AskOK Ω A) {e : Env} {s s' : St} {w : World} {ty : TypeId} {a v : AV} (k : storeS P A s ty a v = some s') (h : Rel Ω w0 e s w) {x y : Value} (hx : VR e a x) (hy : VR e v y) :
  ∃ w', Rel Ω w0 e s' w' ∧ (Instr.storeAt ty x y).run P w = .ok () w' := by
 have hA : AskOK e.opq A := by rw [h.opq]; exact hA
 unfold storeS at k;split at k
 ·rename_i inf kk yE hinf hyE;obtain ⟨rfl, hyr⟩ := toE_val hyE hy;split at k
  ·rename_i h1;have h1 := beq_t h1;split at k
   ·rename_i id xE ha;split at k
    ·rename_i q hq;split at k
     ·rename_i hc;simp only [bae, decide_eq_true_eq, Bool.not_eq_true'] at hc;obtain ⟨⟨⟨c1, c2⟩, c3⟩, c4⟩ := hc;have c3 := ge0_val hA c3;have c4 := ltB_val hA c4;simp only [sme] at k;subst k c1;have hb := St.seqW_some hq;obtain ⟨k', hl', hm, h0, arr, fz, hcell, hR⟩ := h.obj id _ hb;have hxn := n_of_i c3;have hlt : xE.n e.opq < (q.x.s e.opq).length := by have := hR.n; omega
      have hptr : x = .pointer (some ⟨k', xE.n e.opq, none⟩) := by
       split at ha
       ·rename_i i p;simp only [sme, pme] at ha;obtain ⟨rfl, rfl⟩ := ha;simp only [VR] at hx;obtain ⟨b, hb2, rfl⟩ := hx;rw [hl'] at hb2; cases hb2;rw [h0, Nat.zero_add]
       ·rename_i i p;simp only [sme, pme] at ha;obtain ⟨rfl, rfl⟩ := ha;simp only [VR] at hx;obtain ⟨b, hb2, rfl⟩ := hx;rw [hl'] at hb2; cases hb2;rfl
       ·cases ha
      subst hptr;obtain ⟨w', hr, hrel⟩ := h.seqStores (P := P) hb hl' c2 (o := xE.n e.opq) (l := [yE.i e.opq]) (x' := mkUpd q.x xE yE) (by simp; omega) (by simpa using hyr)
       (by rw [mkUpd_s]; exact set_eq_splice hlt)
      refine ⟨w', hrel, ?_⟩;simp only [List.map_cons, List.map_nil] at hr;simp [Instr.storeAt, Instr.sureAddr, storeVar, sizeOf, typeInfo, hinf, h1, Value.cells, hr]
     ·cases k
    ·cases k
   ·cases k
  ·cases k
 ·cases k

def selCells (k : IntKind) (x : E) : Nat → Nat → List AV
 | 0, _ => []
 | n + 1, j => .sint k (.bi .sel x (.int j)) :: selCells k x n (j + 1)
theorem selCells_at {k : IntKind} {x : E} : ∀ (n i j : Nat), (selCells k x n i)[j]? = if j < n then some (.sint k (.bi .sel x (.int (i + j : Nat)))) else none
 | 0, i, j => by simp [selCells]
 | n + 1, i, j => by
  cases j with
  | zero => simp [selCells]
  | succ j =>
   simp only [selCells, List.getElem?_cons_succ, selCells_at n (i + 1) j];simp only [Nat.add_lt_add_iff_right, show i + 1 + j = i + (j + 1) by omega]
theorem selCells_len {k : IntKind} {x : E} : ∀ (n i : Nat), (selCells k x n i).length = n
 | 0, i => rfl
 | n + 1, i => by simp [selCells, selCells_len n]

theorem Rel.reRow {Ω : Om} {w0 : Base} {e : Env} {s : St} {w : World} (h : Rel Ω w0 e s w) {id : Nat} {b b' : AB} (hb : s.heap.get id = some (.cells b)) (h1 : b'.elem = b.elem) (h2 : b'.size = b.size) (h3 : b'.esz = b.esz) (h4 : b'.opn = b.opn) (h5 : b'.str = b.str) (h6 : b'.tk = b.tk)
  (hc : ∀ i v, b'.at i = some v → ∃ u, b.at i = some u ∧ ∀ a, VR e u a → VR e v a) : Rel Ω w0 e (s.setRow id b') w := by
 obtain ⟨k, hl, hm, h0, arr, fz, hr, hR⟩ := h.obj id _ hb;rw [St.setRow, St.setO_eq];refine h.setO hb hl hm (h.apart _ _ _ hb rfl hl) ⟨hm, h0, arr, fz, by rw [h1]; exact hr, ⟨by rw [h2, h3, h4]; exact hR.size, fun i v hv => ?_, hR.frozen, by rw [h5]; exact hR.plain, by rw [h5]; exact hR.mark, by rw [h2, h4, h6]; exact hR.tail⟩⟩ (fun _ _ => rfl) rfl rfl rfl (Nat.le_refl _);obtain ⟨u, g1, g2⟩ := hc i v hv;obtain ⟨x, g3, g4⟩ := hR.cell i u g1;exact ⟨x, g3, g2 x g4⟩

def storeC (P : Program) (A : Ask) (s : St) (ty : TypeId) (a v : AV) : Option St :=
 match a, P.info? ty, toE v with
 | .sptr id (.bi .add i (.int off)), some inf, some (k, y) => match Nat.beq inf.size 1 && decide (0 ≤ off) && ge0 A i, s.row id with
  | true, some b =>
   let l := runE b.at k 4096 off.toNat
   match !b.str && ltB A i (.int l.length) && lenB A (segE l) l.length with
   | true => some (s.setRow id { b with cells := b.cells.putL off.toNat (selCells k (mkUpd (segE l) i y) l.length 0) })
   | false => none
  | _, _ => none
 | _, _, _ => none

theorem storeC_run {P : Program} {Ω : Om} {w0 : Base} {A : Ask} (hA : AskOK Ω A) {e : Env} {s s' : St} {w : World} {ty : TypeId} {a v : AV} (k : storeC P A s ty a v = some s') (h : Rel Ω w0 e s w) {x y : Value} (hx : VR e a x) (hy : VR e v y) :
  ∃ w', Rel Ω w0 e s' w' ∧ (Instr.storeAt ty x y).run P w = .ok () w' := by
 have hA : AskOK e.opq A := by rw [h.opq]; exact hA
 unfold storeC at k;split at k
 ·rename_i id i off inf kk yE hinf hyE;obtain ⟨rfl, hyr⟩ := toE_val hyE hy;split at k
  ·rename_i b hc hrow;simp only [bae, decide_eq_true_eq] at hc;obtain ⟨⟨c1, c2⟩, c3⟩ := hc;have c1 := beq_t c1;have c3 := ge0_val hA c3;have hb := St.row_some hrow;simp only at k;split at k
   ·rename_i hd;simp only [bae, Bool.not_eq_true'] at hd;obtain ⟨⟨d1, d2⟩, d3⟩ := hd;have d2 := ltB_val hA d2;have d2 : i.i e.opq < ((runE b.at kk 4096 off.toNat).length : Int) := d2;have d3 := lenB_ok hA _ _ d3;simp only [sme] at k;subst k;generalize hL : runE b.at kk 4096 off.toNat = L at d2 d3 ⊢;have hat : ∀ j (g : E), L[j]? = some g → ∃ u, b.at (off.toNat + j) = some u ∧ toE u = some (kk, g) := fun j g hg => runE_at _ _ _ _ (by rw [hL]; exact hg)
    have hin := n_of_i c3;have hlt : i.n e.opq < L.length := by omega
    simp only [VR] at hx;obtain ⟨kb, hkb, rfl⟩ := hx;have h0 := h.base0 (id := id) (b := b) (by simp only [St.rowR, hb]);have hxn : (E.bi .add i (.int off)).n e.opq = off.toNat + i.n e.opq := by
     simp only [E.n, E.den, BO.den, D.nat, D.toInt_int];simp only [E.i] at c3;omega
    rw [h0, Nat.zero_add, hxn];obtain ⟨u0, hu0, _⟩ := hat (i.n e.opq) L[i.n e.opq] (by simp [hlt]);have hsz : ∀ q u, b.at q = some u → q < b.size := by
     intro q u hu;unfold AB.at at hu;split at hu
     ·rename_i hh; simpa [Nat.blt_eq] using hh
     ·cases hu
    have hlim := hsz _ _ hu0;obtain ⟨hrun, hrel⟩ := h.store (P := P) hb hkb (off := off.toNat + i.n e.opq) hlim (v := .sint kk yE) (x := .int kk (yE.i e.opq)) (by simp only [VR]; exact ⟨trivial, hyr⟩) rfl;refine ⟨_, ?_, by simp [Instr.storeAt, Instr.sureAddr, storeVar, sizeOf, typeInfo, hinf, c1, Value.cells, storeCells, add_none, hrun]; rfl⟩;have key := hrel.reRow (id := id) (b := b.set (off.toNat + i.n e.opq) (.sint kk yE)) (b' := { b with cells := b.cells.putL off.toNat (selCells kk (mkUpd (segE L) i yE) L.length 0) }) (by simp [St.setRow, St.setO_eq, T.get_put]) rfl rfl rfl rfl rfl rfl fun q v hv => ?_
    ·exact key.congr rfl fun q => by simp only [St.setRow, St.setO_eq, T.get_put]; split <;> rfl
    ·have hq : q < b.size := by
      unfold AB.at at hv;split at hv
      ·rename_i hh; simpa [Nat.blt_eq] using hh
      ·cases hv
     rw [AB.at_set];have hv2 : ({ b with cells := b.cells.putL off.toNat (selCells kk (mkUpd (segE L) i yE) L.length 0) } : AB).at q = if off.toNat ≤ q ∧ q < off.toNat + L.length then some (.sint kk (.bi .sel (mkUpd (segE L) i yE) (.int (q - off.toNat : Nat)))) else b.at q := by
      unfold AB.at;simp only [show Nat.blt q b.size = true by simpa [Nat.blt_eq] using hq, T.get_putL, selCells_len, selCells_at, Nat.zero_add];by_cases hr : off.toNat ≤ q ∧ q < off.toNat + L.length
      ·simp only [if_pos hr, if_pos (show q - off.toNat < L.length by omega)]
      ·simp only [if_neg hr]
     rw [hv2] at hv;by_cases hr : off.toNat ≤ q ∧ q < off.toNat + L.length
     ·rw [if_pos hr] at hv;simp only [sme] at hv;subst hv;have hjn : (E.int ((q - off.toNat : Nat) : Int)).n e.opq = q - off.toNat := by simp [E.n, E.den, D.nat]
      have hset := mkUpd_s e.opq (segE L) i yE;by_cases hqi : q = off.toNat + i.n e.opq
      ·rw [if_pos ⟨hqi, hq⟩];refine ⟨_, rfl, fun a ha => ?_⟩;simp only [VR] at ha ⊢;have hi : (E.bi .sel (mkUpd (segE L) i yE) (.int ((q - off.toNat : Nat) : Int))).i e.opq = yE.i e.opq := sel_i _ _ _ (by
        rw [hjn, hset, show q - off.toNat = i.n e.opq by omega, List.getElem?_set_self (by omega)])
       rw [hi]; exact ha
      ·rw [if_neg (fun x => hqi x.1)];have hjl : q - off.toNat < L.length := by omega
       obtain ⟨u, g1, g2⟩ := hat (q - off.toNat) L[q - off.toNat] (by simp [hjl]);rw [show off.toNat + (q - off.toNat) = q by omega] at g1;refine ⟨u, g1, fun a ha => ?_⟩;obtain ⟨rfl, hr2⟩ := toE_val g2 ha;have hs := segE_sel e.opq (l := L) (i := .int ((q - off.toNat : Nat) : Int)) (x := L[q - off.toNat]) (by rw [hjn]; simp [hjl]) (by simp [E.i, E.den]);have hi : (E.bi .sel (mkUpd (segE L) i yE) (.int ((q - off.toNat : Nat) : Int))).i e.opq = (L[q - off.toNat]).i e.opq := by
        have hlen2 : q - off.toNat < ((segE L).s e.opq).length := by omega
        have hg : ((segE L).s e.opq)[(E.int ((q - off.toNat : Nat) : Int)).n e.opq]? = some ((segE L).s e.opq)[q - off.toNat] := by rw [hjn]; simp [hlen2]
        rw [← hs, sel_i _ _ _ hg];refine sel_i _ _ _ ?_;rw [hset, List.getElem?_set_ne (by rw [hjn]; omega)];exact hg
       simp only [VR];rw [hi]; exact ⟨rfl, hr2⟩
     ·rw [if_neg hr] at hv;rw [if_neg (fun x => hr ⟨by omega, by omega⟩)];exact ⟨v, hv, fun a ha => ha⟩
   ·cases k
  ·cases k
 ·cases k

def storeX (P : Program) (A : Ask) (s : St) (ty : TypeId) (a v : AV) : Option St := match storeS P A s ty a v with
 | some s' => some s'
 | none => storeC P A s ty a v
theorem storeX_run {P : Program} {Ω : Om} {w0 : Base} {A : Ask} (hA : AskOK Ω A) {e : Env} {s s' : St} {w : World} {ty : TypeId} {a v : AV} (k : storeX P A s ty a v = some s') (h : Rel Ω w0 e s w) {x y : Value} (hx : VR e a x) (hy : VR e v y) :
  ∃ w', Rel Ω w0 e s' w' ∧ (Instr.storeAt ty x y).run P w = .ok () w' := by
 unfold storeX at k;split at k
 ·rename_i s1 h1;simp only [sme] at k;subst k;exact storeS_run hA h1 h hx hy
 ·exact storeC_run hA k h hx hy

def makeS (P : Program) (A : Ask) (s : St) (ty : TypeId) (l c : AV) : Option (AV × St) :=
 match P.underlying ty, toE l, toE c with
 | some (.slice el), some (_, l), some (_, c) => match P.info? el with
  | some inf => match inf.zero with
   | some (.int k 0) => match Nat.beq inf.size 1 && ge0 A l && leB A l c && leB A ((E.int inf.bytes).mul c) (.int 281474976710656) && leB A c (.int 9223372036854775807) with
    | true => some (.sslice s.nid (.int 0) l c false, s.newO (.seq ⟨el, k, c, .bi .rep c (.int 0), false, false⟩))
    | false => none
   | _ => none
  | none => none
 | _, _, _ => none

theorem rep_s (Ω : Om) (c v : E) : (E.bi .rep c v).s Ω = List.replicate (c.n Ω) (v.i Ω) := by
 simp [E.s, E.den, BO.den, D.ints, E.n, E.i]


theorem makeS_run {P : Program} {Ω : Om} {w0 : Base} {A : Ask} (hA : AskOK Ω A) {e : Env} {s s' : St} {w : World} {ty : TypeId} {l c u : AV} (k : makeS P A s ty l c = some (u, s')) (h : Rel Ω w0 e s w) {x y : Value} (hx : VR e l x) (hy : VR e c y) :
  ∃ e' v w', e.le e' ∧ VR e' u v ∧ Rel Ω w0 e' s' w' ∧ (Instr.makeSlice ty x y).run P w = .ok v w' := by
 have hA : AskOK e.opq A := by rw [h.opq]; exact hA
 unfold makeS at k;split at k
 ·rename_i el kl l' kc c' hu hl hc;obtain ⟨rfl, _⟩ := toE_val hl hx;obtain ⟨rfl, _⟩ := toE_val hc hy;split at k
  ·rename_i inf hi;split at k
   ·rename_i kk hz;split at k
    ·rename_i hcc;simp only [bae] at hcc;obtain ⟨⟨⟨⟨c0, c1⟩, c2⟩, c3⟩, c4⟩ := hcc;have c0 := beq_t c0;have c1 := ge0_val hA c1;have c2 := leB_val hA c2;have c3 := leB_val hA c3;have c4 := leB_val hA c4;rw [E.mul_i] at c3;simp only [sme, pme] at k;obtain ⟨rfl, rfl⟩ := k;have hrun := run_make (P := P) (w := w) ty el inf (.int kk 0) hu hi hz kl kc (l'.i e.opq) (c'.i e.opq) c1 c2 c3 c4;have hcn := n_of_i (Ω := e.opq) (x := c') (by omega);have hcells : (madeCells (Value.int kk 0).cells ((c'.i e.opq).toNat * inf.size)).toList = (List.replicate (c'.n e.opq) 0).map (Value.int kk) := by
      have e1 : (c'.i e.opq).toNat = c'.n e.opq := rfl;rw [e1, c0, Nat.mul_one];apply List.ext_getElem?;intro j;simp only [madeCells, Value.cells];by_cases hj : j < c'.n e.opq
      ·simp [hj, Nat.mod_one]
      ·simp [hj]
     obtain ⟨hle, hrel⟩ := h.newO (w' := w.alloc (.cells (madeCells (Value.int kk 0).cells ((c'.i e.opq).toNat * inf.size)) el)) (.seq ⟨el, kk, c', .bi .rep c' (.int 0), false, false⟩) w.heap.size 0 0 (h.below.alloc _)
      ⟨Base.mine_new h.below, by simp [Env.newB], _, (0, 0), heap_alloc_new w _, ⟨by
        show c'.i e.opq = _;rw [show (E.bi .rep c' (.int 0)).s (e.newB s w.heap.size 0 0).opq = List.replicate (c'.n e.opq) 0 from rep_s e.opq c' (.int 0)];simp [hcn],
       by
        intro c hc;rw [show (E.bi .rep c' (.int 0)).s (e.newB s w.heap.size 0 0).opq = List.replicate (c'.n e.opq) 0 from rep_s e.opq c' (.int 0)] at hc;rw [(List.mem_replicate.1 hc).2]; exact zero_in _,
       ⟨[], by
        rw [show (E.bi .rep c' (.int 0)).s (e.newB s w.heap.size 0 0).opq = List.replicate (c'.n e.opq) 0 from rep_s e.opq c' (.int 0)];simp [hcells], by simp, typed_nil, fun h => by cases h⟩, fun off _ => by omega, fun _ => rfl, fun x => by cases x⟩⟩
      (fun id o hid j hj => have := h.loc_lt hid hj; ⟨by omega, heap_alloc_old w _ j this⟩) (fun j _ hj => heap_alloc_old w _ j (h.pool_lt hj)) (fun _ => h.pool_new (Nat.le_refl _))
     refine ⟨_, _, _, hle, ?_, hrel, hrun⟩;simp only [VR];refine ⟨w.heap.size, 0, by simp [Env.newB], ?_, ?_, ?_, ?_, ?_⟩
     ·simp [Env.newB, E.n, D.nat, E.i]
     ·intro _; simp [Env.newB, E.n, E.den, D.nat]
     ·exact c1
     ·exact Int.le_refl 0
     ·exact c2
    ·cases k
   ·cases k
  ·cases k
 ·cases k

def bytesS (P : Program) (A : Ask) (s : St) (src dst : TypeId) (x : AV) : Option (AV × St) :=
 match P.underlying src, P.underlying dst, x with
 | some .string, some (.slice el), .sstr n t => match P.underlying el with
  | some (.int .u8) => match leB A n (.int 2305843009213693952) with
   | true => some (.sslice s.nid (.int 0) n n true, s.newO (.seq ⟨el, .u8, n, t, true, true⟩))
   | false => none
  | _ => none
 | _, _, _ => none

theorem bytesS_run {P : Program} {Ω : Om} {w0 : Base} {A : Ask} (hA : AskOK Ω A) {e : Env} {s s' : St} {w : World} {src dst : TypeId} {x v : AV} (k : bytesS P A s src dst x = some (v, s')) (h : Rel Ω w0 e s w) {y : Value} (hx : VR e x y) :
  ∃ e' z w', e.le e' ∧ VR e' v z ∧ Rel Ω w0 e' s' w' ∧ (convert src dst y).run P w = .ok z w' := by
 have hA : AskOK e.opq A := by rw [h.opq]; exact hA
 unfold bytesS at k;split at k
 ·rename_i el n t hs hd;split at k
  ·rename_i he;split at k
   ·rename_i hb61;have hb61 : n.i e.opq ≤ 2305843009213693952 := leB_val hA hb61;simp only [sme, pme] at k;obtain ⟨rfl, rfl⟩ := k;simp only [VR] at hx;obtain ⟨rfl, hn, hg⟩ := hx;have hrun := Lib.run_convert_string_bytes (P := P) w src dst el (strOf (t.s e.opq)) hs hd he;have hsz : (strOf (t.s e.opq)).size = (t.s e.opq).length := strOf_size _;have hge := grownCap_ge w (strOf (t.s e.opq)).size 0 el;have hnn := n_of_i (Ω := e.opq) (x := n) (by omega);have hcl : (Lib.bytesCells w el (strOf (t.s e.opq))).toList = (t.s e.opq).map (Value.int .u8) ++ List.replicate (grownCap w (strOf (t.s e.opq)).size 0 el - (strOf (t.s e.opq)).size) (.int .u8 0) := by
     simp only [Lib.bytesCells];simp only [Array.toList_append, Array.toList_map, strOf_data, List.map_map, Array.toList_replicate];congr 1;exact List.map_congr_left fun c hc => by
      simp only [Function.comp];rw [u8_toNat (hg c hc)]
    obtain ⟨hle, hrel⟩ := h.newO (w' := Lib.bytesWorld w el (strOf (t.s e.opq))) (.seq ⟨el, .u8, n, t, true, true⟩) w.heap.size (grownCap w (strOf (t.s e.opq)).size 0 el - (strOf (t.s e.opq)).size) 0
     (h.below_later (bytesWorld_below w el _)).below
     ⟨Base.mine_new h.below, by simp [Env.newB], _, _, Lib.bytesWorld_at_new w el _, ⟨hn, hg, ⟨_, hcl, by simp [Env.newB], fun v hv => ⟨0, List.eq_of_mem_replicate hv, zero_in _⟩, fun _ => by
      have h5 := grownCap_le_maxLen w (strOf (t.s e.opq)).size 0 el (by simp only [maxLen]; omega);simp only [maxLen] at h5;have h6 := congrArg List.length hcl;simp at h6;omega⟩, fun off hoff => by omega, (fun x => by cases x), fun _ => rfl⟩⟩
     (fun id o hid j hj => have := h.loc_lt hid hj; ⟨by omega, Lib.bytesWorld_at_old w el _ j this⟩) (fun j _ hj => Lib.bytesWorld_at_old w el _ j (h.pool_lt hj)) (fun _ => h.pool_new (Nat.le_refl _))
    refine ⟨_, _, _, hle, ?_, hrel, hrun⟩;simp only [VR];refine ⟨w.heap.size, 0, by simp [Env.newB], ?_, ?_, ?_, ?_, ?_⟩
    ·simp only [Env.newB, if_true];have : n.n e.opq = (strOf (t.s e.opq)).size := by omega
     rw [this];congr 1;omega
    ·intro _; simp [Env.newB, E.n, E.den, D.nat]
    ·show 0 ≤ n.i e.opq; omega
    ·exact Int.le_refl 0
    ·exact Int.le_refl _
   ·cases k
  ·cases k
 ·cases k

theorem srcE_cells {P : Program} {e : Env} {m : Mem} {M : World → Prop} (R : Reads P e m M) {k : IntKind} {x : AV} {n s : E} (h : srcE m k x = some (n, s)) {b p ln cp : Nat} (hx : VR e x (.slice (some ⟨b, p, none⟩) ln cp)) :
  ∀ w, M w → ∀ j c, (s.s e.opq)[j]? = some c → w.cell? ⟨b, p + j, none⟩ = some (.int k c) := by
 unfold srcE at h;split at h
 ·rename_i id off len cap opn;split at h
  ·rename_i q hq;split at h
   ·rename_i hc;simp only [bae, decide_eq_true_eq] at hc;obtain ⟨hk, hl⟩ := hc;have hl := leB_val R.ask hl;rw [E.add_i] at hl;simp only [sme, pme] at h;obtain ⟨rfl, rfl⟩ := h;obtain ⟨b0, hb, hn, hg, hcell⟩ := R.seq id q hq;rw [hk] at hg hcell;simp only [VR] at hx;obtain ⟨b', p', hb', he, hp, g1, g2, g3⟩ := hx;simp only [Value.slice.injEq, sme, Addr.mk.injEq, and_true] at he;obtain ⟨⟨rfl, rfl⟩, rfl, rfl⟩ := he;obtain rfl : b = b0 := by rw [hb] at hb'; exact (Option.some.inj hb').symm
    have n1 := n_of_i g1;have n2 := n_of_i g2;have n3 := n_of_i (Ω := e.opq) (x := cap) (by omega);have hcut : (mkCut q.x q.n off (off.add len)).s e.opq = ((q.x.s e.opq).drop (off.n e.opq)).take (len.n e.opq) := by
     rw [mkCut_s hn, add_n g2 g1, List.drop_take]; congr 1; omega
    rw [hcut];intro w hw j c hj;rw [List.getElem?_take] at hj;split at hj
    ·rename_i hjl;rw [List.getElem?_drop] at hj;have hp := hp (by omega);subst hp;rw [Nat.add_assoc];exact hcell w hw _ c hj
    ·cases hj
   ·cases h
  ·cases h
 ·rename_i id off len cap opn;split at h
  ·rename_i l hl;split at h
   ·rename_i x' hx';simp only [sme, pme] at h;obtain ⟨rfl, rfl⟩ := h;simp only [VR] at hx;obtain ⟨b0, hb, he⟩ := hx;simp only [Value.slice.injEq, sme, Addr.mk.injEq, and_true] at he;obtain ⟨⟨rfl, rfl⟩, rfl, rfl⟩ := he;obtain ⟨xs, h1, h2, h3⟩ := readL_cells R hb _ _ _ hl;obtain ⟨rfl, hg⟩ := seqOfL_val hx' h1;intro w hw j c hj;exact h3 w hw j _ (by simp [hj])
   ·cases h
  ·cases h
 ·simp only [VR] at hx; cases hx
 ·simp only [sme, pme] at h;obtain ⟨rfl, rfl⟩ := h;intro w _ j c hj;simp [E.s, E.den] at hj
 ·simp only [sme, pme] at h;obtain ⟨rfl, rfl⟩ := h;intro w _ j c hj;simp [E.s, E.den] at hj
 ·simp only [VR] at hx; cases hx
 ·simp only [VR] at hx; cases hx.1
 ·rename_i l' s';split at h
  ·rename_i hc;simp only [bae, decide_eq_true_eq] at hc;obtain ⟨hpl, rfl⟩ := hc;simp only [sme, pme] at h;obtain ⟨rfl, rfl⟩ := h;simp only [VR] at hx;obtain ⟨hg, hx⟩ := pv_ints hx;have hlen : (s'.den e.opq).toList.length = (s'.s e.opq).length := by simp [E.s, D.ints]
   intro w hw j c hj;rcases hx with ⟨h0, _⟩ | ⟨b', o, cp', arr, he, hle, hb, hel⟩
   ·have : s'.s e.opq = [] := List.eq_nil_of_length_eq_zero (by rw [← hlen, h0]; rfl);rw [this] at hj; simp at hj
   ·simp only [Value.slice.injEq, sme, Addr.mk.injEq, and_true] at he;obtain ⟨⟨rfl, rfl⟩, _, _⟩ := he;obtain ⟨el', fz, hrow⟩ := R.pool hpl w hw _ _ hb;rw [cell?_row hrow];exact hel j c hj
  ·cases h
 ·cases h

theorem AB.from_vrs {e : Env} {id : Nat} {b : AB} {arr : Array Value} {fz : Nat × Nat} (R : RowR e id b arr fz) : ∀ (n i : Nat) (l : List AV), b.from i n = some l → VRs e l ((arr.toList.drop i).take n)
 | 0, i, l, h => by simp only [AB.from, sme] at h; subst h; simpa using VRs_nil
 | n + 1, i, l, h => by
  simp only [AB.from] at h;split at h
  ·rename_i v r hv hr;simp only [sme] at h;subst h;obtain ⟨x, h1, h2⟩ := R.cell i v hv;have h3 := AB.from_vrs R n (i + 1) r hr;have hi : i < arr.toList.length := by have := (Array.getElem?_eq_some_iff.1 h1).1; simpa using this
   rw [List.drop_eq_getElem_cons hi, List.take_succ_cons];have : arr.toList[i] = x := by
    have := (Array.getElem?_eq_some_iff.1 h1).2;simpa using this
   rw [this];exact VRs_cons h2 h3
  ·cases h

def ownId (A : Ask) (s : St) (el : TypeId) (kk : IntKind) (d : AV) : Option Nat :=
 match d with
 | .sslice id (.int 0) _ cap opn => match s.seqW id with
  | some q => match !q.str && Nat.beq q.elem el && cap.beq q.n && (opn == q.opn) && decide (q.k = kk) && (q.opn || leB A q.n (.int 9223372036854775807)) with
   | true => some id
   | false => none
  | none => none
 | .slice id 0 _ cap opn => match s.row id with
  | some b => match !b.str && Nat.beq b.elem el && Nat.beq b.size cap && (opn == b.opn) && (!b.opn || (Nat.beq b.esz 1 && (match b.tk with | some k => decide (k = kk) | none => false))) && (b.opn || Nat.ble cap 9223372036854775807), b.from 0 b.size with
   | true, some l => match seqOfL kk l with
    | some _ => some id
    | none => none
   | _, _ => none
  | none => none
 | _ => none

theorem ownId_val {Ω : Om} {w0 : Base} {e : Env} {s : St} {w : World} (h : Rel Ω w0 e s w) {A : Ask} (hA : AskOK e.opq A) {el : TypeId} {kind : IntKind} {d : AV} {id : Nat} (k : ownId A s el kind d = some id) {y : Value} (hd : VR e d y) :
  ∃ kk p ln arr, y = .slice (some ⟨kk, p, none⟩) ln arr.size ∧ (arr.size ≠ 0 → p = 0) ∧ e.loc id = some kk ∧ w0.mine kk ∧ w.heap[kk]? = some (.cells arr el (0, 0)) ∧ typed kind arr.toList ∧ arr.size ≤ 9223372036854775807 ∧ ∃ o, s.heap.get id = some o ∧ o.own = true := by
 unfold ownId at k;split at k
 ·rename_i id' len cap opn;split at k
  ·rename_i q hq;split at k
   ·rename_i hc;simp only [bae, Bool.not_eq_true', beq_iff_eq] at hc;obtain ⟨⟨⟨⟨⟨c1, c2⟩, c3⟩, rfl⟩, c6⟩, c7⟩ := hc;simp only [Bool.or_eq_true] at c7;have c6 := of_decide_eq_true c6;subst c6;have c2 := beq_t c2;have c3 := E.beq_eq c3;simp only [sme] at k;subst k c3;have hb := St.seqW_some hq;obtain ⟨k', hl', hm, h0, arr, fz, hcell, hR⟩ := h.obj id' _ hb;have hfz := hR.plain c1;subst hfz;rw [c2] at hcell;simp only [VR] at hd;obtain ⟨b, p, hb2, rfl, hp, g1, g2, g3⟩ := hd;obtain rfl : b = k' := by rw [hl'] at hb2; exact (Option.some.inj hb2).symm
    obtain ⟨tail, ht, htl, hty⟩ := hR.cells;have hn := hR.n;have hnn := n_of_i (Ω := e.opq) (x := q.n) (by omega);have hsz : arr.size = q.n.n e.opq + if q.opn = true then e.spare id' else 0 := by
     rw [← Array.length_toList, ht, List.length_append, htl]; simp; omega
    refine ⟨b, p, len.n e.opq, arr, by rw [hsz], fun hne => ?_, hl', hm, hcell, by rw [ht]; exact (typed_ints hR.rng).append hty.1, by
     cases ho : q.opn with
     | true => exact hty.2 ho
     | false =>
      rcases c7 with c7 | c7
      ·rw [ho] at c7; cases c7
      ·have c8 := leB_val hA c7;simp only [E.i, E.den, D.toInt_int] at c8;rw [hsz, ho];simp only [E.i] at hnn
       simp
       omega, _, hb, rfl⟩
    have := hp (by rw [← hsz]; exact hne);rw [this, h0]; rfl
   ·cases k
  ·cases k
 ·rename_i id' len cap opn;split at k
  ·rename_i b hq;split at k
   ·rename_i l hc hl;simp only [bae, Bool.not_eq_true', beq_iff_eq, Bool.or_eq_true] at hc;obtain ⟨⟨⟨⟨⟨c1, c2⟩, c3⟩, rfl⟩, c5⟩, c7⟩ := hc;have c2 := beq_t c2;have c3 := beq_t c3;split at k
    ·rename_i sx hsx;simp only [sme] at k;subst k;have hb := St.row_some hq;obtain ⟨k', hl', hm, h0, arr, fz, hcell, hR⟩ := h.obj id' _ hb;have hfz := hR.plain c1;subst hfz;rw [c2] at hcell;simp only [VR] at hd;obtain ⟨bb, hb2, rfl⟩ := hd;obtain rfl : bb = k' := by rw [hl'] at hb2; exact (Option.some.inj hb2).symm
     have hsz : arr.size = cap + if b.opn = true then e.spare id' else 0 := by
      rw [hR.size, c3];split
      ·rename_i ho;rcases c5 with c5 | c5
       ·rw [ho] at c5; cases c5
       ·rw [beq_t c5.1, Nat.mul_one]
      ·rfl
     have hbd : arr.size ≤ 9223372036854775807 := by
      cases ho : b.opn with
      | true =>
       rcases c5 with c5 | c5
       ·rw [ho] at c5; cases c5
       ·have c6 := c5.2;split at c6
        ·rename_i k2 hk2;exact (hR.tail _ hk2 ho).2
        ·cases c6
      | false =>
       rcases c7 with c7 | c7
       ·rw [ho] at c7; cases c7
       ·have := ble_le c7;rw [hsz, ho]
        simp
        omega
     have hty : typed kind arr.toList := by
      have hv := AB.from_vrs hR b.size 0 l hl;rw [List.drop_zero] at hv;obtain ⟨e1, e2⟩ := seqOfL_val hsx hv;rw [← List.take_append_drop b.size arr.toList];refine (show typed kind (arr.toList.take b.size) by rw [e1]; exact typed_ints e2).append ?_;cases ho : b.opn with
      | true =>
       rcases c5 with c5 | c5
       ·rw [ho] at c5; cases c5
       ·have c6 := c5.2;split at c6
        ·rename_i k2 hk2;have c6 := of_decide_eq_true c6;subst c6;exact (hR.tail _ hk2 ho).1
        ·cases c6
      | false =>
       have : arr.size = b.size := by rw [hR.size, ho]; simp
       rw [List.drop_eq_nil_of_le (by simp; omega)];exact typed_nil
     exact ⟨bb, 0, len, arr, by rw [hsz], fun _ => rfl, hl', hm, hcell, hty, hbd, _, hb, rfl⟩
    ·cases k
   ·cases k
  ·cases k
 ·cases k

def appendS (P : Program) (A : Ask) (s : St) (t u : TypeId) (d x : AV) : Option (AV × St) :=
 match P.underlying t, P.underlying u with
 | some (.slice _), some (.int _) => none
 | some (.slice el), some _ => match P.info? el with
  | some inf => match inf.zero with
   | some (.int k 0) => match Nat.beq inf.size 1 && Nat.blt 0 inf.bytes with
    | true => match srcE { s.mem with ask := A } k x with
     | some (n, news) => match d with
      | .nilslice => match askQ A (.eq n (.int 0)) with
       | some true => some (.nilslice, s)
       | some false => match leB A ((E.int (2 * inf.bytes)).mul n) (.int 281474976710656) with
        | true => some (.sslice s.nid (.int 0) n n true, s.newO (.seq ⟨el, k, n, news, true, false⟩))
        | false => none
       | none => none
      | d => match srcE { s.mem with ask := A } k d with
       | some (len, olds) => match leB A ((E.int (2 * inf.bytes)).mul (len.add n)) (.int 281474976710656) with
        | true => match ownId A s el k d with
         | some id => some (.sslice s.nid (.int 0) (len.add n) (len.add n) true, (s.del id).newO (.seq ⟨el, k, len.add n, mkApp olds news, true, false⟩))
         | none => match d with
          | .sslice _ _ _ cap false => match ltB A cap (len.add n) with
           | true => some (.sslice s.nid (.int 0) (len.add n) (len.add n) true, s.newO (.seq ⟨el, k, len.add n, mkApp olds news, true, false⟩))
           | false => none
          | _ => none
        | false => none
       | none => none
     | none => none
    | false => none
   | _ => none
  | none => none
 | _, _ => none

theorem appendS_fresh {P : Program} {Ω : Om} {w0 : Base} {e : Env} {s : St} {w : World} (h : Rel Ω w0 e s w) {t u ty el : TypeId} {inf : TypeInfo} {du : TypeDesc} {k : IntKind} (ht : P.underlying t = some (.slice el)) (hi : P.info? el = some inf) (hz : inf.zero = some (.int k 0)) (hu : P.underlying u = some du) (hdu : ∀ k, du ≠ .int k)
  (h1 : inf.size = 1) {base : Option Addr} {ln cp nn : Nat} {os ns : List Int} (hos : os.length = ln) (hns : ns.length = nn) (hor : ∀ c ∈ os, inK k c) (hnr : ∀ c ∈ ns, inK k c) {y : Value} (hlen : ∀ w, (Builtin.lenOf y).run P w = .ok nn w)
  (hnew : (Builtin.firstCells 1 nn y).run P w.drew = .ok (ns.map (Value.int k)).toArray w.drew) (hold : (Builtin.firstCells 1 ln (.slice base ln cp)).run P w.drew = .ok (os.map (Value.int k)).toArray w.drew)
  (hroom : ¬ ln + nn ≤ cp) (hb : 2 * inf.bytes * (ln + nn) ≤ 281474976710656) (hpos : 0 < inf.bytes) {N X : E} (hN : N.i Ω = (ln + nn : Nat)) (hX : X.s Ω = os ++ ns) (s2 : St) (hs2 : Rel Ω w0 e s2 w) (hnx : s2.nid = s.nid) :
  ∃ e' v w', e.le e' ∧ VR e' (.sslice s.nid (.int 0) N N true) v ∧ Rel Ω w0 e' (s2.newO (.seq ⟨el, k, N, X, true, false⟩)) w' ∧ (Builtin.append_ #[t, u] ty #[.slice base ln cp, y]).run P w = .ok v w' := by
 have hfit : 2 * (ln + nn) * inf.bytes ≤ 281474976710656 := by
  have : 2 * (ln + nn) * inf.bytes = 2 * inf.bytes * (ln + nn) := by rw [Nat.mul_assoc, Nat.mul_comm (ln + nn), ← Nat.mul_assoc]
  omega
 have hsm : 2 * (ln + nn) ≤ 281474976710656 := Nat.le_trans (Nat.le_mul_of_pos_right _ hpos) hfit;have hrun := run_append_new (ty := ty) ht hi hz hu hdu (base := base) (sLen := ln) (sCap := cp) (hlen w) (by rw [h1]; exact hnew) (by rw [h1]; exact hold) hroom (by omega) (growslice_fits2 (by omega) hfit);have hge := grownCap_ge w (ln + nn) cp el;have hopq := h.opq;have hNn : N.n Ω = ln + nn := by have := n_of_i (Ω := Ω) (x := N) (by omega); omega
 obtain ⟨hle, hrel⟩ := hs2.drew.newO (w' := w.drew.alloc (.cells ((os.map (Value.int k)).toArray ++ (ns.map (Value.int k)).toArray ++ Builtin.zeroCells (Value.int k 0).cells (grownCap w (ln + nn) cp el - (ln + nn))) el)) (.seq ⟨el, k, N, X, true, false⟩) w.heap.size (grownCap w (ln + nn) cp el - (ln + nn)) 0 (hs2.drew.below.alloc _)
  ⟨Base.mine_new h.below, by simp [Env.newB], _, (0, 0), heap_alloc_new w.drew _, ⟨by
    show N.i (Env.newB _ _ _ _ _).opq = (X.s (Env.newB _ _ _ _ _).opq).length;simp only [Env.newB, hopq];rw [hN, hX, List.length_append, hos, hns],
   by
    intro c hc;simp only [Env.newB, hopq] at hc;rw [hX] at hc;rcases List.mem_append.1 hc with hc | hc
    ·exact hor c hc
    ·exact hnr c hc,
   ⟨(Builtin.zeroCells (Value.int k 0).cells (grownCap w (ln + nn) cp el - (ln + nn))).toList, by
     simp only [Env.newB, hopq];rw [hX]
     simp, by simp [Env.newB, zeroCells_len, Value.cells], typed_zero rfl _, fun _ => by
      have h5 := grownCap_le_maxLen w (ln + nn) cp el (by simp only [maxLen]; omega);simp only [maxLen] at h5;simp [zeroCells_len, Value.cells];omega⟩, fun off _ => by omega, fun _ => rfl, fun x => by cases x⟩⟩
  (fun id o hid j hj => have := hs2.drew.loc_lt hid hj; ⟨by simp at this; omega, heap_alloc_old w.drew _ j this⟩) (fun j _ hj => heap_alloc_old w.drew _ j (hs2.drew.pool_lt hj)) (fun _ => hs2.drew.pool_new (Nat.le_refl _))
 refine ⟨_, _, _, hle, ?_, hrel, hrun⟩;simp only [VR];rw [← hnx];refine ⟨w.heap.size, 0, by simp [Env.newB], ?_, ?_, ?_, ?_, ?_⟩
 ·simp only [Env.newB, hopq, if_true, hNn];congr 1;omega
 ·intro _; simp [Env.newB, E.n, E.den, D.nat]
 ·simp only [Env.newB, hopq]; omega
 ·exact Int.le_refl 0
 ·exact Int.le_refl _

theorem appendS_run {P : Program} {Ω : Om} {w0 : Base} {A : Ask} (hA : AskOK Ω A) {e : Env} {s s' : St} {w : World} {t u ty : TypeId} {d x v : AV} (k : appendS P A s t u d x = some (v, s')) (h : Rel Ω w0 e s w) {d' x' : Value} (hd : VR e d d') (hx : VR e x x') :
  ∃ e' y w', e.le e' ∧ VR e' v y ∧ Rel Ω w0 e' s' w' ∧ (Builtin.append_ #[t, u] ty #[d', x']).run P w = .ok y w' := by
 obtain rfl := h.opq;have reads : ∀ {w1 : World}, Rel e.opq w0 e s w1 → Reads P e { s.mem with ask := A } (fun w' => w' = w1) := fun h1 =>
  { cell := (h1.reads (P := P)).cell, apart := (h1.reads (P := P)).apart, fact := (h1.reads (P := P)).fact, ask := hA, zero := (h1.reads (P := P)).zero, seq := (h1.reads (P := P)).seq, pool := (h1.reads (P := P)).pool, vseq := (h1.reads (P := P)).vseq }
 have hAe : AskOK e.opq A := hA;unfold appendS at k;split at k
 ·cases k
 ·rename_i el du hni ht hu;have hdu : ∀ k, du ≠ .int k := fun kk hk => by subst hk; exact hni _ rfl
  split at k
  ·rename_i inf hi;split at k
   ·rename_i kk hz;split at k
    ·rename_i hc;simp only [bae] at hc;have h1 := beq_t hc.1;have hpos : 0 < inf.bytes := by simpa [Nat.blt_eq] using hc.2
     split at k
     ·rename_i n news hsrc;obtain ⟨a1, a2, a3, a4⟩ := srcE_run (reads h) hsrc hx;obtain ⟨_, _, _, b4⟩ := srcE_run (reads h.drew) hsrc hx;have hnn := n_of_i (Ω := e.opq) (x := n) (by omega);have hnl : (news.s e.opq).length = n.n e.opq := by omega
      have takeAll : (news.s e.opq).take (n.n e.opq) = news.s e.opq := by rw [← hnl]; exact List.take_length
      split at k
      ·simp only [VR] at hd;subst hd;split at k
       ·rename_i hq;have hq := of_decide_eq_true (askQ_val hAe hq);have hq : n.i e.opq = 0 := hq;simp only [sme, pme] at k;obtain ⟨rfl, rfl⟩ := k;have h0 : n.n e.opq = 0 := by omega
        have ha3 := a3 w;have ha4 := a4 0 (by omega) w rfl;rw [h0] at ha3;refine ⟨e, .slice none 0 0, w, Env.le_refl e, by simp only [VR], h, ?_⟩;rw [run_append_in ht hi hu hdu ha3 (by rw [h1]; exact ha4) (by omega)]
        simp
       ·rename_i hq;have hq := of_decide_eq_false (askQ_val hAe hq);have hq : ¬ n.i e.opq = 0 := hq;split at k
        ·rename_i hb;have hb := leB_val hAe hb;rw [E.mul_i] at hb;have hb : (2 * inf.bytes : Int) * n.i e.opq ≤ 281474976710656 := hb;simp only [sme, pme] at k;obtain ⟨rfl, rfl⟩ := k;have hb' : 2 * inf.bytes * (0 + n.n e.opq) ≤ 281474976710656 := by
          rw [← hnn] at hb;rw [Nat.zero_add];apply Int.ofNat_le.1;rw [Int.natCast_mul, Int.natCast_mul];exact hb
         exact appendS_fresh (ty := ty) h ht hi hz hu hdu h1 (base := none) (ln := 0) (cp := 0) (os := []) (ns := news.s e.opq) rfl hnl (by simp) a2 a3 (by have := b4 (n.n e.opq) (by omega) w.drew rfl; rwa [takeAll] at this) (by simp [Builtin.firstCells]) (by omega) hb' hpos
          (by omega) (by simp) s h rfl
        ·cases k
       ·cases k
      ·rename_i d hnn';split at k
       ·rename_i len olds hsd;obtain ⟨c1, c2, c3, c4⟩ := srcE_run (reads h) hsd hd;obtain ⟨_, _, _, d4⟩ := srcE_run (reads h.drew) hsd hd;have hln := n_of_i (Ω := e.opq) (x := len) (by omega);have hol : (olds.s e.opq).length = len.n e.opq := by omega
        have takeO : (olds.s e.opq).take (len.n e.opq) = olds.s e.opq := by rw [← hol]; exact List.take_length
        split at k
        ·rename_i hb;have hb := leB_val hAe hb;rw [E.mul_i, E.add_i] at hb;have hb : (2 * inf.bytes : Int) * (len.i e.opq + n.i e.opq) ≤ 281474976710656 := hb;have hb' : 2 * inf.bytes * (len.n e.opq + n.n e.opq) ≤ 281474976710656 := by
          rw [← hnn, ← hln] at hb;apply Int.ofNat_le.1;rw [Int.natCast_mul, Int.natCast_mul, Int.natCast_add];exact hb
         have hN : (len.add n).i e.opq = (len.n e.opq + n.n e.opq : Nat) := by rw [E.add_i]; omega
         have hX : (mkApp olds news).s e.opq = olds.s e.opq ++ news.s e.opq := by rw [mkApp_s]
         have hlenD : ∀ ln0 cp0 a0, d' = .slice a0 ln0 cp0 → ln0 = len.n e.opq := by
          intro ln0 cp0 a0 hh;subst hh;have := c3 w;simp only [Builtin.lenOf, Sem.run_pure, Result.ok.injEq] at this;exact this.1
         split at k
         ·rename_i id hown;simp only [sme, pme] at k;obtain ⟨rfl, rfl⟩ := k;obtain ⟨kb, p, ln, arr, rfl, hp, hloc, hm, hcell, htyp, hbd, o, ho, hoo⟩ := ownId_val h hAe hown hd;obtain rfl := hlenD _ _ _ rfl;have hcells := srcE_cells (reads h) hsd hd w rfl;by_cases hin : len.n e.opq + n.n e.opq ≤ arr.size
          ·-- in place
           have hnewv := a4 (n.n e.opq) (by omega) w rfl;rw [takeAll] at hnewv;have hdel := h.del id;have hnid : (s.del id).nid = s.nid := by rw [St.del_eq]; rfl
           have hfr : e.loc (s.del id).nid = none := by rw [hnid]; exact h.fresh s.next (Nat.le_refl _)
           have hle := Env.le_newB (s := s.del id) hfr kb (arr.size - (len.n e.opq + n.n e.opq)) 0;have main : ∃ w' cur', (storeCells ⟨kb, p + len.n e.opq, none⟩ ((news.s e.opq).map (Value.int kk))).run P w = .ok () w' ∧ w'.heap[kb]? = some (.cells cur' el (0, 0)) ∧ (∀ j, j ≠ kb → w'.heap[j]? = w.heap[j]?) ∧ w'.os = w.os ∧ w'.tape = w.tape ∧ w'.output = w.output ∧ w'.heap.size = w.heap.size ∧
             cur'.toList = (olds.s e.opq ++ news.s e.opq).map (Value.int kk) ++ arr.toList.drop (len.n e.opq + n.n e.opq) := by
            have hhead : arr.size ≠ 0 → arr.toList.take (len.n e.opq) = (olds.s e.opq).map (Value.int kk) := by
             intro hne;have hp0 := hp hne;apply List.ext_getElem?;intro j;rw [List.getElem?_take];split
             ·rename_i hj;have hj' : j < (olds.s e.opq).length := by omega
              have := hcells j _ (List.getElem?_eq_getElem hj');rw [cell_row hcell, hp0, Nat.zero_add] at this;simp [hj', this]
             ·rename_i hj;rw [List.getElem?_eq_none (by simp; omega)]
            by_cases h0 : n.n e.opq = 0
            ·have hnil : news.s e.opq = [] := List.eq_nil_of_length_eq_zero (by omega);refine ⟨w, arr, by rw [hnil]; simp [storeCells], hcell, fun _ _ => rfl, rfl, rfl, rfl, rfl, ?_⟩;by_cases hne : arr.size = 0
             ·have ho0 : olds.s e.opq = [] := List.eq_nil_of_length_eq_zero (by omega);have : arr.toList = [] := by apply List.eq_nil_of_length_eq_zero; simpa using hne
              simp [hnil, ho0, this]
             ·rw [hnil, h0, List.append_nil, ← hhead hne, Nat.add_zero, List.take_append_drop]
            ·have hne : arr.size ≠ 0 := by omega
             have hp0 := hp hne;subst hp0;obtain ⟨cur', w', hr, hg', hoth, e1, e2, e3, e4, hcl⟩ := run_storeCells_row (P := P) kb (len.n e.opq) el ((news.s e.opq).map (Value.int kk)) 0 arr w hcell (by simp; omega) (fun v hv => by
              simp only [List.mem_map] at hv;obtain ⟨c, _, rfl⟩ := hv; rfl)
             refine ⟨w', cur', by rw [Nat.zero_add]; exact hr, hg', hoth, e1, e2, e3, e4, ?_⟩;rw [hcl];simp only [Nat.add_zero, List.length_map, hnl];rw [hhead hne, List.map_append]
           obtain ⟨w', cur', hr, hg', hoth, e1, e2, e3, e4, hcl⟩ := main;have hNn : (len.add n).n e.opq = len.n e.opq + n.n e.opq := by have := n_of_i (Ω := e.opq) (x := len.add n) (by omega); omega
           have hnp : e.h kb = none := h.apart _ _ _ ho hoo hloc;obtain ⟨_, hrel⟩ := hdel.newO (w' := w') (.seq ⟨el, kk, len.add n, mkApp olds news, true, false⟩) kb (arr.size - (len.n e.opq + n.n e.opq)) 0 (h.below.step e1 e2 e3 (by rw [e4]; exact Nat.le_refl _) fun j hj => hoth j (Base.mine_ne hm hj))
            ⟨hm, by simp [Env.newB], cur', (0, 0), hg', ⟨by
              show (len.add n).i (Env.newB _ _ _ _ _).opq = ((mkApp olds news).s (Env.newB _ _ _ _ _).opq).length;simp only [Env.newB];rw [hN, hX]; simp; omega,
             by
              intro c hc;simp only [Env.newB] at hc;rw [hX] at hc;rcases List.mem_append.1 hc with hc | hc
              ·exact c2 c hc
              ·exact a2 c hc,
             ⟨arr.toList.drop (len.n e.opq + n.n e.opq), by simp only [Env.newB]; rw [hX, hcl], by simp [Env.newB], htyp.drop _, fun _ => by
              have h5 := congrArg List.length hcl;simp at h5;omega⟩, fun off _ => by omega, fun _ => rfl, fun x => by cases x⟩⟩
            (fun i o' hi' j hj => by
             have hne : i ≠ id := by
              intro x;subst x;simp [St.del_eq, T.get_put] at hi'
             have hi2 : s.heap.get i = some o' := by simpa [St.del_eq, T.get_put, hne] using hi'
             have : j ≠ kb := fun x => hne (h.inj1 hi2 ho hm hnp (x ▸ hj) hloc)
             exact ⟨this, hoth j this⟩) (fun j arr hj => hoth j (fun x => by subst x; rw [hnp] at hj; cases hj)) (fun _ => hnp)
           refine ⟨_, .slice (some ⟨kb, p, none⟩) (len.n e.opq + n.n e.opq) arr.size, w', hle, ?_, hrel, ?_⟩
           ·simp only [VR];refine ⟨kb, p, by simp [Env.newB, hnid], ?_, ?_, ?_, ?_, ?_⟩
            ·simp only [Env.newB, hnid, if_true, hNn];congr 1;omega
            ·intro hne;simp only [Env.newB, hnid, if_true, hNn] at hne ⊢;rw [hp (by omega)]; simp [E.n, E.den, D.nat]
            ·simp only [Env.newB]; omega
            ·exact Int.le_refl 0
            ·exact Int.le_refl _
           ·rw [run_append_in ht hi hu hdu (a3 w) (by rw [h1]; exact hnewv) hin];simp only [add_none, h1, Nat.mul_one, hr, Result.andThen_ok]
          ·-- anew
           have hold := d4 (len.n e.opq) (by omega) w.drew rfl;rw [takeO] at hold;exact appendS_fresh (ty := ty) h ht hi hz hu hdu h1 (os := olds.s e.opq) (ns := news.s e.opq) hol hnl c2 a2 a3 (by have := b4 (n.n e.opq) (by omega) w.drew rfl; rwa [takeAll] at this) hold hin hb' hpos hN hX (s.del id) (h.del id) (by rw [St.del_eq]; rfl)
         ·split at k
          ·rename_i id off len' cap _;split at k
           ·rename_i hlt;have hlt := ltB_val hAe hlt;rw [E.add_i] at hlt;simp only [sme, pme] at k;obtain ⟨rfl, rfl⟩ := k;have hd0 := hd;simp only [VR] at hd;obtain ⟨b, p, hb2, rfl, hp, g1, g2, g3⟩ := hd;have e1 := hlenD _ _ _ rfl;have hcn := n_of_i (Ω := e.opq) (x := cap) (by omega);have hold := d4 (len.n e.opq) (by omega) w.drew rfl;rw [takeO] at hold;rw [e1];rw [e1] at hold;exact appendS_fresh (ty := ty) h ht hi hz hu hdu h1 (os := olds.s e.opq) (ns := news.s e.opq) hol hnl c2 a2 a3 (by have := b4 (n.n e.opq) (by omega) w.drew rfl; rwa [takeAll] at this) hold (by simp only [Bool.false_eq_true, if_false, Nat.add_zero]; omega) hb' hpos hN hX s h rfl
           ·cases k
          ·cases k
        ·cases k
       ·cases k
     ·cases k
    ·cases k
   ·cases k
  ·cases k
 ·cases k

def copyS (P : Program) (A : Ask) (s : St) (t : TypeId) (d x : AV) : Option (AV × St) :=
 match P.underlying t, d with
 | some (.slice el), .sslice id off len _ _ => match P.info? el, s.seqW id with
  | some inf, some q => match srcE { s.mem with ask := A } q.k x with
   | some (n, src) => match askQ A (.le n len) with
    | some b =>
     let cnt := match b with | true => n | false => len
     let p := match b with | true => src | false => mkCut src n (.int 0) len
     match Nat.beq inf.size 1 && !q.str && fitB A .i64 cnt && leB A (off.add cnt) q.n with
     | true => some (mkS .i64 cnt, s.setO id (.seq { q with x := mkSplice q.x q.n off p cnt }))
     | false => none
    | none => none
   | none => none
  | _, _ => none
 | _, _ => none

theorem copyS_run {P : Program} {Ω : Om} {w0 : Base} {A : Ask} (hA : AskOK Ω A) {e : Env} {s s' : St} {w : World} {t u ty : TypeId} {d x v : AV} (k : copyS P A s t d x = some (v, s')) (h : Rel Ω w0 e s w) {d' x' : Value} (hd : VR e d d') (hx : VR e x x') :
  ∃ e' y w', e.le e' ∧ VR e' v y ∧ Rel Ω w0 e' s' w' ∧ (Builtin.copy_ #[t, u] ty #[d', x']).run P w = .ok y w' := by
 obtain rfl := h.opq;have reads : Reads P e { s.mem with ask := A } (fun w' => w' = w) :=
  { cell := (h.reads (P := P)).cell, apart := (h.reads (P := P)).apart, fact := (h.reads (P := P)).fact, ask := hA, zero := (h.reads (P := P)).zero, seq := (h.reads (P := P)).seq, pool := (h.reads (P := P)).pool, vseq := (h.reads (P := P)).vseq }
 unfold copyS at k;split at k
 ·rename_i el id off len cap opn ht;split at k
  ·rename_i inf q hi hq;split at k
   ·rename_i n src hsrc;split at k
    ·rename_i b hb;have hb := askQ_val hA hb;have hb : decide (n.i e.opq ≤ len.i e.opq) = b := hb;obtain ⟨a1, a2, a3, a4⟩ := srcE_run reads hsrc hx;have hnn := n_of_i (Ω := e.opq) (x := n) (by omega);simp only [VR] at hd;obtain ⟨bk, p, hbk, rfl, hp, g1, g2, g3⟩ := hd;have hln := n_of_i g1;have hon := n_of_i g2;have hcn := n_of_i (Ω := e.opq) (x := cap) (by omega);have hrow := St.seqW_some hq;obtain ⟨k', hl', hm, h0, arr, fz, hcell, hR⟩ := h.obj id _ hrow;obtain rfl : bk = k' := by rw [hl'] at hbk; exact (Option.some.inj hbk).symm
     -- how many, which
     have hcnt : ∃ cnt p', (match b with | true => n | false => len) = cnt ∧ (match b with | true => src | false => mkCut src n (.int 0) len) = p' ∧ cnt.i e.opq = (p'.s e.opq).length ∧ 0 ≤ cnt.i e.opq ∧ cnt.n e.opq = Nat.min (n.n e.opq) (len.n e.opq) ∧ p'.s e.opq = (src.s e.opq).take (cnt.n e.opq) := by
      cases b
      ·have hb := of_decide_eq_false hb;have hs : (mkCut src n (.int 0) len).s e.opq = (src.s e.opq).take (len.n e.opq) := by
        rw [mkCut_s a1]; rfl
       exact ⟨len, _, rfl, rfl, by rw [hs]; simp; omega, g1, (Nat.min_eq_right (by omega)).symm, hs⟩
      ·have hb := of_decide_eq_true hb;exact ⟨n, src, rfl, rfl, a1, by omega, (Nat.min_eq_left (by omega)).symm, by rw [List.take_of_length_le (by omega)]⟩
     obtain ⟨cnt, p', ec, ep, hc1, hc0, hc2, hc3⟩ := hcnt;simp only [ec, ep] at k;split at k
     ·rename_i hcc;simp only [bae, Bool.not_eq_true'] at hcc;obtain ⟨⟨⟨b1, b2⟩, b3⟩, b4⟩ := hcc;have b1 := beq_t b1;have b3 := fitB_val hA b3;have b4 := leB_val hA b4;rw [E.add_i] at b4;simp only [sme, pme] at k;obtain ⟨rfl, rfl⟩ := k;have hcnn := n_of_i hc0;have hpl : (p'.s e.opq).length = cnt.n e.opq := by omega
      have hcells := a4 (cnt.n e.opq) (by have h9 : cnt.n e.opq ≤ n.n e.opq := (by rw [hc2]; exact Nat.min_le_left _ _); omega) w rfl;rw [← hc3] at hcells;have hqn := hR.n;obtain ⟨w', hr, hrel⟩ := h.seqStores (P := P) hrow hl' b2 (o := off.n e.opq) (l := p'.s e.opq) (x' := mkSplice q.x q.n off p' cnt) (by omega) (by rw [hc3]; exact fun c hc => a2 c (List.mem_of_mem_take hc))
       (mkSplice_s hqn hc1)
      have hst : (storeCells ⟨bk, p, none⟩ ((p'.s e.opq).map (Value.int q.k))).run P w = .ok () w' ∨ ((p'.s e.opq) = [] ∧ Rel e.opq w0 e (s.setO id (.seq { q with x := mkSplice q.x q.n off p' cnt })) w) := by
       by_cases hz : p'.s e.opq = []
       ·right;refine ⟨hz, ?_⟩;rw [hz] at hr;simp only [List.map_nil, storeCells, Sem.run_pure, Result.ok.injEq] at hr;rw [hr.2]; exact hrel
       ·left;have : 0 < cnt.n e.opq := by rw [← hpl]; exact List.length_pos_iff.2 hz
        have hlt : cnt.n e.opq ≤ len.n e.opq := by rw [hc2]; exact Nat.min_le_right _ _
        have hp := hp (by omega);rw [hp, h0, Nat.zero_add]; exact hr
      have hlen : (Builtin.lenOf x').run P w = .ok (n.n e.opq) w := a3 w;rcases hst with hst | ⟨hz, hrel2⟩
      ·refine ⟨e, .int .i64 (cnt.i e.opq), w', Env.le_refl e, mkS_vr b3, hrel, ?_⟩;simp [Builtin.copy_, run_underlying ht, hlen, sizeOf, typeInfo, hi, b1, ← hc2, hcells, hst, goInt, hcnn]
      ·refine ⟨e, .int .i64 (cnt.i e.opq), w, Env.le_refl e, mkS_vr b3, hrel2, ?_⟩;rw [hz] at hcells;simp only [List.map_nil] at hcells;simp [Builtin.copy_, run_underlying ht, hlen, sizeOf, typeInfo, hi, b1, ← hc2, hcells, storeCells, goInt, hcnn]
     ·cases k
    ·cases k
   ·cases k
  ·cases k
 ·cases k

def dstC (d : AV) : Option (Nat × E × Nat × E) :=
 match d with
 | .sslice id (.bi .add i (.int off)) len _ _ => match decide (0 ≤ off) with
  | true => some (id, i, off.toNat, len)
  | false => none
 | .slice id off len _ _ => some (id, .int 0, off, .int len)
 | _ => none
theorem dstC_val {e : Env} {d : AV} {id off : Nat} {i len : E} (k : dstC d = some (id, i, off, len)) {d' : Value} (hd : VR e d d') (h0 : e.base id = 0) (hi : 0 ≤ i.i e.opq) :
  ∃ bk p cap, e.loc id = some bk ∧ d' = .slice (some ⟨bk, p, none⟩) (len.n e.opq) cap ∧ 0 ≤ len.i e.opq ∧ (0 < len.n e.opq → p = off + i.n e.opq) := by
 unfold dstC at k;split at k
 ·rename_i id' i' off' len' cap opn;split at k
  ·rename_i hd0;have hd0 := of_decide_eq_true hd0;simp only [sme, pme] at k;obtain ⟨rfl, rfl, rfl, rfl⟩ := k;simp only [VR] at hd;obtain ⟨b, p, hb, rfl, hp, g1, g2, g3⟩ := hd;refine ⟨b, p, _, hb, rfl, g1, fun hl => ?_⟩;have n1 := n_of_i g1;have n2 := n_of_i (Ω := e.opq) (x := cap) (by omega);rw [hp (by omega), h0, Nat.zero_add];have hn := n_of_i hi;simp only [E.n, E.den, BO.den, D.nat, D.toInt_int] at hn ⊢;simp only [E.i] at hi;omega
  ·cases k
 ·rename_i id' off' len' cap opn;simp only [sme, pme] at k;obtain ⟨rfl, rfl, rfl, rfl⟩ := k;simp only [VR] at hd;obtain ⟨b, hb, rfl⟩ := hd;have e1 : (E.int (len' : Int)).n e.opq = len' := by simp [E.n, E.den, D.nat]
  exact ⟨b, off', cap + (if opn then e.spare id' else 0), hb, by rw [e1], by simp [E.i, E.den], fun _ => by simp [E.n, E.den, D.nat]⟩
 ·cases k

def copyC (P : Program) (A : Ask) (s : St) (t : TypeId) (d x : AV) : Option (AV × St) :=
 match P.underlying t, dstC d with
 | some (.slice el), some (id, i, off, len) => match P.info? el, P.underlying el, s.row id with
  | some inf, some (.int kk), some b => match srcE { s.mem with ask := A } kk x with
   | some (n, src) => match askQ A (.le n len) with
    | some bb =>
     let cnt := match bb with | true => n | false => len
     let p := match bb with | true => src | false => mkCut src n (.int 0) len
     let l := runE b.at kk 4096 off
     match Nat.beq inf.size 1 && !b.str && fitB A .i64 cnt && ge0 A i && leB A (i.add cnt) (.int l.length) && lenB A (segE l) l.length with
     | true => some (mkS .i64 cnt, s.setRow id { b with cells := b.cells.putL off (selCells kk (mkSplice (segE l) (.un .len (segE l)) i p cnt) l.length 0) })
     | false => none
    | none => none
   | none => none
  | _, _, _ => none
 | _, _ => none

theorem copyC_run {P : Program} {Ω : Om} {w0 : Base} {A : Ask} (hA : AskOK Ω A) {e : Env} {s s' : St} {w : World} {t u ty : TypeId} {d x v : AV} (k : copyC P A s t d x = some (v, s')) (h : Rel Ω w0 e s w) {d' x' : Value} (hd : VR e d d') (hx : VR e x x') :
  ∃ e' y w', e.le e' ∧ VR e' v y ∧ Rel Ω w0 e' s' w' ∧ (Builtin.copy_ #[t, u] ty #[d', x']).run P w = .ok y w' := by
 obtain rfl := h.opq;have reads : Reads P e { s.mem with ask := A } (fun w' => w' = w) :=
  { cell := (h.reads (P := P)).cell, apart := (h.reads (P := P)).apart, fact := (h.reads (P := P)).fact, ask := hA, zero := (h.reads (P := P)).zero, seq := (h.reads (P := P)).seq, pool := (h.reads (P := P)).pool, vseq := (h.reads (P := P)).vseq }
 unfold copyC at k;split at k
 ·rename_i el id i off len ht hdst;split at k
  ·rename_i inf kk b hi hel hrow;split at k
   ·rename_i n src hsrc;split at k
    ·rename_i bb hb;have hb := askQ_val hA hb;have hb : decide (n.i e.opq ≤ len.i e.opq) = bb := hb;obtain ⟨a1, a2, a3, a4⟩ := srcE_run reads hsrc hx;have hnn := n_of_i (Ω := e.opq) (x := n) (by omega);have hbr := St.row_some hrow;have h0 := h.base0 (id := id) (b := b) (by simp only [St.rowR, hbr]);obtain ⟨bk, arr, fz, hl', hm, hcell, hR⟩ := h.row id b hbr
     -- how many, which
     have hlen0 : 0 ≤ len.i e.opq := by
      unfold dstC at hdst;split at hdst
      ·split at hdst
       ·simp only [sme, pme] at hdst;obtain ⟨rfl, rfl, rfl, rfl⟩ := hdst;simp only [VR] at hd;obtain ⟨_, _, _, _, _, g1, _, _⟩ := hd;exact g1
       ·cases hdst
      ·simp only [sme, pme] at hdst;obtain ⟨rfl, rfl, rfl, rfl⟩ := hdst;simp [E.i, E.den]
      ·cases hdst
     have hln := n_of_i hlen0;have hcnt : ∃ cnt p', (match bb with | true => n | false => len) = cnt ∧ (match bb with | true => src | false => mkCut src n (.int 0) len) = p' ∧ cnt.i e.opq = (p'.s e.opq).length ∧ 0 ≤ cnt.i e.opq ∧ cnt.n e.opq = Nat.min (n.n e.opq) (len.n e.opq) ∧ p'.s e.opq = (src.s e.opq).take (cnt.n e.opq) := by
      cases bb
      ·have hb := of_decide_eq_false hb;have hs : (mkCut src n (.int 0) len).s e.opq = (src.s e.opq).take (len.n e.opq) := by
        rw [mkCut_s a1]; rfl
       exact ⟨len, _, rfl, rfl, by rw [hs]; simp; omega, hlen0, (Nat.min_eq_right (by omega)).symm, hs⟩
      ·have hb := of_decide_eq_true hb;exact ⟨n, src, rfl, rfl, a1, by omega, (Nat.min_eq_left (by omega)).symm, by rw [List.take_of_length_le (by omega)]⟩
     obtain ⟨cnt, p', ec, ep, hc1, hc0, hc2, hc3⟩ := hcnt;simp only [ec, ep] at k;split at k
     ·rename_i hcc;simp only [bae, Bool.not_eq_true'] at hcc;obtain ⟨⟨⟨⟨⟨b1, b2⟩, b3⟩, b4⟩, b5⟩, b6⟩ := hcc;have b1 := beq_t b1;have b3 := fitB_val hA b3;have b4 := ge0_val hA b4;have b5 := leB_val hA b5;have b6 := lenB_ok hA _ _ b6;rw [E.add_i] at b5;generalize hL : runE b.at kk 4096 off = L at b5 b6 k;have b5 : i.i e.opq + cnt.i e.opq ≤ (L.length : Int) := b5;simp only [sme, pme] at k;obtain ⟨rfl, rfl⟩ := k;obtain ⟨bk', p, cap, hbk, rfl, _, hp⟩ := dstC_val hdst hd h0 b4;obtain rfl : bk = bk' := by rw [hl'] at hbk; exact Option.some.inj hbk
      have hin := n_of_i b4;have hcnn := n_of_i hc0;have hpl : (p'.s e.opq).length = cnt.n e.opq := by omega
      have hcells := a4 (cnt.n e.opq) (by have h9 : cnt.n e.opq ≤ n.n e.opq := (by rw [hc2]; exact Nat.min_le_left _ _); omega) w rfl;rw [← hc3] at hcells;have hat : ∀ j (g : E), L[j]? = some g → ∃ u, b.at (off + j) = some u ∧ toE u = some (kk, g) := fun j g hg => runE_at _ _ _ _ (by rw [hL]; exact hg)
      have hsz : ∀ q u, b.at q = some u → q < b.size := by
       intro q u hu;unfold AB.at at hu;split at hu
       ·rename_i hh; simpa [Nat.blt_eq] using hh
       ·cases hu
      have hfz := hR.plain b2;subst hfz;have hbs : b.size ≤ arr.size := by rw [hR.size]; omega
      have hlim : 0 < L.length → off + L.length ≤ b.size := by
       intro hpos;obtain ⟨u, g1, _⟩ := hat (L.length - 1) L[L.length - 1] (by simp);have := hsz _ _ g1;omega
      have hX : (mkSplice (segE L) (.un .len (segE L)) i p' cnt).s e.opq = ((segE L).s e.opq).take (i.n e.opq) ++ p'.s e.opq ++ ((segE L).s e.opq).drop (i.n e.opq + (p'.s e.opq).length) :=
       mkSplice_s (by simp [E.i, E.den, UO.den, E.s, D.ints]) hc1
      generalize mkSplice (segE L) (.un .len (segE L)) i p' cnt = X at hX
      -- the cells
      have main : ∃ cur' w', (storeCells ⟨bk, p, none⟩ ((p'.s e.opq).map (Value.int kk))).run P w = .ok () w' ∧ w'.heap[bk]? = some (.cells cur' b.elem (0, 0)) ∧ (∀ j, j ≠ bk → w'.heap[j]? = w.heap[j]?) ∧ w'.os = w.os ∧ w'.tape = w.tape ∧ w'.output = w.output ∧ w.heap.size ≤ w'.heap.size ∧
        cur'.size = arr.size ∧ (∀ q, off + i.n e.opq ≤ q → q < off + i.n e.opq + cnt.n e.opq → cur'[q]? = ((p'.s e.opq).map (Value.int kk))[q - (off + i.n e.opq)]?) ∧ (∀ q, ¬ (off + i.n e.opq ≤ q ∧ q < off + i.n e.opq + cnt.n e.opq) → cur'[q]? = arr[q]?) := by
       by_cases hz : cnt.n e.opq = 0
       ·have hnil : p'.s e.opq = [] := List.eq_nil_of_length_eq_zero (by omega);exact ⟨arr, w, by rw [hnil]; simp [storeCells], hcell, fun _ _ => rfl, rfl, rfl, rfl, Nat.le_refl _, rfl, fun q h1 h2 => by omega, fun q _ => rfl⟩
       ·have hpos : 0 < L.length := by omega
        have hlm := hlim hpos;have hle : cnt.n e.opq ≤ len.n e.opq := by rw [hc2]; exact Nat.min_le_right _ _
        have hpe := hp (by omega);subst hpe;obtain ⟨cur', w', hr, hg', hoth, e1, e2, e3, e4, hcl⟩ := run_storeCells_row (P := P) bk (off + i.n e.opq) b.elem ((p'.s e.opq).map (Value.int kk)) 0 arr w hcell (by simp; omega) (fun v hv => by
         simp only [List.mem_map] at hv;obtain ⟨c, _, rfl⟩ := hv; rfl)
        simp only [Nat.add_zero, List.length_map] at hcl;have hls : cur'.size = arr.size := by
         have := congrArg List.length hcl;simp at this;omega
        refine ⟨cur', w', hr, hg', hoth, e1, e2, e3, by rw [e4]; exact Nat.le_refl _, hls, fun q h1 h2 => ?_, fun q h1 => ?_⟩
        ·rw [← Array.getElem?_toList, hcl, List.append_assoc, List.getElem?_append_right (by simp; omega), List.getElem?_append_left (by simp; omega)];simp only [List.length_take, Array.length_toList];congr 1;omega
        ·rw [← Array.getElem?_toList, ← Array.getElem?_toList, hcl];by_cases hq : q < off + i.n e.opq
         ·rw [List.append_assoc, List.getElem?_append_left (by simp; omega), List.getElem?_take, if_pos hq]
         ·rw [List.getElem?_append_right (by simp; omega), List.getElem?_drop];congr 1
          simp
          omega
      obtain ⟨cur', w', hst, hg', hoth, e1, e2, e3, e4, hls, hin2, hout⟩ := main;refine ⟨e, .int .i64 (cnt.i e.opq), w', Env.le_refl e, mkS_vr b3, ?_, ?_⟩
      ·refine h.setRow hbr hl' hg' ⟨by rw [hls]; exact hR.size, fun q v hv => ?_, fun o ho => by simp, fun _ => rfl, (fun x => by have x : b.str = true := x; rw [b2] at x; cases x), fun kq h1 h2 => ?_⟩ hoth e1 e2 e3 e4
       ·have hq : q < b.size := by
         unfold AB.at at hv;split at hv
         ·rename_i hh; simpa [Nat.blt_eq] using hh
         ·cases hv
        have hv2 : ({ b with cells := b.cells.putL off (selCells kk X L.length 0) } : AB).at q = if off ≤ q ∧ q < off + L.length then some (.sint kk (.bi .sel X (.int (q - off : Nat)))) else b.at q := by
         unfold AB.at;simp only [show Nat.blt q b.size = true by simpa [Nat.blt_eq] using hq, T.get_putL, selCells_len, selCells_at, Nat.zero_add];by_cases hr : off ≤ q ∧ q < off + L.length
         ·simp only [if_pos hr, if_pos (show q - off < L.length by omega)]
         ·simp only [if_neg hr]
        rw [hv2] at hv;by_cases hr : off ≤ q ∧ q < off + L.length
        ·rw [if_pos hr] at hv;simp only [sme] at hv;subst hv;have hjn : (E.int ((q - off : Nat) : Int)).n e.opq = q - off := by simp [E.n, E.den, D.nat]
         have hjl : q - off < L.length := by omega
         by_cases hw : off + i.n e.opq ≤ q ∧ q < off + i.n e.opq + cnt.n e.opq
         ·have hpq : q - (off + i.n e.opq) < (p'.s e.opq).length := by omega
          refine ⟨.int kk (p'.s e.opq)[q - (off + i.n e.opq)], by rw [hin2 q hw.1 hw.2]; simp [hpq], ?_⟩;have hi2 : (E.bi .sel X (.int ((q - off : Nat) : Int))).i e.opq = (p'.s e.opq)[q - (off + i.n e.opq)] := sel_i _ _ _ (by
           rw [hjn, hX, List.append_assoc, List.getElem?_append_right (by simp; omega), List.getElem?_append_left (by simp; omega)];simp only [List.length_take];rw [Nat.min_eq_left (by omega), show q - off - i.n e.opq = q - (off + i.n e.opq) by omega];simp [hpq])
          simp only [VR];rw [hi2];refine ⟨rfl, a2 _ ?_⟩;have hsub : ∀ c ∈ p'.s e.opq, c ∈ src.s e.opq := fun c hc => by rw [hc3] at hc; exact List.mem_of_mem_take hc
          exact hsub _ (List.getElem_mem hpq)
         ·obtain ⟨u, g1, g2⟩ := hat (q - off) L[q - off] (by simp [hjl]);rw [show off + (q - off) = q by omega] at g1;obtain ⟨a, f1, f2⟩ := hR.cell q u g1;refine ⟨a, by rw [hout q hw]; exact f1, ?_⟩;obtain ⟨rfl, hr2⟩ := toE_val g2 f2;have hs := segE_sel e.opq (l := L) (i := .int ((q - off : Nat) : Int)) (x := L[q - off]) (by rw [hjn]; simp [hjl]) (by simp [E.i, E.den]);have hlen2 : q - off < ((segE L).s e.opq).length := by omega
          have hg : ((segE L).s e.opq)[(E.int ((q - off : Nat) : Int)).n e.opq]? = some ((segE L).s e.opq)[q - off] := by rw [hjn]; simp [hlen2]
          have hi2 : (E.bi .sel X (.int ((q - off : Nat) : Int))).i e.opq = (L[q - off]).i e.opq := by
           rw [← hs, sel_i _ _ _ hg];refine sel_i _ _ _ ?_;rw [hjn, hX];by_cases hq3 : q - off < i.n e.opq
           ·rw [List.append_assoc, List.getElem?_append_left (by simp; omega), List.getElem?_take, if_pos hq3]; simp [hlen2]
           ·rw [List.getElem?_append_right (by simp; omega), List.getElem?_drop];simp only [List.length_append, List.length_take];rw [show i.n e.opq + (p'.s e.opq).length + (q - off - (Nat.min (i.n e.opq) ((segE L).s e.opq).length + (p'.s e.opq).length)) = q - off by
             rw [show Nat.min (i.n e.opq) ((segE L).s e.opq).length = i.n e.opq from Nat.min_eq_left (by omega)]; omega]
            simp [hlen2]
          simp only [VR];rw [hi2]; exact ⟨rfl, hr2⟩
        ·rw [if_neg hr] at hv;obtain ⟨a, f1, f2⟩ := hR.cell q v hv;refine ⟨a, ?_, f2⟩;rw [hout q (by
          intro hw;have : 0 < L.length := by omega
          omega)]
         exact f1
       ·obtain ⟨t1, t2⟩ := hR.tail kq h1 h2;refine ⟨?_, by rw [hls]; exact t2⟩;have : cur'.toList.drop b.size = arr.toList.drop b.size := by
         apply List.ext_getElem?;intro q;rw [List.getElem?_drop, List.getElem?_drop, Array.getElem?_toList, Array.getElem?_toList, hout];intro hw;have hpos : 0 < L.length := by omega
         have := hlim hpos;omega
        simp only [this];exact t1
      ·have hlen : (Builtin.lenOf x').run P w = .ok (n.n e.opq) w := a3 w;simp [Builtin.copy_, run_underlying ht, hlen, sizeOf, typeInfo, hi, b1, ← hc2, hcells, hst, goInt, hcnn]
     ·cases k
    ·cases k
   ·cases k
  ·cases k
 ·cases k

def copyX (P : Program) (A : Ask) (s : St) (t : TypeId) (d x : AV) : Option (AV × St) := match copyS P A s t d x with
 | some r => some r
 | none => copyC P A s t d x
theorem copyX_run {P : Program} {Ω : Om} {w0 : Base} {A : Ask} (hA : AskOK Ω A) {e : Env} {s s' : St} {w : World} {t u ty : TypeId} {d x v : AV} (k : copyX P A s t d x = some (v, s')) (h : Rel Ω w0 e s w) {d' x' : Value} (hd : VR e d d') (hx : VR e x x') :
  ∃ e' y w', e.le e' ∧ VR e' v y ∧ Rel Ω w0 e' s' w' ∧ (Builtin.copy_ #[t, u] ty #[d', x']).run P w = .ok y w' := by
 unfold copyX at k;split at k
 ·rename_i r h1;simp only [sme] at k;subst k;exact copyS_run hA h1 h hd hx
 ·exact copyC_run hA k h hd hx

theorem zeroCells_app (z : Array Value) (n m : Nat) : Builtin.zeroCells z n ++ Builtin.zeroCells z m = Builtin.zeroCells z (n + m) := by
 apply Array.ext
 ·simp [Builtin.zeroCells, Nat.add_mul]
 ·intro i h1 h2;simp only [Builtin.zeroCells, Array.getElem_append, Array.size_map, Array.size_range, Array.getElem_map, Array.getElem_range] at h1 h2 ⊢;split
  ·rfl
  ·rename_i h;have : i = (i - n * z.size) + n * z.size := by omega
   rw [show i % z.size = (i - n * z.size) % z.size by
    conv => lhs; rw [this]
    rw [Nat.add_mul_mod_self_right]]

theorem run_append_zeros {P : Program} {w : World} {t u ty el : TypeId} {inf : TypeInfo} {kk : IntKind} {z : Value} (ht : P.underlying t = some (.slice el)) (hi : P.info? el = some inf) (hz : inf.zero = some z) (hu : P.underlying u = some (.int kk))
  {k : IntKind} {n : Nat} (h0 : 0 < n) (hs : 0 < inf.size) (h62 : n ≤ 4611686018427387904) (hb : 2 * n * inf.bytes ≤ 281474976710656) :
  (Builtin.append_ #[t, u] ty #[.slice none 0 0, .int k (n : Int)]).run P w = .ok (.slice (some ⟨w.heap.size, 0, none⟩) n (grownCap w n 0 el))
   (w.drew.alloc (.cells (Builtin.zeroCells z.cells n ++ Builtin.zeroCells z.cells (grownCap w n 0 el - n)) el)) := by
 have hw : IntKind.i64.wrap (n : Int) = n := wrap_fit (by simp [IntKind.min, IntKind.max, IntKind.signed, IntKind.bits]; omega);have h1 : ¬ ((9223372036854775807 : Int) < (n : Int)) := by omega
 have hfit := growslice_fits2 (need := n) (old := 0) (bytes := inf.bytes) h0 hb;have h2 : ¬ (281474976710656 < Builtin.nextslicecap n 0 * inf.bytes) := by omega
 have h3 : ¬ ((281474976710656 : Int) < (n : Int) * (inf.bytes : Int)) := by
  have : (n : Int) * (inf.bytes : Int) = ((n * inf.bytes : Nat) : Int) := by simp
  rw [this];have : 2 * n * inf.bytes = 2 * (n * inf.bytes) := by rw [Nat.mul_assoc]
  omega
 have h4 : ¬ n * inf.size = 0 := by
  intro h;rcases Nat.mul_eq_zero.1 h with h | h <;> omega
 have h5 : ¬ n ≤ 0 := by omega
 have h6 : ¬ ((n : Int) < 0) := by omega
 have h7 : ¬ n = 0 := by omega
 have h8 : ¬ inf.size = 0 := by omega
 simp [Builtin.append_, run_underlying ht, run_underlying hu, sizeOf, typeInfo, zeroValue, hi, hz, asInt, asIntOf, hw, h1, h2, h3, h4, h5, h6, h7, h8, Question.forced, newRow, grownCap, Builtin.firstCells]

def growS (P : Program) (A : Ask) (s : St) (t u : TypeId) (d x : AV) : Option (AV × St) :=
 match P.underlying t, P.underlying u, d with
 | some (.slice el), some (.int _), .nilslice => match P.info? el with
  | some inf => match inf.zero with
   | some z => match x with
    | .int _ n => match ofVal 8 z with
     | some za => match decide (0 < n ∧ 2 * n.toNat * inf.bytes ≤ 281474976710656 ∧ n ≤ 4611686018427387904) && !za.isOpq && Nat.blt 0 inf.size && Nat.beq za.cells.length inf.size with
      | true => some (.slice s.nid 0 n.toNat n.toNat true, s.new ⟨el, n.toNat * inf.size, inf.size, true, false, za.cells, .nil, tkOf z⟩)
      | false => none
     | none => none
    | .sint _ n => match z with
     | .int k 0 => match Nat.beq inf.size 1 && Nat.blt 0 inf.bytes && ltB A (.int 0) n && leB A ((E.int (2 * inf.bytes)).mul n) (.int 281474976710656) with
      | true => some (.sslice s.nid (.int 0) n n true, s.newO (.seq ⟨el, k, n, .bi .rep n (.int 0), true, false⟩))
      | false => none
     | _ => none
    | _ => none
   | none => none
  | none => none
 | _, _, _ => none

theorem growS_run {P : Program} {Ω : Om} {w0 : Base} {A : Ask} (hA : AskOK Ω A) {e : Env} {s s' : St} {w : World} {t u ty : TypeId} {d x v : AV} (k : growS P A s t u d x = some (v, s')) (h : Rel Ω w0 e s w) {d' x' : Value} (hd : VR e d d') (hx : VR e x x') :
  ∃ e' y w', e.le e' ∧ VR e' v y ∧ Rel Ω w0 e' s' w' ∧ (Builtin.append_ #[t, u] ty #[d', x']).run P w = .ok y w' := by
 obtain rfl := h.opq;unfold growS at k;split at k
 ·rename_i el kk ht hu;simp only [VR] at hd;subst hd;split at k
  ·rename_i inf hi;split at k
   ·rename_i z hz;split at k
    ·rename_i k1 n;simp only [VR] at hx;subst hx;split at k
     ·rename_i za hza;split at k
      ·rename_i hc;simp only [bae, Bool.not_eq_true', decide_eq_true_eq] at hc;obtain ⟨⟨⟨⟨c1, c2, c3⟩, c4⟩, c5⟩, c6⟩ := hc;have c5 : 0 < inf.size := by simpa [Nat.blt_eq] using c5
       have c6 := beq_t c6;simp only [sme, pme] at k;obtain ⟨rfl, rfl⟩ := k;have hn : ((n.toNat : Nat) : Int) = n := by omega
       have hrun := run_append_zeros (w := w) (ty := ty) (k := k1) (n := n.toNat) ht hi hz hu (by omega) c5 (by omega) c2;rw [hn] at hrun;have hge := grownCap_ge w n.toNat 0 el;have hle := Env.le_new (s := s) (h.fresh s.next (Nat.le_refl _)) w.heap.size (grownCap w n.toNat 0 el - n.toNat);have hv0 : VRs (e.new s w.heap.size (grownCap w n.toNat 0 el - n.toNat)) za.cells z.cells.toList := (ofVal_vr _ _ _ hza).cells c4;have hl0 := hv0.length;simp only [Array.length_toList] at hl0;rw [zeroCells_app] at hrun;have hcell : ∀ i v, (AB.mk el (n.toNat * inf.size) inf.size true false za.cells .nil (tkOf z)).at i = some v → ∃ x, (Builtin.zeroCells z.cells (n.toNat + (grownCap w n.toNat 0 el - n.toNat)))[i]? = some x ∧ VR (e.new s w.heap.size (grownCap w n.toNat 0 el - n.toNat)) v x := by
        intro i v hv;unfold AB.at at hv;split at hv
        ·rename_i hlt;have hlt : i < n.toNat * inf.size := by simpa [Nat.blt_eq] using hlt
         simp only [T.get_nil] at hv;obtain ⟨xx, hxx, hvr⟩ := hv0.at _ _ hv;refine ⟨xx, ?_, hvr⟩;have h3 : z.cells[i % z.cells.size]! = xx := by
          rw [hl0];have : z.cells[i % za.cells.length]? = some xx := by simpa using hxx
          simp [getElem!_def, this]
         have hsz : i < (n.toNat + (grownCap w n.toNat 0 el - n.toNat)) * z.cells.size := by
          rw [hl0, c6];exact Nat.lt_of_lt_of_le hlt (Nat.mul_le_mul_right _ (by omega))
         simp [Builtin.zeroCells, hsz, h3]
        ·cases hv
       obtain ⟨hle, hrel⟩ := h.drew.alloc ⟨el, n.toNat * inf.size, inf.size, true, false, za.cells, .nil, tkOf z⟩ (grownCap w n.toNat 0 el - n.toNat) (arr := Builtin.zeroCells z.cells (n.toNat + (grownCap w n.toNat 0 el - n.toNat))) ⟨by
        rw [zeroCells_len, hl0, c6];simp [Env.new, Env.newB, Nat.add_mul], hcell, fun off _ => by omega, fun _ => rfl, (fun x => by cases x), fun kx hk _ => ⟨(typed_zero hk _).drop _, by
        have h5 := grownCap_le_maxLen w n.toNat 0 el (by simp only [maxLen]; omega);simp only [maxLen] at h5;have h6 : z.cells.size = 1 := by
         have hk' : tkOf z = some kx := hk;unfold tkOf at hk';split at hk'
         ·rfl
         ·cases hk'
        rw [zeroCells_len, h6];omega⟩⟩
       refine ⟨_, _, _, hle, ?_, hrel, hrun⟩;simp only [VR];exact ⟨w.heap.size, by simp [Env.new, Env.newB], by simp [Env.new, Env.newB]; omega⟩
      ·cases k
     ·cases k
    ·rename_i k1 n;simp only [VR] at hx;obtain ⟨rfl, _⟩ := hx;split at k
     ·rename_i k2;split at k
      ·rename_i hc;simp only [bae] at hc;obtain ⟨⟨⟨c1, c2⟩, c3⟩, c4⟩ := hc;have c1 := beq_t c1;have c2 : 0 < inf.bytes := by simpa [Nat.blt_eq] using c2
       have c3 := ltB_val hA c3;have c4 := leB_val hA c4;rw [E.mul_i] at c4;simp only [E.i, E.den, D.toInt_int] at c3 c4;simp only [sme, pme] at k;obtain ⟨rfl, rfl⟩ := k;have hnn : ((n.n e.opq : Nat) : Int) = n.i e.opq := by have := n_of_i (Ω := e.opq) (x := n) (by simp only [E.i]; omega); simp only [E.i] at this ⊢; omega
       have hfit : 2 * n.n e.opq * inf.bytes ≤ 281474976710656 := by
        have e1 : ((2 * n.n e.opq * inf.bytes : Nat) : Int) = 2 * (inf.bytes : Int) * (n.i e.opq) := by
         rw [← hnn]; simp only [Int.natCast_mul]; rw [Int.mul_assoc, Int.mul_comm (n.n e.opq : Int), ← Int.mul_assoc]; rfl
        have e2 : 2 * (inf.bytes : Int) * (n.i e.opq) ≤ 281474976710656 := c4;omega
       have hpos : 0 < n.n e.opq := by simp only [E.i] at hnn; omega
       have hsm : 2 * n.n e.opq ≤ 281474976710656 := Nat.le_trans (Nat.le_mul_of_pos_right _ c2) hfit;have hrun := run_append_zeros (w := w) (ty := ty) (k := k1) (n := n.n e.opq) ht hi hz hu hpos (by omega) (by omega) hfit;rw [hnn] at hrun;have hge := grownCap_ge w (n.n e.opq) 0 el;have hcells : ∀ m, (Builtin.zeroCells (Value.int k2 0).cells m).toList = List.replicate m (Value.int k2 0) := by
        intro m;apply List.ext_getElem
        ·simp [Builtin.zeroCells, Value.cells]
        ·intro i h1 h2;simp [Builtin.zeroCells, Value.cells, Nat.mod_one]
       obtain ⟨hle, hrel⟩ := h.drew.newO (w' := w.drew.alloc (.cells (Builtin.zeroCells (Value.int k2 0).cells (n.n e.opq) ++ Builtin.zeroCells (Value.int k2 0).cells (grownCap w (n.n e.opq) 0 el - n.n e.opq)) el)) (.seq ⟨el, k2, n, .bi .rep n (.int 0), true, false⟩) w.heap.size (grownCap w (n.n e.opq) 0 el - n.n e.opq) 0 (h.drew.below.alloc _)
        ⟨Base.mine_new h.below, by simp [Env.newB], _, (0, 0), heap_alloc_new w.drew _, ⟨by
          simp only [Env.newB, rep_s, List.length_replicate];exact hnn.symm, by
          intro c hc;simp only [Env.newB, rep_s] at hc;rw [List.eq_of_mem_replicate hc];exact zero_in k2,
         ⟨(Builtin.zeroCells (Value.int k2 0).cells (grownCap w (n.n e.opq) 0 el - n.n e.opq)).toList, by
           simp only [Env.newB, rep_s, Array.toList_append, hcells, List.map_replicate];rfl, by simp [Env.newB, zeroCells_len, Value.cells], typed_zero rfl _, fun _ => by
           have h5 := grownCap_le_maxLen w (n.n e.opq) 0 el (by simp only [maxLen]; omega);simp only [maxLen] at h5;simp [zeroCells_len, Value.cells];omega⟩, fun off _ => by omega, fun _ => rfl, fun x => by cases x⟩⟩
        (fun id o hid j hj => have := h.drew.loc_lt hid hj; ⟨by simp at this; omega, heap_alloc_old w.drew _ j this⟩) (fun j _ hj => heap_alloc_old w.drew _ j (h.drew.pool_lt hj)) (fun _ => h.drew.pool_new (Nat.le_refl _))
       refine ⟨_, _, _, hle, ?_, hrel, hrun⟩;simp only [VR];refine ⟨w.heap.size, 0, by simp [Env.newB], ?_, ?_, ?_, ?_, ?_⟩
       ·simp only [Env.newB, if_true];congr 1;omega
       ·intro _; simp [Env.newB, E.n, E.den, D.nat]
       ·simp only [Env.newB]; simp only [E.i] at hnn ⊢; omega
       ·exact Int.le_refl 0
       ·exact Int.le_refl _
      ·cases k
     ·cases k
    ·cases k
   ·cases k
  ·cases k
 ·cases k

def actS (P : Program) (A : Ask) (t : T AV) (s : St) (o : Oper) : Option Res :=
 match o.op with
 | .makeSlice ty l c => match evalO t l, evalO t c with
  | some l, some c => ofPair (makeS P A s ty l c)
  | _, _ => none
 | .store ty a x => match evalO t a, evalO t x with
  | some a, some x => (storeX P A s ty a x).map .skip
  | _, _ => none
 | .convert src dst x => match evalO t x with
  | some v => ofPair (bytesS P A s src dst v)
  | none => none
 | .call { callee := .builtin .append, args := args, argTypes := tys } => match args.toList, tys.toList with
  | [x, y], [ty, u] => match evalO t x, evalO t y with
   | some a, some b => match appendS P A s ty u a b with
    | some p => ofPair (some p)
    | none => ofPair (growS P A s ty u a b)
   | _, _ => none
  | _, _ => none
 | .call { callee := .builtin .copy, args := args, argTypes := tys } => match args.toList, tys.toList with
  | [x, y], [ty, _] => match evalO t x, evalO t y with
   | some a, some b => ofPair (copyX P A s ty a b)
   | _, _ => none
  | _, _ => none
 | .binOp op _ x y _ => match evalO t x, evalO t y with
  | some a, some b => match toF a, toF b with
   | some p, some q => match isArithF op, askQ A (.le (.int 0) (.bi (.fop op) p q)) with
    | true, some false => some (.val (.nan .f64) s)
    | _, _ => none
   | _, _ => none
  | _, _ => none
 | _ => none

theorem drawF {e : Env} {P : Program} {op : BinOp} (ho : isArithF op = true) {b c : Nat} (h : fopI op (nrmI b) (nrmI c) < 0) (xT : TypeId) (x y : Operand) (w : World) :
  ∃ z w', VR e (.nan .f64) z ∧ (w' = w ∨ w' = w.drew) ∧ (do eqGuard op xT x y (.float .f64 b) (.float .f64 c); binOp op xT (.float .f64 b) (.float .f64 c) : Sem Value).run P w = .ok z w' := by
 have hcase : (∃ z, fbinN op b c = some z ∧ (Ieee.double.read z).isNaN = true) ∨ fbinN op b c = none := by
  by_cases h0 : nrmI b < 0 ∨ nrmI c < 0
  ·right;have hn : (FloatKind.format .f64 |>.read b).isNaN = true ∨ (FloatKind.format .f64 |>.read c).isNaN = true := by
    rcases h0 with h0 | h0
    ·rcases nrmI_or b with ⟨_, h⟩ | ⟨h, _⟩
     ·exact .inl h
     ·omega
    ·rcases nrmI_or c with ⟨_, h⟩ | ⟨h, _⟩
     ·exact .inr h
     ·omega
   have := arith_nan (op := op) (by cases op <;> simp_all [isArith, isArithF]) hn;cases op <;> simp only [arithF, reduceCtorEq, sme] at this <;> exact this
  ·rw [nrmI_nat (b := b) (by omega), nrmI_nat (b := c) (by omega), fopI_nat] at h;cases hz : fbinN op b c with
   | none => exact .inr rfl
   | some z =>
    rw [hz] at h;refine .inl ⟨z, rfl, ?_⟩;rcases nrmI_or z with ⟨_, h5⟩ | ⟨h4, _⟩
    ·exact h5
    ·simp only at h; omega
 rcases hcase with ⟨z, h1, h2⟩ | h1
 ·refine ⟨.float .f64 z, w, by simp only [VR]; exact ⟨z, rfl, h2⟩, .inl rfl, ?_⟩;rw [fbinN_bits] at h1;rw [Sem.run_bind, eqGuard_float, Result.andThen_ok, run_float_arith w op xT .f64 b c z h1]
 ·refine ⟨.float .f64 ((Question.nanBits .f64 b c).cut (w.tape w.drawn (.nanBits .f64 b c))), w.drew, by simp only [VR]; exact ⟨_, rfl, drawn_nan _ _ _ _⟩, .inr rfl, ?_⟩;have hd : FloatKind.format .f64 = Ieee.double := rfl;cases op <;> simp only [isArithF, Bool.false_eq_true] at ho <;> simp only [fbinN] at h1 <;>
   simp [eqGuard, binOp, Op.floatArith, hd, h1, Question.forced]

theorem actS_run {P : Program} {Ω : Om} {w0 : Base} {A : Ask} (hA : AskOK Ω A) {e : Env} {t : T AV} {a : Act} (h : FT e t a) {s : St} {w : World} (hr : Rel Ω w0 e s w) {o : Oper} {r : Res} (k : actS P A t s o = some r)
  (K : Act → World → Prop) (Q : Exit → Act → World → Prop) (H : ResPost Ω w0 e o a K Q w r) : o.wp P a w K Q := by
 have pair : ∀ (p : Option (AV × St)) (m : Sem Value), ofPair p = some r → (∀ v s', p = some (v, s') → ∃ e' x w', e.le e' ∧ VR e' v x ∧ Rel Ω w0 e' s' w' ∧ m.run P w = .ok x w') →
   (∀ x w', m.run P w = .ok x w' → (execOp a.eval o).run P w = .ok (.value x) w') → o.wp P a w K Q := by
  intro p m k h1 h2;cases p with
  | none => cases k
  | some p =>
   obtain ⟨v, s'⟩ := p;simp only [ofPair, sme] at k;subst k;obtain ⟨e', x, w', f1, f2, f3, f4⟩ := h1 v s' rfl;simp only [Oper.wp, h2 x w' f4, Oper.upon_value];exact H e' x w' f1 f2 f3
 unfold actS at k;split at k;case h_1 ty l c hop =>
  split at k
  ·rename_i l' c' hl hcc;exact pair _ _ k (fun v s' hp => makeS_run hA hp hr (evalO_vr h hl) (evalO_vr h hcc)) (fun x w' hm => by simp only [execOp, hop, Sem.run_bind, hm, Result.andThen_ok, Sem.run_pure])
  ·cases k
 case h_2 ty ad x hop =>
  split at k
  ·rename_i ad' x' hl hx;simp only [Option.map_eq_some_iff] at k;obtain ⟨s', hs, rfl⟩ := k;obtain ⟨w', hrel, hrun⟩ := storeX_run hA hs hr (evalO_vr h hl) (evalO_vr h hx);simp only [Oper.wp, execOp, hop, Sem.run_bind, hrun, Result.andThen_ok, Sem.run_pure, Oper.upon_skip];exact H e w' (Env.le_refl e) hrel
  ·cases k
 case h_3 src dst x hop =>
  split at k
  ·rename_i v hv;exact pair _ _ k (fun v s' hp => bytesS_run hA hp hr (evalO_vr h hv)) (fun x w' hm => by simp only [execOp, hop, Sem.run_bind, hm, Result.andThen_ok, Sem.run_pure])
  ·cases k
 case h_4 args tys hop =>
  split at k
  ·rename_i x y ty u ha ht;split at k
   ·rename_i a' b' hx hy;have last : ∀ (z : Value) (w' : World), (Builtin.append_ #[ty, u] o.type #[a.eval x, a.eval y]).run P w = .ok z w' → (execOp a.eval o).run P w = .ok (.value z) w' := fun z w' hm => by
     simp only [execOp, hop, resolve, invoke, Sem.run_bind, Sem.run_pure, Result.andThen_ok, builtin, toList_two' ha, toList_two' ht];simp [hm]
    split at k
    ·rename_i p hp0;exact pair _ (Builtin.append_ #[ty, u] o.type #[a.eval x, a.eval y]) k (fun v s' hp => by
      simp only [sme] at hp;subst hp;exact appendS_run hA hp0 hr (evalO_vr h hx) (evalO_vr h hy)) last
    ·exact pair _ (Builtin.append_ #[ty, u] o.type #[a.eval x, a.eval y]) k (fun v s' hp => growS_run hA hp hr (evalO_vr h hx) (evalO_vr h hy)) last
   ·cases k
  ·cases k
 case h_5 args tys hop =>
  split at k
  ·rename_i x y ty u ha ht;split at k
   ·rename_i a' b' hx hy;exact pair _ (Builtin.copy_ #[ty, u] o.type #[a.eval x, a.eval y]) k (fun v s' hp => copyX_run hA hp hr (evalO_vr h hx) (evalO_vr h hy)) (fun z w' hm => by
     simp only [execOp, hop, resolve, invoke, Sem.run_bind, Sem.run_pure, Result.andThen_ok, builtin, toList_two' ha, toList_two' ht];simp [hm])
   ·cases k
  ·cases k
 case h_6 op xT x y yT hop =>
  split at k
  ·rename_i a' b' hx hy;split at k
   ·rename_i p q hp hq;split at k
    ·rename_i ho hask;simp only [sme] at k;subst k;obtain ⟨b, e1, g1, _⟩ := toF_val hp (evalO_vr h hx);obtain ⟨c, e2, g2, _⟩ := toF_val hq (evalO_vr h hy);have h0 : ¬ (0 : Int) ≤ (E.bi (.fop op) p q).i e.opq := of_decide_eq_false (askQ_val (by rw [hr.opq]; exact hA) hask);have e3 : (E.bi (.fop op) p q).i e.opq = fopI op (nrmI b) (nrmI c) := by
      show fopI op (p.i e.opq) (q.i e.opq) = _;rw [g1, g2]
     rw [e3] at h0;have h0' : fopI op (nrmI b) (nrmI c) < 0 := by omega
     obtain ⟨z, w', h1, h2, h3⟩ := drawF (e := e) (P := P) ho h0' xT x y w;have hrun : (execOp a.eval o).run P w = .ok (.value z) w' := by
      simp only [execOp, hop, e1, e2];rw [Sem.run_bind, h3];rfl
     simp only [Oper.wp, hrun, Oper.upon_value];refine H e z _ (Env.le_refl e) h1 ?_;rcases h2 with rfl | rfl
     ·exact hr
     ·exact hr.drew
    ·cases k
   ·cases k
  ·cases k
 case h_7 => cases k

def actB0 (P : Program) (A : Ask) (call : Caller) (t : T AV) (s : St) (o : Oper) : Option Res :=
 match actA P call t s o with
 | some r => some r
 | none => actS P A t s o

theorem actB0_run {P : Program} (S : Sound P) {Ω : Om} {w0 : Base} {call : Caller} (hc : CallOK P Ω w0 call) {A : Ask} (hA : AskOK Ω A) {e : Env} {t : T AV} {a : Act} (h : FT e t a) {s : St} {w : World} (hr : Rel Ω w0 e s w) {o : Oper} {r : Res} (k : actB0 P A call t s o = some r)
  (K : Act → World → Prop) (Q : Exit → Act → World → Prop) (H : ResPost Ω w0 e o a K Q w r) : o.wp P a w K Q := by
 unfold actB0 at k;split at k
 ·rename_i r' hr';simp only [sme] at k;subst k;exact actA_run S hc h hr hr' K Q H
 ·exact actS_run hA h hr k K Q H

end Go.Ev
