/- Rows of values: append, store. No condition. -/
import Derived.Test.YtidpndnehbhloaaDoorSyr
namespace Go.Ev
open Go.RowKit

def recE : List E → E → E
 | [], r => r
 | a :: l, r => recE l (.bi .snoc r a)
theorem recE_den (Ω : Om) : ∀ (l : List E) (r : E), ((recE l r).den Ω).toList = (r.den Ω).toList ++ l.map (E.den Ω)
 | [], r => by simp [recE]
 | a :: l, r => by
  rw [recE, recE_den Ω l];simp [E.den, BO.den, D.toList_list]

mutual
def shC : Sh → List AV → Option (E × List AV)
 | .int k, l => match l with
  | v :: r => match toE v with
   | some (k', x) => match decide (k' = k) with
    | true => some (x, r)
    | false => none
   | none => none
  | [] => none
 | .bool, l => match l with
  | .bool b :: r => some (.int (if b then 1 else 0), r)
  | _ => none
 | .str, l => match l with
  | v :: r => match toS v with
   | some (_, x) => some (x, r)
   | none => none
  | [] => none
 | .sl s, l => match l with
  | .pv s' x :: r => match s'.beq s with
   | true => some (x, r)
   | false => none
  | .nilslice :: r => some (.lits [], r)
  | .hollow :: r => some (.lits [], r)
  | .empty :: r => some (.lits [], r)
  | _ => none
 | .agg m, l => match shCs m l with
  | some (es, r) => some (recE es (.lits []), r)
  | none => none
def shCs : List Sh → List AV → Option (List E × List AV)
 | [], l => some ([], l)
 | s :: m, l => match shC s l with
  | some (x, r) => match shCs m r with
   | some (es, r') => some (x :: es, r')
   | none => none
  | none => none
end

theorem VRs.split {e : Env} {v : AV} {l : List AV} {c : List Value} (h : VRs e (v :: l) c) : ∃ x r, c = [x] ++ r ∧ VR e v x ∧ VRs e l r := by
 simp only [VRs] at h;obtain ⟨x, r, rfl, h1, h2⟩ := h;exact ⟨x, r, rfl, h1, h2⟩

mutual
theorem shC_ok {e : Env} : ∀ {s : Sh} {l : List AV} {x : E} {r : List AV}, shC s l = some (x, r) → ∀ {c : List Value}, VRs e l c → ∃ c1 c2, c = c1 ++ c2 ∧ PC e.h s (x.den e.opq) c1 ∧ VRs e r c2
 | .int k, l, x, r, h, c, hc => by
  simp only [shC] at h;split at h
  ·rename_i v r';split at h
   ·rename_i k' y hy;split at h
    ·rename_i hk;have hk := of_decide_eq_true hk;subst hk;simp only [sme, pme] at h;obtain ⟨rfl, rfl⟩ := h;obtain ⟨a, q, rfl, h1, h2⟩ := hc.split;obtain ⟨rfl, h3⟩ := toE_val hy h1;exact ⟨_, _, rfl, by simp only [PC]; exact ⟨rfl, h3⟩, h2⟩
    ·cases h
   ·cases h
  ·cases h
 | .bool, l, x, r, h, c, hc => by
  simp only [shC] at h;split at h
  ·rename_i b r';simp only [sme, pme] at h;obtain ⟨rfl, rfl⟩ := h;obtain ⟨a, q, rfl, h1, h2⟩ := hc.split;simp only [VR] at h1;subst h1;refine ⟨_, _, rfl, ?_, h2⟩;simp only [PC, E.den, D.toInt_int];cases b <;> simp
  ·cases h
 | .str, l, x, r, h, c, hc => by
  simp only [shC] at h;split at h
  ·rename_i v r';split at h
   ·rename_i n y hy;simp only [sme, pme] at h;obtain ⟨rfl, rfl⟩ := h;obtain ⟨a, q, rfl, h1, h2⟩ := hc.split;obtain ⟨rfl, _, h3⟩ := toS_val hy h1;exact ⟨_, _, rfl, by simp only [PC]; exact ⟨rfl, h3⟩, h2⟩
   ·cases h
  ·cases h
 | .sl s, l, x, r, h, c, hc => by
  simp only [shC] at h;have nil : ∀ a : Value, (a = .slice none 0 0 ∨ ∃ ad cp, a = .slice (some ad) 0 cp) → PC e.h (.sl s) ((E.lits []).den e.opq) [a] := fun a ha => by
   simp only [PC];exact ⟨a, rfl, .inl ⟨by simp [E.den, D.ofInts], ha⟩⟩
  split at h
  ·rename_i s' y r';split at h
   ·rename_i hs;have hs := Sh.beq_eq hs;subst hs;simp only [sme, pme] at h;obtain ⟨rfl, rfl⟩ := h;obtain ⟨a, q, rfl, h1, h2⟩ := hc.split;simp only [VR] at h1;exact ⟨_, _, rfl, h1, h2⟩
   ·cases h
  ·simp only [sme, pme] at h;obtain ⟨rfl, rfl⟩ := h;obtain ⟨a, q, rfl, h1, h2⟩ := hc.split;simp only [VR] at h1;exact ⟨_, _, rfl, nil a (.inl h1), h2⟩
  ·simp only [sme, pme] at h;obtain ⟨rfl, rfl⟩ := h;obtain ⟨a, q, rfl, h1, h2⟩ := hc.split;simp only [VR] at h1;exact ⟨_, _, rfl, nil a (.inr h1), h2⟩
  ·simp only [sme, pme] at h;obtain ⟨rfl, rfl⟩ := h;obtain ⟨a, q, rfl, h1, h2⟩ := hc.split;simp only [VR] at h1;exact ⟨_, _, rfl, nil a h1, h2⟩
  ·cases h
 | .agg m, l, x, r, h, c, hc => by
  simp only [shC] at h;split at h
  ·rename_i es r' hes;simp only [sme, pme] at h;obtain ⟨rfl, rfl⟩ := h;obtain ⟨c1, c2, rfl, h1, h2⟩ := shCs_ok hes hc;refine ⟨c1, c2, rfl, ?_, h2⟩;simp only [PC];rw [recE_den];simpa [E.den, D.ofInts] using h1
  ·cases h
theorem shCs_ok {e : Env} : ∀ {m : List Sh} {l : List AV} {es : List E} {r : List AV}, shCs m l = some (es, r) → ∀ {c : List Value}, VRs e l c → ∃ c1 c2, c = c1 ++ c2 ∧ PCs e.h m (es.map (E.den e.opq)) c1 ∧ VRs e r c2
 | [], l, es, r, h, c, hc => by
  simp only [shCs, sme, pme] at h;obtain ⟨rfl, rfl⟩ := h;exact ⟨[], c, rfl, by simp [PCs], hc⟩
 | s :: m, l, es, r, h, c, hc => by
  simp only [shCs] at h;split at h
  ·rename_i x r' hx;split at h
   ·rename_i es' r'' hes;simp only [sme, pme] at h;obtain ⟨rfl, rfl⟩ := h;obtain ⟨c1, c2, rfl, h1, h2⟩ := shC_ok hx hc;obtain ⟨c3, c4, rfl, h3, h4⟩ := shCs_ok hes h2;exact ⟨c1 ++ c3, c4, by simp, by simp only [PCs]; exact ⟨_, _, c1, c3, rfl, rfl, h1, h3⟩, h4⟩
   ·cases h
  ·cases h
end

mutual
theorem PC.ones {h : Pool} : ∀ (s : Sh) (d : D) (c : List Value), PC h s d c → ∀ v ∈ c, v.oneCell' = true
 | .int k, d, c, hc, v, hv => by simp only [PC] at hc; rw [hc.1] at hv; simp only [List.mem_singleton] at hv; subst hv; rfl
 | .bool, d, c, hc, v, hv => by simp only [PC] at hc; rw [hc] at hv; simp only [List.mem_singleton] at hv; subst hv; rfl
 | .str, d, c, hc, v, hv => by simp only [PC] at hc; rw [hc.1] at hv; simp only [List.mem_singleton] at hv; subst hv; rfl
 | .sl s, d, c, hc, v, hv => by
  simp only [PC] at hc;obtain ⟨a, rfl, hc⟩ := hc;simp only [List.mem_singleton] at hv;subst hv;rcases hc with ⟨_, rfl | ⟨ad, cp, rfl⟩⟩ | ⟨b, o, cp, arr, rfl, _⟩ <;> rfl
 | .agg l, d, c, hc, v, hv => by simp only [PC] at hc; exact PCs.ones l _ _ hc v hv
theorem PCs.ones {h : Pool} : ∀ (l : List Sh) (ds : List D) (c : List Value), PCs h l ds c → ∀ v ∈ c, v.oneCell' = true
 | [], ds, c, hc, v, hv => by simp only [PCs] at hc; rw [hc.2] at hv; simp at hv
 | s :: l, ds, c, hc, v, hv => by
  simp only [PCs] at hc;obtain ⟨d, r, c1, c2, rfl, rfl, h1, h2⟩ := hc;rcases List.mem_append.1 hv with hv | hv
  ·exact PC.ones s _ _ h1 v hv
  ·exact PCs.ones l _ _ h2 v hv
end

def St.vseqW (s : St) (id : Nat) : Option VB := match s.heap.get id with
 | some (.vseq q) => some q
 | _ => none
theorem St.vseqW_some {s : St} {id : Nat} {q : VB} (h : s.vseqW id = some q) : s.heap.get id = some (.vseq q) := by
 unfold St.vseqW at h;split at h
 ·rename_i q' hq;simp only [sme] at h;rw [hq, h]
 ·cases h

def appendV (P : Program) (A : Ask) (s : St) (t u : TypeId) (d x : AV) : Option (AV × St) :=
 match P.underlying t, P.underlying u with
 | some (.slice _), some (.int _) => none
 | some (.slice el), some _ => match P.info? el with
  | some inf => match inf.zero with
   | some zv => match d with
    | .vslice id z (.int 0) len cap opn => match s.vseqW id with
     | some q => match Nat.beq z q.s.size && Nat.beq inf.size z && Nat.blt 0 inf.bytes && Nat.beq q.elem el && len.beq q.n && cap.beq q.n && (opn == q.opn) && Nat.beq zv.cells.size z with
      | true => match srcA { s.mem with ask := A } z x with
       | some (1, l) => match shC q.s l with
        | some (y, []) => match leB A ((E.int (2 * inf.bytes)).mul (q.n.add (.int 1))) (.int 281474976710656) with
         | true => some (.vslice s.nid z (.int 0) (q.n.add (.int 1)) (q.n.add (.int 1)) true, (s.del id).newO (.vseq ⟨el, q.s, q.n.add (.int 1), .bi .snoc q.x y, true⟩))
         | false => none
        | _ => none
       | _ => none
      | false => none
     | none => none
    | _ => none
   | none => none
  | none => none
 | _, _ => none

theorem VSeqR.snoc {e e' : Env} {id nid : Nat} {q : VB} {arr : Array Value} (R : VSeqR e id q arr) (ho : e'.opq = e.opq) (hp : Pool.le e.h e'.h) {el : TypeId} {y : E} {c : List Value} (hc : PC e'.h q.s (y.den e'.opq) c) {cur : Array Value} {sp : Nat}
  (hs : e'.spare nid = sp) {tail : List Value} (hcur : cur.toList = arr.toList.take ((q.x.den e.opq).toList.length * q.s.size) ++ c ++ tail) (ht : tail.length = sp * q.s.size) :
  VSeqR e' nid ⟨el, q.s, q.n.add (.int 1), .bi .snoc q.x y, true⟩ cur := by
 have hden : ((E.bi .snoc q.x y).den e'.opq).toList = (q.x.den e.opq).toList ++ [y.den e.opq] := by
  rw [ho]; simp only [E.den, BO.den, D.toList_list]
 have hl := PC.length _ _ _ hc;have hsz := R.size;have hlen : (arr.toList.take ((q.x.den e.opq).toList.length * q.s.size)).length = (q.x.den e.opq).toList.length * q.s.size := by
  rw [List.length_take]; simp; omega
 refine ⟨?_, ?_, ?_⟩
 ·show (q.n.add (.int 1)).i e'.opq = _;rw [hden, E.add_i, ho, R.n, List.length_append];simp [E.i, E.den]
 ·have h1 := congrArg List.length hcur;rw [List.length_append, List.length_append, hlen, hl, ht] at h1;simp only [if_pos];rw [hden, List.length_append, hs, Nat.add_mul, List.length_singleton, Nat.one_mul];simpa using h1
 ·intro j d hj;simp only at hj ⊢;rw [hden] at hj;by_cases hlt : j < (q.x.den e.opq).toList.length
  ·rw [List.getElem?_append_left hlt] at hj;have h1 := PC.mono hp _ _ _ (R.cell j d hj);have h2 : (j + 1) * q.s.size ≤ (q.x.den e.opq).toList.length * q.s.size := Nat.mul_le_mul_right _ hlt;rw [Nat.add_mul, Nat.one_mul] at h2;have : (cur.toList.drop (j * q.s.size)).take q.s.size = (arr.toList.drop (j * q.s.size)).take q.s.size := by
    rw [hcur, List.append_assoc, List.drop_append_of_le_length (by omega), List.take_append_of_le_length (by rw [List.length_drop]; omega), List.drop_take, List.take_take];congr 1;omega
   rw [this];exact h1
  ·have hj2 : j = (q.x.den e.opq).toList.length := by
    have := (List.getElem?_eq_some_iff.1 hj).1;rw [List.length_append, List.length_singleton] at this;omega
   subst hj2;rw [List.getElem?_append_right (Nat.le_refl _), Nat.sub_self] at hj;simp only [List.getElem?_cons_zero, sme] at hj;subst hj;have : (cur.toList.drop ((q.x.den e.opq).toList.length * q.s.size)).take q.s.size = c := by
    rw [hcur, List.append_assoc, List.drop_append, List.drop_of_length_le (by omega), List.nil_append, hlen, Nat.sub_self, List.drop_zero, List.take_append_of_le_length (by omega), List.take_of_length_le (by omega)]
   rw [this, ← ho];exact hc

theorem appendV_run {P : Program} {Ω : Om} {w0 : Base} {A : Ask} (hA : AskOK Ω A) {e : Env} {s s' : St} {w : World} {t u ty : TypeId} {d x v : AV} (k : appendV P A s t u d x = some (v, s')) (h : Rel Ω w0 e s w) {d' x' : Value} (hd : VR e d d') (hx : VR e x x') :
  ∃ e' y w', e.le e' ∧ VR e' v y ∧ Rel Ω w0 e' s' w' ∧ (Builtin.append_ #[t, u] ty #[d', x']).run P w = .ok y w' := by
 obtain rfl := h.opq;have reads : ∀ {w1 : World}, Rel e.opq w0 e s w1 → Reads P e { s.mem with ask := A } (fun w' => w' = w1) := fun h1 =>
  { cell := (h1.reads (P := P)).cell, apart := (h1.reads (P := P)).apart, fact := (h1.reads (P := P)).fact, ask := hA, zero := (h1.reads (P := P)).zero, seq := (h1.reads (P := P)).seq, pool := (h1.reads (P := P)).pool, vseq := (h1.reads (P := P)).vseq }
 unfold appendV at k;split at k
 ·cases k
 ·rename_i el du hni ht hu;have hdu : ∀ k, du ≠ .int k := fun kk hk => by subst hk; exact hni _ rfl
  split at k
  ·rename_i inf hi;split at k
   ·rename_i zv hz;split at k
    ·rename_i id z len cap opn;split at k
     ·rename_i q hq;split at k
      ·rename_i hc;simp only [bae, beq_iff_eq] at hc;obtain ⟨⟨⟨⟨⟨⟨⟨c1, c2⟩, c3⟩, c4⟩, c5⟩, c6⟩, c7⟩, c8⟩ := hc;have c1 := beq_t c1;have c2 := beq_t c2;have hpos : 0 < inf.bytes := by simpa [Nat.blt_eq] using c3
       have c4 := beq_t c4;have c5 := E.beq_eq c5;have c6 := E.beq_eq c6;have c8 := beq_t c8;subst c5 c6 c7 c1;split at k
       ·rename_i l hsrc;split at k
        ·rename_i y hsh;split at k
         ·rename_i hb;simp only [sme, pme] at k;obtain ⟨rfl, rfl⟩ := k;have hb := leB_val hA hb;rw [E.mul_i, E.add_i] at hb;have hb : (2 * inf.bytes : Int) * (q.n.i e.opq + 1) ≤ 281474976710656 := hb;have hob := St.vseqW_some hq;obtain ⟨kb, hloc, hm, h0, arr, hcell, hR⟩ := h.obj id _ hob;simp only [VR] at hd;obtain ⟨b, p, hb2, rfl, hp, g1, g2, g3⟩ := hd;obtain rfl : b = kb := by rw [hloc] at hb2; exact (Option.some.inj hb2).symm
          have hn := hR.n;have hnn := n_of_i (Ω := e.opq) (x := q.n) (by omega);have hL : q.n.n e.opq = (q.x.den e.opq).toList.length := by omega
          have hsz := hR.size;have hz0 : ∀ {w1 : World}, Rel e.opq w0 e s w1 → ∃ xs : List Value, PC e.h q.s (y.den e.opq) xs ∧ xs.length = q.s.size ∧ (∀ w, (Builtin.lenOf x').run P w = .ok 1 w) ∧ (Builtin.firstCells q.s.size 1 x').run P w1 = .ok xs.toArray w1 := fun h1 => by
           obtain ⟨xs, x1, x2, x3⟩ := srcA_run (reads h1) hsrc hx;obtain ⟨p1, p2, rfl, p3, p4⟩ := shC_ok hsh x1;simp only [VRs] at p4;subst p4;rw [List.append_nil] at x3;exact ⟨p1, p3, PC.length _ _ _ p3, x2, x3 _ rfl⟩
          have hp0 : (q.n.n e.opq + if q.opn = true then e.spare id else 0) ≠ 0 → p = 0 := fun hne => by
           have := hp hne;simpa [E.n, E.den, D.nat] using this
          have hNi : (q.n.add (.int 1)).i e.opq = (q.n.n e.opq + 1 : Nat) := by rw [E.add_i]; simp only [E.i, E.den, D.toInt_int] at hnn ⊢; omega
          have hNn : (q.n.add (.int 1)).n e.opq = q.n.n e.opq + 1 := by have := n_of_i (Ω := e.opq) (x := q.n.add (.int 1)) (by omega); omega
          by_cases hin : q.n.n e.opq + 1 ≤ q.n.n e.opq + if q.opn = true then e.spare id else 0
          ·-- in place
           obtain ⟨xs, y1, y2, y3, y4⟩ := hz0 h;have ho : q.opn = true := by
            cases hq2 : q.opn with
            | true => rfl
            | false => rw [hq2] at hin; simp at hin; omega
           simp only [ho, if_true] at hin hsz hp0;have hp1 := hp0 (by omega);subst hp1;have hroom : (q.x.den e.opq).toList.length * q.s.size + q.s.size ≤ arr.size := by
            rw [hsz];have : 1 * q.s.size ≤ e.spare id * q.s.size := Nat.mul_le_mul_right _ (by omega);omega
           obtain ⟨cur', w', hr, hg', hoth, e1, e2, e3, e4, hcl⟩ := run_storeCells_row (P := P) b ((q.x.den e.opq).toList.length * q.s.size) q.elem xs 0 arr w hcell (by rw [y2]; omega) (PC.ones _ _ _ y1);rw [Nat.add_zero] at hcl;have hdel := h.del id;have hnid : (s.del id).nid = s.nid := by rw [St.del_eq]; rfl
           have hfr : e.loc (s.del id).nid = none := by rw [hnid]; exact h.fresh s.next (Nat.le_refl _)
           have hle := Env.le_newB (s := s.del id) hfr b (e.spare id - 1) 0;have hnp : e.h b = none := h.apart _ _ _ hob rfl hloc;obtain ⟨_, hrel⟩ := hdel.newO (w' := w') (.vseq ⟨el, q.s, q.n.add (.int 1), .bi .snoc q.x y, true⟩) b (e.spare id - 1) 0 (h.below.step e1 e2 e3 (by rw [e4]; exact Nat.le_refl _) fun j hj => hoth j (Base.mine_ne hm hj))
            ⟨hm, by simp [Env.newB], cur', by rw [← c4]; exact hg', hR.snoc (e' := Env.newB e (s.del id) b (e.spare id - 1) 0) (sp := e.spare id - 1) (tail := arr.toList.drop ((q.x.den e.opq).toList.length * q.s.size + xs.length)) rfl hle.h (by simpa [Env.newB] using y1) (by simp [Env.newB]) hcl (by
             rw [List.length_drop, y2, Nat.sub_mul, Nat.one_mul]; simp; omega)⟩
            (fun i o' hi' j hj => by
             have hne : i ≠ id := by
              intro x;subst x;simp [St.del_eq, T.get_put] at hi'
             have hi2 : s.heap.get i = some o' := by simpa [St.del_eq, T.get_put, hne] using hi'
             have : j ≠ b := fun x => hne (h.inj1 hi2 hob hm hnp (x ▸ hj) hloc)
             exact ⟨this, hoth j this⟩) (fun j arr hj => hoth j (fun x => by subst x; rw [hnp] at hj; cases hj)) (fun _ => hnp)
           refine ⟨_, .slice (some ⟨b, 0, none⟩) (q.n.n e.opq + 1) (q.n.n e.opq + e.spare id), w', hle, ?_, hrel, ?_⟩
           ·simp only [VR];refine ⟨b, 0, by simp [Env.newB, hnid], ?_, ?_, ?_, ?_, ?_⟩
            ·simp only [Env.newB, hnid, if_true, hNn];congr 1;omega
            ·intro _; simp [E.n, E.den, D.nat]
            ·simp only [Env.newB]; omega
            ·exact Int.le_refl 0
            ·exact Int.le_refl _
           ·simp only [ho, if_true];rw [run_append_in ht hi hu hdu (y3 w) (by rw [c2]; exact y4) hin];simp only [add_none, c2, hL, hr, Result.andThen_ok, Nat.zero_add]
          ·-- anew
           obtain ⟨xs, y1, y2, y3, y4⟩ := hz0 h.drew;obtain ⟨_, _, _, y3', _⟩ := hz0 h;have hlenT : (arr.toList.take ((q.x.den e.opq).toList.length * q.s.size)).length = (q.x.den e.opq).toList.length * q.s.size := by
            rw [List.length_take]; simp; omega
           have hold : (Builtin.firstCells inf.size (q.n.n e.opq) (.slice (some ⟨b, p, none⟩) (q.n.n e.opq) (q.n.n e.opq + if q.opn = true then e.spare id else 0))).run P w.drew = .ok (arr.toList.take ((q.x.den e.opq).toList.length * q.s.size)).toArray w.drew := by
            simp only [Builtin.firstCells];rw [c2, hL];exact run_loadCells_at _ _ _ _ _ hlenT fun j v hj => by
             have hj1 := (List.getElem?_eq_some_iff.1 hj).1;rw [hlenT] at hj1;have hne : (q.x.den e.opq).toList.length ≠ 0 := fun x => by rw [x, Nat.zero_mul] at hj1; omega
             rw [hp0 (by omega), Nat.zero_add, cell_row (w := w.drew) (by exact hcell)];rw [List.getElem?_take, if_pos hj1] at hj;simpa using hj
           have hfit : 2 * (q.n.n e.opq + 1) * inf.bytes ≤ 281474976710656 := by
            have h1 : 2 * inf.bytes * (q.n.n e.opq + 1) ≤ 281474976710656 := by
             rw [← hnn] at hb;apply Int.ofNat_le.1;rw [Int.natCast_mul, Int.natCast_mul, Int.natCast_add];exact hb
            have : 2 * (q.n.n e.opq + 1) * inf.bytes = 2 * inf.bytes * (q.n.n e.opq + 1) := by rw [Nat.mul_assoc, Nat.mul_comm (q.n.n e.opq + 1), ← Nat.mul_assoc]
            omega
           have hsm : 2 * (q.n.n e.opq + 1) ≤ 281474976710656 := Nat.le_trans (Nat.le_mul_of_pos_right _ hpos) hfit;have hrun := run_append_new (ty := ty) ht hi hz hu hdu (base := some ⟨b, p, none⟩) (sLen := q.n.n e.opq) (sCap := q.n.n e.opq + if q.opn = true then e.spare id else 0) (y3 w) (by rw [c2]; exact y4) hold hin (by omega) (growslice_fits2 (by omega) hfit);have hge := grownCap_ge w (q.n.n e.opq + 1) (q.n.n e.opq + if q.opn = true then e.spare id else 0) el;generalize hcap : grownCap w (q.n.n e.opq + 1) (q.n.n e.opq + if q.opn = true then e.spare id else 0) el = cp at hrun hge;have hdel := h.del id;have hnid : (s.del id).nid = s.nid := by rw [St.del_eq]; rfl
           have hfr : e.loc (s.del id).nid = none := by rw [hnid]; exact h.fresh s.next (Nat.le_refl _)
           have hle0 := Env.le_newB (s := s.del id) hfr w.heap.size (cp - (q.n.n e.opq + 1)) 0;obtain ⟨hle, hrel⟩ := hdel.drew.newO (w' := w.drew.alloc (.cells ((arr.toList.take ((q.x.den e.opq).toList.length * q.s.size)).toArray ++ xs.toArray ++ Builtin.zeroCells zv.cells (cp - (q.n.n e.opq + 1))) el)) (.vseq ⟨el, q.s, q.n.add (.int 1), .bi .snoc q.x y, true⟩) w.heap.size (cp - (q.n.n e.opq + 1)) 0 (hdel.drew.below.alloc _)
            ⟨Base.mine_new h.below, by simp [Env.newB], _, heap_alloc_new w.drew _, hR.snoc (e' := Env.newB e (s.del id) w.heap.size (cp - (q.n.n e.opq + 1)) 0) (c := xs) (sp := cp - (q.n.n e.opq + 1)) (tail := (Builtin.zeroCells zv.cells (cp - (q.n.n e.opq + 1))).toList) rfl hle0.h (by simpa [Env.newB] using y1) (by simp [Env.newB]) (by simp) (by
             rw [Array.length_toList, zeroCells_len, c8])⟩
            (fun id' o hid j hj => have := hdel.drew.loc_lt hid hj; ⟨by simp at this; omega, heap_alloc_old w.drew _ j this⟩) (fun j _ hj => heap_alloc_old w.drew _ j (hdel.drew.pool_lt hj)) (fun _ => hdel.drew.pool_new (Nat.le_refl _))
           refine ⟨_, _, _, hle, ?_, hrel, hrun⟩;simp only [VR];refine ⟨w.heap.size, 0, by simp [Env.newB, hnid], ?_, ?_, ?_, ?_, ?_⟩
           ·simp only [Env.newB, hnid, if_true, hNn];congr 1;omega
           ·intro _; simp [E.n, E.den, D.nat]
           ·simp only [Env.newB]; omega
           ·exact Int.le_refl 0
           ·exact Int.le_refl _
         ·cases k
        ·cases k
       ·cases k
      ·cases k
     ·cases k
    ·cases k
   ·cases k
  ·cases k
 ·cases k

def srcV (s : St) (x : AV) : Option (E × E × Sh) := match x with
 | .pv sh y => some (.un .len y, y, sh)
 | .vslice id z (.int 0) len _ _ => match s.heap.get id with
  | some (.vseq q) => match len.beq q.n && Nat.beq z q.s.size with
   | true => some (q.n, q.x, q.s)
   | false => none
  | _ => none
 | _ => none

theorem run_firstNone {P : Program} {w : World} {z : Nat} {y : Value} (hy : y = .slice none 0 0 ∨ ∃ ad cp, y = .slice (some ad) 0 cp) : (Builtin.lenOf y).run P w = .ok 0 w ∧ (Builtin.firstCells z 0 y).run P w = .ok #[] w := by
 rcases hy with rfl | ⟨ad, cp, rfl⟩ <;> simp [Builtin.lenOf, Builtin.firstCells, loadCells, loadCellsFrom]

theorem srcV_run {P : Program} {Ω : Om} {w0 : Base} {e : Env} {s : St} {w : World} (h : Rel Ω w0 e s w) {x : AV} {N Y : E} {sh : Sh} (k : srcV s x = some (N, Y, sh)) {y : Value} (hx : VR e x y) :
  ∃ (n : Nat) (xs : List Value), N.i e.opq = n ∧ (Y.den e.opq).toList.length = n ∧ (Builtin.lenOf y).run P w = .ok n w ∧ (Builtin.firstCells sh.size n y).run P w = .ok xs.toArray w ∧ xs.length = n * sh.size ∧
   ∀ j d, (Y.den e.opq).toList[j]? = some d → PC e.h sh d ((xs.drop (j * sh.size)).take sh.size) := by
 unfold srcV at k;split at k
 ·rename_i sh' y';simp only [sme, pme] at k;obtain ⟨rfl, rfl, rfl⟩ := k;simp only [VR] at hx;have hx : PC e.h (.sl sh') (y'.den e.opq) [y] := hx;simp only [PC] at hx;obtain ⟨a, ha, hx⟩ := hx;simp only [List.cons.injEq, and_true] at ha;subst ha;rcases hx with ⟨h0, ha⟩ | ⟨b, o, cp, arr, rfl, hle, hb, hel⟩
  ·obtain ⟨g1, g2⟩ := run_firstNone (P := P) (w := w) (z := sh'.size) ha;exact ⟨0, [], by simp [E.i, E.den, UO.den, h0], by rw [h0]; rfl, g1, g2, by simp, fun j d hj => by rw [h0] at hj; simp at hj⟩
  ·obtain ⟨el', fz, hrow⟩ := h.pool _ _ hb;have hlen : ((arr.toList.drop o).take ((y'.den e.opq).toList.length * sh'.size)).length = (y'.den e.opq).toList.length * sh'.size := by
    rw [List.length_take, List.length_drop];rcases Nat.eq_zero_or_pos (y'.den e.opq).toList.length with g | g
    ·rw [g]; simp
    ·rcases Nat.eq_zero_or_pos sh'.size with gz | gz
     ·rw [gz]; simp
     have := PC.length _ _ _ (hel ((y'.den e.opq).toList.length - 1) _ (List.getElem?_eq_getElem (by omega)));rw [List.length_take, List.length_drop] at this;have e2 : (y'.den e.opq).toList.length * sh'.size = ((y'.den e.opq).toList.length - 1) * sh'.size + sh'.size := by
      rw [Nat.sub_mul, Nat.one_mul];have : sh'.size ≤ (y'.den e.opq).toList.length * sh'.size := Nat.le_mul_of_pos_left _ g;omega
     omega
   refine ⟨_, _, by simp [E.i, E.den, UO.den], rfl, by simp [Builtin.lenOf], ?_, hlen, fun j d hj => ?_⟩
   ·simp only [Builtin.firstCells];exact run_loadCells_at _ _ _ _ _ hlen fun j v hj => by
     rw [cell?_row hrow];rw [List.getElem?_take] at hj;split at hj
     ·rw [List.getElem?_drop] at hj; simpa using hj
     ·cases hj
   ·have hj1 := (List.getElem?_eq_some_iff.1 hj).1;have h6 : (j + 1) * sh'.size ≤ (y'.den e.opq).toList.length * sh'.size := Nat.mul_le_mul_right _ hj1;rw [Nat.add_mul, Nat.one_mul] at h6;rw [List.drop_take, List.take_take, List.drop_drop, show min sh'.size ((y'.den e.opq).toList.length * sh'.size - j * sh'.size) = sh'.size by omega];exact hel j d hj
 ·rename_i id z len cap opn;split at k
  ·rename_i q hq;split at k
   ·rename_i hc;simp only [bae] at hc;simp only [sme, pme] at k;obtain ⟨rfl, rfl, rfl⟩ := k;have c1 := E.beq_eq hc.1;subst c1;obtain ⟨kb, hloc, hm, h0, arr, hcell, hR⟩ := h.obj id _ hq;simp only [VR] at hx;obtain ⟨b, p, hb2, rfl, hp, g1, g2, g3⟩ := hx;obtain rfl : b = kb := by rw [hloc] at hb2; exact (Option.some.inj hb2).symm
    have hn := hR.n;have hnn := n_of_i (Ω := e.opq) (x := q.n) (by omega);have hL : q.n.n e.opq = (q.x.den e.opq).toList.length := by omega
    have hsz := hR.size;have hlen : (arr.toList.take ((q.x.den e.opq).toList.length * q.s.size)).length = (q.x.den e.opq).toList.length * q.s.size := by
     rw [List.length_take]; simp; omega
    refine ⟨(q.x.den e.opq).toList.length, arr.toList.take ((q.x.den e.opq).toList.length * q.s.size), hn, rfl, by simp [Builtin.lenOf, hL], ?_, hlen, fun j d hj => ?_⟩
    ·simp only [Builtin.firstCells];exact run_loadCells_at _ _ _ _ _ hlen fun j v hj => by
      have hj1 := (List.getElem?_eq_some_iff.1 hj).1;rw [hlen] at hj1;have hne : (q.x.den e.opq).toList.length ≠ 0 := fun x => by rw [x, Nat.zero_mul] at hj1; omega
      have hcn := n_of_i (Ω := e.opq) (x := cap) (by omega);have hp0 : p = 0 := by
       have := hp (by omega);simpa [E.n, E.den, D.nat] using this
      rw [hp0, Nat.zero_add, cell_row hcell];rw [List.getElem?_take, if_pos hj1] at hj;simpa using hj
    ·have hj1 := (List.getElem?_eq_some_iff.1 hj).1;have h6 : (j + 1) * q.s.size ≤ (q.x.den e.opq).toList.length * q.s.size := Nat.mul_le_mul_right _ hj1;rw [Nat.add_mul, Nat.one_mul] at h6;rw [List.drop_take, List.take_take, show min q.s.size ((q.x.den e.opq).toList.length * q.s.size - j * q.s.size) = q.s.size by omega];exact hR.cell j d hj
   ·cases k
  ·cases k
 ·cases k

theorem pieces_ones {h : Pool} {sh : Sh} {ds : List D} {xs : List Value} (hl : xs.length = ds.length * sh.size) (hc : ∀ j d, ds[j]? = some d → PC h sh d ((xs.drop (j * sh.size)).take sh.size)) : ∀ v ∈ xs, v.oneCell' = true := by
 intro v hv;obtain ⟨i, hi⟩ := List.getElem?_of_mem hv;have hil := (List.getElem?_eq_some_iff.1 hi).1;rcases Nat.eq_zero_or_pos sh.size with g | g
 ·rw [hl, g, Nat.mul_zero] at hil; omega
 ·have hd : i / sh.size < ds.length := by rw [Nat.div_lt_iff_lt_mul g]; omega
  refine PC.ones _ _ _ (hc (i / sh.size) _ (List.getElem?_eq_getElem hd)) v (List.mem_of_getElem? (i := i % sh.size) ?_);rw [List.getElem?_take, if_pos (Nat.mod_lt _ g), List.getElem?_drop, Nat.mul_comm, Nat.div_add_mod];exact hi

theorem VSeqR.glue {e e' : Env} {sh : Sh} {ds ds' : List D} {arr xs : List Value} (hl : ds.length * sh.size ≤ arr.length) (hR : ∀ j d, ds[j]? = some d → PC e.h sh d ((arr.drop (j * sh.size)).take sh.size)) (hp : Pool.le e.h e'.h) {nid : Nat} {el : TypeId} {n x : E}
  (hxl : xs.length = ds'.length * sh.size) (hX : ∀ j d, ds'[j]? = some d → PC e.h sh d ((xs.drop (j * sh.size)).take sh.size)) {cur : Array Value} {sp : Nat} (hs : e'.spare nid = sp) {tail : List Value} (hcur : cur.toList = arr.take (ds.length * sh.size) ++ xs ++ tail) (ht : tail.length = sp * sh.size)
  (hx : (x.den e'.opq).toList = ds ++ ds') (hn : n.i e'.opq = ((ds.length + ds'.length : Nat) : Int)) : VSeqR e' nid ⟨el, sh, n, x, true⟩ cur := by
 have hlen : (arr.take (ds.length * sh.size)).length = ds.length * sh.size := by rw [List.length_take]; omega
 refine ⟨by simp only; rw [hx, List.length_append]; exact hn, ?_, ?_⟩
 ·have h1 := congrArg List.length hcur;rw [List.length_append, List.length_append, hlen, hxl, ht] at h1;simp only [if_pos];rw [hx, List.length_append, hs, Nat.add_mul];simpa using h1
 ·intro j d hj;simp only at hj ⊢;rw [hx] at hj;by_cases hlt : j < ds.length
  ·rw [List.getElem?_append_left hlt] at hj;have h1 := PC.mono hp _ _ _ (hR j d hj);have h2 : (j + 1) * sh.size ≤ ds.length * sh.size := Nat.mul_le_mul_right _ hlt;rw [Nat.add_mul, Nat.one_mul] at h2;have : (cur.toList.drop (j * sh.size)).take sh.size = (arr.drop (j * sh.size)).take sh.size := by
    rw [hcur, List.append_assoc, List.drop_append_of_le_length (by omega), List.take_append_of_le_length (by rw [List.length_drop]; omega), List.drop_take, List.take_take];congr 1;omega
   rw [this];exact h1
  ·have hj0 := (List.getElem?_eq_some_iff.1 hj).1;rw [List.length_append] at hj0;rw [List.getElem?_append_right (by omega)] at hj;have h2 : (j - ds.length + 1) * sh.size ≤ ds'.length * sh.size := Nat.mul_le_mul_right _ (by omega);rw [Nat.add_mul, Nat.one_mul] at h2;have e2 : j * sh.size = ds.length * sh.size + (j - ds.length) * sh.size := by rw [← Nat.add_mul]; congr 1; omega
   have : (cur.toList.drop (j * sh.size)).take sh.size = (xs.drop ((j - ds.length) * sh.size)).take sh.size := by
    rw [hcur, List.append_assoc, e2, List.drop_append, List.drop_of_length_le (by omega), List.nil_append, hlen, Nat.add_sub_cancel_left, List.drop_append_of_le_length (by omega), List.take_append_of_le_length (by rw [List.length_drop]; omega)]
   rw [this];exact PC.mono hp _ _ _ (hX _ d hj)

def appendM (P : Program) (A : Ask) (s : St) (t u : TypeId) (d x : AV) : Option (AV × St) :=
 match P.underlying t, P.underlying u with
 | some (.slice _), some (.int _) => none
 | some (.slice el), some _ => match P.info? el with
  | some inf => match inf.zero with
   | some zv => match srcV s x with
    | some (n, y, sh) => match Nat.beq inf.size sh.size && Nat.blt 0 inf.bytes && Nat.beq zv.cells.size sh.size && (match sh with | .int _ => false | _ => true) with
     | true => match askQ A (.eq n (.int 0)) with
      | some true => match d with
       | .nilslice => some (.nilslice, s)
       | .vslice id z o len cap opn => match len.beq cap with
        | true => some (.vslice id z o len cap opn, s)
        | false => none
       | _ => none
      | some false => match d with
       | .nilslice => match leB A ((E.int (2 * inf.bytes)).mul n) (.int 281474976710656) with
        | true => some (.vslice s.nid sh.size (.int 0) n n true, s.newO (.vseq ⟨el, sh, n, y, true⟩))
        | false => none
       | .vslice id z (.int 0) len cap opn => match s.vseqW id with
        | some q => match Nat.beq z q.s.size && Nat.beq q.elem el && len.beq q.n && cap.beq q.n && (opn == q.opn) && sh.beq q.s with
         | true => match leB A ((E.int (2 * inf.bytes)).mul (q.n.add n)) (.int 281474976710656) with
          | true => some (.vslice s.nid z (.int 0) (q.n.add n) (q.n.add n) true, (s.del id).newO (.vseq ⟨el, q.s, q.n.add n, .bi .app q.x y, true⟩))
          | false => none
         | false => none
        | none => none
       | _ => none
      | none => none
     | false => none
    | none => none
   | none => none
  | none => none
 | _, _ => none


theorem appendM_run {P : Program} {Ω : Om} {w0 : Base} {A : Ask} (hA : AskOK Ω A) {e : Env} {s s' : St} {w : World} {t u ty : TypeId} {d x v : AV} (k : appendM P A s t u d x = some (v, s')) (h : Rel Ω w0 e s w) {d' x' : Value} (hd : VR e d d') (hx : VR e x x') :
  ∃ e' y w', e.le e' ∧ VR e' v y ∧ Rel Ω w0 e' s' w' ∧ (Builtin.append_ #[t, u] ty #[d', x']).run P w = .ok y w' := by
 obtain rfl := h.opq;unfold appendM at k;split at k
 ·cases k
 ·rename_i el du hni ht hu;have hdu : ∀ k, du ≠ .int k := fun kk hk => by subst hk; exact hni _ rfl
  split at k
  ·rename_i inf hi;split at k
   ·rename_i zv hz;split at k
    ·rename_i N Y sh hsrc;split at k
     ·rename_i hc;simp only [bae] at hc;obtain ⟨⟨⟨c2, c3⟩, c8⟩, _⟩ := hc;have c2 := beq_t c2;have hpos : 0 < inf.bytes := by simpa [Nat.blt_eq] using c3
      have c8 := beq_t c8;obtain ⟨n, xs, x1, x2, x3, x4, x5, x6⟩ := srcV_run (P := P) h hsrc hx;obtain ⟨n', xs', y1, y2, y3, y4, y5, y6⟩ := srcV_run (P := P) h.drew hsrc hx;obtain rfl : n' = n := by rw [x2] at y2; exact y2.symm
      have hNn := n_of_i (Ω := e.opq) (x := N) (by omega);split at k
      ·rename_i hq0;have hq0 := askQ_val hA hq0;have hn0 : n' = 0 := by
        have := of_decide_eq_true (show decide (N.i e.opq = (E.int 0).i e.opq) = true from hq0);rw [x1] at this;simp [E.i, E.den] at this;omega
       subst hn0;have hxs : xs = [] := List.eq_nil_of_length_eq_zero (by rw [x5, Nat.zero_mul]);subst hxs;rw [← c2] at x4;split at k
       ·simp only [sme, pme] at k;obtain ⟨rfl, rfl⟩ := k;simp only [VR] at hd;subst hd;refine ⟨e, .slice none 0 0, w, Env.le_refl e, by simp only [VR], h, ?_⟩;rw [run_append_in ht hi hu hdu x3 x4 (by omega)]
        simp
       ·rename_i id z o len cap opn;split at k
        ·rename_i hlc;have hlc := E.beq_eq hlc;simp only [sme, pme] at k;obtain ⟨rfl, rfl⟩ := k;have hd0 := hd;simp only [VR] at hd;obtain ⟨b, p, hb2, rfl, hp, g1, g2, g3⟩ := hd;refine ⟨e, _, w, Env.le_refl e, hd0, h, ?_⟩;rw [run_append_in ht hi hu hdu x3 x4 (by rw [hlc]; omega)];simp [storeCells]
        ·cases k
       ·cases k
      ·rename_i hqf;have hne : n' ≠ 0 := fun x => by
        have hq0 := askQ_val hA hqf;rw [x] at x1;have : (N.i e.opq = (E.int 0).i e.opq) := by rw [x1]; simp [E.i, E.den]
        have h3 : decide (N.i e.opq = (E.int 0).i e.opq) = false := hq0;rw [decide_eq_true this] at h3; cases h3
       split at k
       ·-- behind nothing
        split at k
        ·rename_i hb;simp only [sme, pme] at k;obtain ⟨rfl, rfl⟩ := k;simp only [VR] at hd;subst hd;have hb := leB_val hA hb;rw [E.mul_i, x1] at hb;have hb : (2 * inf.bytes : Int) * (n' : Int) ≤ 281474976710656 := hb;have hfit : 2 * (0 + n') * inf.bytes ≤ 281474976710656 := by
          have h1 : 2 * inf.bytes * n' ≤ 281474976710656 := by
           apply Int.ofNat_le.1;rw [Int.natCast_mul, Int.natCast_mul];exact hb
          have : 2 * (0 + n') * inf.bytes = 2 * inf.bytes * n' := by rw [Nat.zero_add, Nat.mul_assoc, Nat.mul_comm n', ← Nat.mul_assoc]
          omega
         have hsm : 2 * (0 + n') ≤ 281474976710656 := Nat.le_trans (Nat.le_mul_of_pos_right _ hpos) hfit;have hrun := run_append_new (ty := ty) ht hi hz hu hdu (base := none) (sLen := 0) (sCap := 0) (olds := #[]) x3 (by rw [c2]; exact y4) (by simp [Builtin.firstCells]) (by omega) (by omega) (growslice_fits2 (by omega) hfit);have hge := grownCap_ge w (0 + n') 0 el;generalize hcap : grownCap w (0 + n') 0 el = cp at hrun hge;have hfr : e.loc s.nid = none := h.fresh s.next (Nat.le_refl _);have hle0 := Env.le_newB (s := s) hfr w.heap.size (cp - n') 0;obtain ⟨hle, hrel⟩ := h.drew.newO (w' := w.drew.alloc (.cells (#[] ++ xs'.toArray ++ Builtin.zeroCells zv.cells (cp - (0 + n'))) el)) (.vseq ⟨el, sh, N, Y, true⟩) w.heap.size (cp - n') 0 (h.drew.below.alloc _)
          ⟨Base.mine_new h.below, by simp [Env.newB], _, heap_alloc_new w.drew _, VSeqR.glue (e := e) (e' := Env.newB e s w.heap.size (cp - n') 0) (ds := []) (ds' := (Y.den e.opq).toList) (arr := []) (xs := xs') (sp := cp - n') (tail := (Builtin.zeroCells zv.cells (cp - (0 + n'))).toList) (by simp) (fun j d hj => by simp at hj) hle0.h (by rw [y5, x2]) y6 (by simp [Env.newB]) (by simp) (by
           rw [Array.length_toList, zeroCells_len, c8, Nat.zero_add]) rfl (by show N.i e.opq = _; rw [x1, x2]; simp)⟩
          (fun id' o hid j hj => have := h.drew.loc_lt hid hj; ⟨by simp at this; omega, heap_alloc_old w.drew _ j this⟩) (fun j _ hj => heap_alloc_old w.drew _ j (h.drew.pool_lt hj)) (fun _ => h.drew.pool_new (Nat.le_refl _))
         refine ⟨_, _, _, hle, ?_, hrel, hrun⟩;simp only [VR];refine ⟨w.heap.size, 0, by simp [Env.newB], ?_, ?_, ?_, ?_, ?_⟩
         ·simp only [Env.newB, if_true];congr 1
          ·omega
          ·omega
         ·intro _; simp [E.n, E.den, D.nat]
         ·simp only [Env.newB]; omega
         ·exact Int.le_refl 0
         ·exact Int.le_refl _
        ·cases k
       ·rename_i id z len cap opn;split at k
        ·rename_i q hq;split at k
         ·rename_i hc;simp only [bae, beq_iff_eq] at hc;obtain ⟨⟨⟨⟨⟨d1, d2⟩, d3⟩, d4⟩, d5⟩, d6⟩ := hc;have d1 := beq_t d1;have d2 := beq_t d2;have d3 := E.beq_eq d3;have d4 := E.beq_eq d4;have d6 := Sh.beq_eq d6;subst d1 d3 d4 d5 d6;split at k
          ·rename_i hb;simp only [sme, pme] at k;obtain ⟨rfl, rfl⟩ := k;have hb := leB_val hA hb;rw [E.mul_i, E.add_i, x1] at hb;have hb : (2 * inf.bytes : Int) * (q.n.i e.opq + (n' : Int)) ≤ 281474976710656 := hb;have hob := St.vseqW_some hq;obtain ⟨kb, hloc, hm, h0, arr, hcell, hR⟩ := h.obj id _ hob;simp only [VR] at hd;obtain ⟨b, p, hb2, rfl, hp, g1, g2, g3⟩ := hd;obtain rfl : b = kb := by rw [hloc] at hb2; exact (Option.some.inj hb2).symm
           have hn := hR.n;have hnn := n_of_i (Ω := e.opq) (x := q.n) (by omega);have hL : q.n.n e.opq = (q.x.den e.opq).toList.length := by omega
           have hsz := hR.size;have hp0 : (q.n.n e.opq + if q.opn = true then e.spare id else 0) ≠ 0 → p = 0 := fun hne => by
            have := hp hne;simpa [E.n, E.den, D.nat] using this
           have hNi : (q.n.add N).i e.opq = (q.n.n e.opq + n' : Nat) := by rw [E.add_i, x1]; omega
           have hNn2 : (q.n.add N).n e.opq = q.n.n e.opq + n' := by have := n_of_i (Ω := e.opq) (x := q.n.add N) (by omega); omega
           have happ : ((E.bi .app q.x Y).den e.opq).toList = (q.x.den e.opq).toList ++ (Y.den e.opq).toList := by simp only [E.den, BO.den, D.toList_list]
           by_cases hin : q.n.n e.opq + n' ≤ q.n.n e.opq + if q.opn = true then e.spare id else 0
           ·-- in place
            have ho : q.opn = true := by
             cases hq2 : q.opn with
             | true => rfl
             | false => rw [hq2] at hin; simp at hin; omega
            simp only [ho, if_true] at hin hsz hp0;have hp1 := hp0 (by omega);subst hp1;have hroom : (q.x.den e.opq).toList.length * q.s.size + n' * q.s.size ≤ arr.size := by
             rw [hsz];have : n' * q.s.size ≤ e.spare id * q.s.size := Nat.mul_le_mul_right _ (by omega);omega
            obtain ⟨cur', w', hr, hg', hoth, e1, e2, e3, e4, hcl⟩ := run_storeCells_row (P := P) b ((q.x.den e.opq).toList.length * q.s.size) q.elem xs 0 arr w hcell (by rw [x5]; omega) (pieces_ones (by rw [x5, x2]) x6);rw [Nat.add_zero] at hcl;have hdel := h.del id;have hnid : (s.del id).nid = s.nid := by rw [St.del_eq]; rfl
            have hfr : e.loc (s.del id).nid = none := by rw [hnid]; exact h.fresh s.next (Nat.le_refl _)
            have hle := Env.le_newB (s := s.del id) hfr b (e.spare id - n') 0;have hnp : e.h b = none := h.apart _ _ _ hob rfl hloc;obtain ⟨_, hrel⟩ := hdel.newO (w' := w') (.vseq ⟨el, q.s, q.n.add N, .bi .app q.x Y, true⟩) b (e.spare id - n') 0 (h.below.step e1 e2 e3 (by rw [e4]; exact Nat.le_refl _) fun j hj => hoth j (Base.mine_ne hm hj))
             ⟨hm, by simp [Env.newB], cur', by rw [← d2]; exact hg', VSeqR.glue (e := e) (e' := Env.newB e (s.del id) b (e.spare id - n') 0) (ds := (q.x.den e.opq).toList) (ds' := (Y.den e.opq).toList) (arr := arr.toList) (xs := xs) (sp := e.spare id - n') (tail := arr.toList.drop ((q.x.den e.opq).toList.length * q.s.size + xs.length)) (by have h1 : arr.toList.length = arr.size := Array.length_toList; omega) hR.cell hle.h (by rw [x5, x2]) x6 (by simp [Env.newB]) hcl (by
              rw [List.length_drop, x5, Nat.sub_mul]; simp; omega) happ (by show (q.n.add N).i e.opq = _; rw [hNi, hL, x2])⟩
             (fun i o' hi' j hj => by
              have hne : i ≠ id := by
               intro x;subst x;simp [St.del_eq, T.get_put] at hi'
              have hi2 : s.heap.get i = some o' := by simpa [St.del_eq, T.get_put, hne] using hi'
              have : j ≠ b := fun x => hne (h.inj1 hi2 hob hm hnp (x ▸ hj) hloc)
              exact ⟨this, hoth j this⟩) (fun j arr hj => hoth j (fun x => by subst x; rw [hnp] at hj; cases hj)) (fun _ => hnp)
            refine ⟨_, .slice (some ⟨b, 0, none⟩) (q.n.n e.opq + n') (q.n.n e.opq + e.spare id), w', hle, ?_, hrel, ?_⟩
            ·simp only [VR];refine ⟨b, 0, by simp [Env.newB, hnid], ?_, ?_, ?_, ?_, ?_⟩
             ·simp only [Env.newB, hnid, if_true, hNn2];congr 1;omega
             ·intro _; simp [E.n, E.den, D.nat]
             ·simp only [Env.newB]; omega
             ·exact Int.le_refl 0
             ·exact Int.le_refl _
            ·simp only [ho, if_true];rw [run_append_in ht hi hu hdu x3 (by rw [c2]; exact x4) hin];simp only [add_none, c2, hL, hr, Result.andThen_ok, Nat.zero_add]
           ·-- anew
            have hlenT : (arr.toList.take ((q.x.den e.opq).toList.length * q.s.size)).length = (q.x.den e.opq).toList.length * q.s.size := by
             rw [List.length_take]; simp; omega
            have hold : (Builtin.firstCells inf.size (q.n.n e.opq) (.slice (some ⟨b, p, none⟩) (q.n.n e.opq) (q.n.n e.opq + if q.opn = true then e.spare id else 0))).run P w.drew = .ok (arr.toList.take ((q.x.den e.opq).toList.length * q.s.size)).toArray w.drew := by
             simp only [Builtin.firstCells];rw [c2, hL];exact run_loadCells_at _ _ _ _ _ hlenT fun j v hj => by
              have hj1 := (List.getElem?_eq_some_iff.1 hj).1;rw [hlenT] at hj1;have hne : (q.x.den e.opq).toList.length ≠ 0 := fun x => by rw [x, Nat.zero_mul] at hj1; omega
              rw [hp0 (by omega), Nat.zero_add, cell_row (w := w.drew) (by exact hcell)];rw [List.getElem?_take, if_pos hj1] at hj;simpa using hj
            have hfit : 2 * (q.n.n e.opq + n') * inf.bytes ≤ 281474976710656 := by
             have h1 : 2 * inf.bytes * (q.n.n e.opq + n') ≤ 281474976710656 := by
              rw [← hnn] at hb;apply Int.ofNat_le.1;rw [Int.natCast_mul, Int.natCast_mul, Int.natCast_add];exact hb
             have : 2 * (q.n.n e.opq + n') * inf.bytes = 2 * inf.bytes * (q.n.n e.opq + n') := by rw [Nat.mul_assoc, Nat.mul_comm (q.n.n e.opq + n'), ← Nat.mul_assoc]
             omega
            have hsm : 2 * (q.n.n e.opq + n') ≤ 281474976710656 := Nat.le_trans (Nat.le_mul_of_pos_right _ hpos) hfit;have hrun := run_append_new (ty := ty) ht hi hz hu hdu (base := some ⟨b, p, none⟩) (sLen := q.n.n e.opq) (sCap := q.n.n e.opq + if q.opn = true then e.spare id else 0) x3 (by rw [c2]; exact y4) hold hin (by omega) (growslice_fits2 (by omega) hfit);have hge := grownCap_ge w (q.n.n e.opq + n') (q.n.n e.opq + if q.opn = true then e.spare id else 0) el;generalize hcap : grownCap w (q.n.n e.opq + n') (q.n.n e.opq + if q.opn = true then e.spare id else 0) el = cp at hrun hge;have hdel := h.del id;have hnid : (s.del id).nid = s.nid := by rw [St.del_eq]; rfl
            have hfr : e.loc (s.del id).nid = none := by rw [hnid]; exact h.fresh s.next (Nat.le_refl _)
            have hle0 := Env.le_newB (s := s.del id) hfr w.heap.size (cp - (q.n.n e.opq + n')) 0;obtain ⟨hle, hrel⟩ := hdel.drew.newO (w' := w.drew.alloc (.cells ((arr.toList.take ((q.x.den e.opq).toList.length * q.s.size)).toArray ++ xs'.toArray ++ Builtin.zeroCells zv.cells (cp - (q.n.n e.opq + n'))) el)) (.vseq ⟨el, q.s, q.n.add N, .bi .app q.x Y, true⟩) w.heap.size (cp - (q.n.n e.opq + n')) 0 (hdel.drew.below.alloc _)
             ⟨Base.mine_new h.below, by simp [Env.newB], _, heap_alloc_new w.drew _, VSeqR.glue (e := e) (e' := Env.newB e (s.del id) w.heap.size (cp - (q.n.n e.opq + n')) 0) (ds := (q.x.den e.opq).toList) (ds' := (Y.den e.opq).toList) (arr := arr.toList) (xs := xs') (sp := cp - (q.n.n e.opq + n')) (tail := (Builtin.zeroCells zv.cells (cp - (q.n.n e.opq + n'))).toList) (by simp; omega) hR.cell hle0.h (by rw [y5, x2]) y6 (by simp [Env.newB]) (by simp) (by
              rw [Array.length_toList, zeroCells_len, c8]) happ (by show (q.n.add N).i e.opq = _; rw [hNi, hL, x2])⟩
             (fun id' o hid j hj => have := hdel.drew.loc_lt hid hj; ⟨by simp at this; omega, heap_alloc_old w.drew _ j this⟩) (fun j _ hj => heap_alloc_old w.drew _ j (hdel.drew.pool_lt hj)) (fun _ => hdel.drew.pool_new (Nat.le_refl _))
            refine ⟨_, _, _, hle, ?_, hrel, hrun⟩;simp only [VR];refine ⟨w.heap.size, 0, by simp [Env.newB, hnid], ?_, ?_, ?_, ?_, ?_⟩
            ·simp only [Env.newB, hnid, if_true, hNn2];congr 1;omega
            ·intro _; simp [E.n, E.den, D.nat]
            ·simp only [Env.newB]; omega
            ·exact Int.le_refl 0
            ·exact Int.le_refl _
          ·cases k
         ·cases k
        ·cases k
       ·cases k
      ·cases k
     ·cases k
    ·cases k
   ·cases k
  ·cases k
 ·cases k

def appendZ (P : Program) (A : Ask) (s : St) (t u : TypeId) (d x : AV) : Option (AV × St) := match d with
 | .slice id off 0 0 false => match P.underlying t, P.underlying u with
  | some (.slice _), some (.int _) => none
  | some (.slice el), some _ => match P.info? el with
   | some inf => match inf.zero with
    | some zv => match srcV s x with
     | some (n, y, sh) => match Nat.beq inf.size sh.size && Nat.blt 0 inf.bytes && Nat.beq zv.cells.size sh.size && (match sh with | .int _ => false | _ => true) with
      | true => match askQ A (.eq n (.int 0)) with
       | some true => some (.slice id off 0 0 false, s)
       | some false => match leB A ((E.int (2 * inf.bytes)).mul n) (.int 281474976710656) with
        | true => some (.vslice s.nid sh.size (.int 0) n n true, s.newO (.vseq ⟨el, sh, n, y, true⟩))
        | false => none
       | none => none
      | false => none
     | none => none
    | none => none
   | none => none
  | _, _ => none
 | _ => none

theorem appendZ_run {P : Program} {Ω : Om} {w0 : Base} {A : Ask} (hA : AskOK Ω A) {e : Env} {s s' : St} {w : World} {t u ty : TypeId} {d x v : AV} (k : appendZ P A s t u d x = some (v, s')) (h : Rel Ω w0 e s w) {d' x' : Value} (hd : VR e d d') (hx : VR e x x') :
  ∃ e' y w', e.le e' ∧ VR e' v y ∧ Rel Ω w0 e' s' w' ∧ (Builtin.append_ #[t, u] ty #[d', x']).run P w = .ok y w' := by
 obtain rfl := h.opq;unfold appendZ at k;split at k
 rotate_left
 ·cases k
 rename_i id off;simp only [VR] at hd;obtain ⟨b0, hb0, rfl⟩ := hd;split at k
 ·cases k
 ·rename_i el du hni ht hu;have hdu : ∀ k, du ≠ .int k := fun kk hk => by subst hk; exact hni _ rfl
  split at k
  ·rename_i inf hi;split at k
   ·rename_i zv hz;split at k
    ·rename_i N Y sh hsrc;split at k
     ·rename_i hc;simp only [bae] at hc;obtain ⟨⟨⟨c2, c3⟩, c8⟩, _⟩ := hc;have c2 := beq_t c2;have hpos : 0 < inf.bytes := by simpa [Nat.blt_eq] using c3
      have c8 := beq_t c8;obtain ⟨n, xs, x1, x2, x3, x4, x5, x6⟩ := srcV_run (P := P) h hsrc hx;obtain ⟨n', xs', y1, y2, y3, y4, y5, y6⟩ := srcV_run (P := P) h.drew hsrc hx;obtain rfl : n' = n := by rw [x2] at y2; exact y2.symm
      have hNn := n_of_i (Ω := e.opq) (x := N) (by omega);split at k
      ·rename_i hq0;have hq0 := askQ_val hA hq0;have hn0 : n' = 0 := by
        have := of_decide_eq_true (show decide (N.i e.opq = (E.int 0).i e.opq) = true from hq0);rw [x1] at this;simp [E.i, E.den] at this;omega
       subst hn0;have hxs : xs = [] := List.eq_nil_of_length_eq_zero (by rw [x5, Nat.zero_mul]);subst hxs;rw [← c2] at x4;simp only [sme, pme] at k;obtain ⟨rfl, rfl⟩ := k;refine ⟨e, _, w, Env.le_refl e, by simp only [VR]; exact ⟨b0, hb0, rfl⟩, h, ?_⟩;rw [run_append_in ht hi hu hdu x3 x4 (by omega)];simp [storeCells]
      ·rename_i hqf;have hne : n' ≠ 0 := fun x => by
        have hq0 := askQ_val hA hqf;rw [x] at x1;have : (N.i e.opq = (E.int 0).i e.opq) := by rw [x1]; simp [E.i, E.den]
        have h3 : decide (N.i e.opq = (E.int 0).i e.opq) = false := hq0;rw [decide_eq_true this] at h3; cases h3
       split at k
       ·rename_i hb;simp only [sme, pme] at k;obtain ⟨rfl, rfl⟩ := k;have hb := leB_val hA hb;rw [E.mul_i, x1] at hb;have hb : (2 * inf.bytes : Int) * (n' : Int) ≤ 281474976710656 := hb;have hfit : 2 * (0 + n') * inf.bytes ≤ 281474976710656 := by
         have h1 : 2 * inf.bytes * n' ≤ 281474976710656 := by
          apply Int.ofNat_le.1;rw [Int.natCast_mul, Int.natCast_mul];exact hb
         have : 2 * (0 + n') * inf.bytes = 2 * inf.bytes * n' := by rw [Nat.zero_add, Nat.mul_assoc, Nat.mul_comm n', ← Nat.mul_assoc]
         omega
        have hsm : 2 * (0 + n') ≤ 281474976710656 := Nat.le_trans (Nat.le_mul_of_pos_right _ hpos) hfit;have hrun := run_append_new (ty := ty) ht hi hz hu hdu (base := some ⟨b0, off, none⟩) (sLen := 0) (sCap := 0) (olds := #[]) x3 (by rw [c2]; exact y4) (by simp [Builtin.firstCells, loadCells, loadCellsFrom]) (by omega) (by omega) (growslice_fits2 (by omega) hfit);have hge := grownCap_ge w (0 + n') 0 el;generalize hcap : grownCap w (0 + n') 0 el = cp at hrun hge;have hfr : e.loc s.nid = none := h.fresh s.next (Nat.le_refl _);have hle0 := Env.le_newB (s := s) hfr w.heap.size (cp - n') 0;obtain ⟨hle, hrel⟩ := h.drew.newO (w' := w.drew.alloc (.cells (#[] ++ xs'.toArray ++ Builtin.zeroCells zv.cells (cp - (0 + n'))) el)) (.vseq ⟨el, sh, N, Y, true⟩) w.heap.size (cp - n') 0 (h.drew.below.alloc _)
         ⟨Base.mine_new h.below, by simp [Env.newB], _, heap_alloc_new w.drew _, VSeqR.glue (e := e) (e' := Env.newB e s w.heap.size (cp - n') 0) (ds := []) (ds' := (Y.den e.opq).toList) (arr := []) (xs := xs') (sp := cp - n') (tail := (Builtin.zeroCells zv.cells (cp - (0 + n'))).toList) (by simp) (fun j d hj => by simp at hj) hle0.h (by rw [y5, x2]) y6 (by simp [Env.newB]) (by simp) (by
          rw [Array.length_toList, zeroCells_len, c8, Nat.zero_add]) rfl (by show N.i e.opq = _; rw [x1, x2]; simp)⟩
         (fun id' o hid j hj => have := h.drew.loc_lt hid hj; ⟨by simp at this; omega, heap_alloc_old w.drew _ j this⟩) (fun j _ hj => heap_alloc_old w.drew _ j (h.drew.pool_lt hj)) (fun _ => h.drew.pool_new (Nat.le_refl _))
        refine ⟨_, _, _, hle, ?_, hrel, hrun⟩;simp only [VR];refine ⟨w.heap.size, 0, by simp [Env.newB], ?_, ?_, ?_, ?_, ?_⟩
        ·simp only [Env.newB, if_true];congr 1
         ·omega
         ·omega
        ·intro _; simp [E.n, E.den, D.nat]
        ·simp only [Env.newB]; omega
        ·exact Int.le_refl 0
        ·exact Int.le_refl _
       ·cases k
      ·cases k
     ·cases k
    ·cases k
   ·cases k
  ·cases k
 ·cases k

def append0 (P : Program) (s : St) (t u : TypeId) (d x : AV) : Option (AV × St) :=
 match P.underlying t, P.underlying u with
 | some (.slice _), some (.int _) => none
 | some (.slice el), some _ => match P.info? el with
  | some _ => match x, d with
   | .nilslice, .vslice id z o len cap opn => if len.beq cap then some (.vslice id z o len cap opn, s) else none
   | .hollow, .vslice id z o len cap opn => if len.beq cap then some (.vslice id z o len cap opn, s) else none
   | .empty, .vslice id z o len cap opn => if len.beq cap then some (.vslice id z o len cap opn, s) else none
   | _, _ => none
  | none => none
 | _, _ => none
theorem append0_run {P : Program} {Ω : Om} {w0 : Base} {e : Env} {s s' : St} {w : World} {t u ty : TypeId} {d x v : AV} (k : append0 P s t u d x = some (v, s')) (h : Rel Ω w0 e s w) {d' x' : Value} (hd : VR e d d') (hx : VR e x x') :
  ∃ e' y w', e.le e' ∧ VR e' v y ∧ Rel Ω w0 e' s' w' ∧ (Builtin.append_ #[t, u] ty #[d', x']).run P w = .ok y w' := by
 unfold append0 at k;split at k
 ·cases k
 ·rename_i el du hni ht hu;have hdu : ∀ k, du ≠ .int k := fun kk hk => by subst hk; exact hni _ rfl
  split at k
  ·rename_i inf hi;have fin : ∀ {id z : Nat} {o len cap : E} {opn : Bool}, (x' = .slice none 0 0 ∨ ∃ ad cp, x' = .slice (some ad) 0 cp) → VR e (.vslice id z o len cap opn) d' → (if len.beq cap then some (AV.vslice id z o len cap opn, s) else none) = some (v, s') →
     ∃ e' y w', e.le e' ∧ VR e' v y ∧ Rel Ω w0 e' s' w' ∧ (Builtin.append_ #[t, u] ty #[d', x']).run P w = .ok y w' := by
    intro id z o len cap opn hx0 hd0 k;split at k
    ·rename_i hlc;have hlc := E.beq_eq hlc;simp only [sme, pme] at k;obtain ⟨rfl, rfl⟩ := k;obtain ⟨x3, x4⟩ := run_firstNone (P := P) (w := w) (z := inf.size) hx0;have hd1 := hd0;simp only [VR] at hd0;obtain ⟨b, p, hb2, rfl, hp, g1, g2, g3⟩ := hd0;refine ⟨e, _, w, Env.le_refl e, hd1, h, ?_⟩;rw [run_append_in ht hi hu hdu x3 x4 (by rw [hlc]; omega)];simp [storeCells]
    ·cases k
   split at k
   ·simp only [VR] at hx;exact fin (.inl hx) hd k
   ·simp only [VR] at hx;exact fin (.inr hx) hd k
   ·simp only [VR] at hx;exact fin hx hd k
   ·cases k
  ·cases k
 ·cases k

theorem Rel.other {Ω : Om} {w0 : Base} {e : Env} {s : St} {w w' : World} (h : Rel Ω w0 e s w) (hb : Und w0 w') (hold : ∀ i o, s.heap.get i = some o → ∀ j, e.loc i = some j → w'.heap[j]? = w.heap[j]?) (hpl : ∀ j arr, e.h j = some arr → w'.heap[j]? = w.heap[j]?) : Rel Ω w0 e s w' :=
 ⟨h.opq, hb, h.fresh, h.inj, fun id o ho => let ⟨k, h1, h2⟩ := h.obj id o ho; ⟨k, h1, h2.mono (Env.le_refl e) h1 (hold id o ho k h1)⟩, fun j arr hj => by rw [hpl j arr hj]; exact h.pool j arr hj, h.apart, h.grow, h.hold⟩
theorem Rel.nameless {Ω : Om} {w0 : Base} {e : Env} {s : St} {w : World} (h : Rel Ω w0 e s w) (k sp bs : Nat) : e.le (e.newB s k sp bs) ∧ Rel Ω w0 (e.newB s k sp bs) ⟨s.heap, s.next + 1⟩ w := by
 have hf : e.loc s.nid = none := h.fresh s.next (Nat.le_refl _);have hle := Env.le_newB hf k sp bs;refine ⟨hle, h.opq, h.below, fun n hn => ?_, fun i j o o' b hi hj oi oj li lj => ?_, fun id o ho => ?_, h.pool, fun i o b hi oo li => ?_, h.grow, h.hold⟩
 ·have : 2 * n + 1 ≠ s.nid := by unfold St.nid; simp only at hn; omega
  simp [Env.newB, this, h.fresh n (by simp only at hn; omega)]
 ·simp only [Env.newB] at li lj;rw [if_neg (h.live hi)] at li;rw [if_neg (h.live hj)] at lj;exact h.inj i j o o' b hi hj oi oj li lj
 ·obtain ⟨j, h1, h2⟩ := h.obj id o ho;exact ⟨j, (hle.loc id j h1).1, h2.mono hle h1 rfl⟩
 ·simp only [Env.newB] at li ⊢;rw [if_neg (h.live hi)] at li;exact h.apart i o b hi oo li

def appendF (P : Program) (s : St) (t u : TypeId) (d x : AV) : Option (AV × St) :=
 match P.underlying t, P.underlying u with
 | some (.slice _), some (.int _) => none
 | some (.slice el), some _ => match P.info? el with
  | some inf => match inf.zero with
   | some z => match srcA s.mem inf.size x with
    | some (n, news) => match d with
     | .slice id off len cap true => match s.row id with
      | some b => match Nat.blt 0 off && Nat.blt 0 n && Nat.ble len cap && Nat.blt cap (len + n) && b.opn && !b.str && Nat.beq b.esz inf.size && Nat.beq b.size (off + cap * inf.size) && news.all AV.one && Nat.beq news.length (n * inf.size) && Nat.ble (2 * (len + n)) 4611686018427387904 && Nat.ble (2 * (len + n) * inf.bytes) 281474976710656 with
       | true => match readL s.mem id off (len * inf.size) with
        | some _ => some (.sslice s.nid (.int 0) (.int ((len + n : Nat) : Int)) (.int ((len + n : Nat) : Int)) true, ⟨(s.del id).heap, s.next + 1⟩)
        | none => none
       | false => none
      | none => none
     | _ => none
    | none => none
   | none => none
  | none => none
 | _, _ => none

theorem appendF_run {P : Program} {Ω : Om} {w0 : Base} {e : Env} {s s' : St} {w : World} {t u ty : TypeId} {d x v : AV} (k : appendF P s t u d x = some (v, s')) (h : Rel Ω w0 e s w) {d' x' : Value} (hd : VR e d d') (hx : VR e x x') :
  ∃ e' y w', e.le e' ∧ VR e' v y ∧ Rel Ω w0 e' s' w' ∧ (Builtin.append_ #[t, u] ty #[d', x']).run P w = .ok y w' := by
 unfold appendF at k;split at k
 ·cases k
 ·rename_i el du hni ht hu;have hdu : ∀ k, du ≠ .int k := fun kk hk => by subst hk; exact hni _ rfl
  split at k
  ·rename_i inf hi;split at k
   ·rename_i z hz;split at k
    ·rename_i n news hsrc;split at k
     ·rename_i id off len cap;split at k
      ·rename_i b hb;split at k
       ·rename_i hc;simp only [bae, Bool.not_eq_true'] at hc;obtain ⟨⟨⟨⟨⟨⟨⟨⟨⟨⟨⟨a1, a2⟩, a3⟩, a4⟩, a5⟩, a6⟩, a7⟩, a8⟩, a9⟩, a10⟩, a11⟩, a12⟩ := hc;have a2 : 0 < n := by simpa [Nat.blt_eq] using a2
        have a3 := Nat.le_of_ble_eq_true a3;have a7 := beq_t a7;have a8 := beq_t a8;have a10 := beq_t a10;have a11 := Nat.le_of_ble_eq_true a11;have a12 := Nat.le_of_ble_eq_true a12;split at k
        ·rename_i olds hol;simp only [sme, pme] at k;obtain ⟨rfl, rfl⟩ := k;obtain ⟨xs, x1, x2, x3⟩ := srcA_run (h.reads (P := P)) hsrc hx;obtain ⟨xs', y1, y2, y3⟩ := srcA_run (h.drew.reads (P := P)) hsrc hx;have hbr := St.row_some hb;obtain ⟨kk, arr, fz, hl, hk0, hrow, hR⟩ := h.row id b hbr;simp only [VR, if_true] at hd;obtain ⟨k2, hl2, rfl⟩ := hd;obtain rfl : k2 = kk := by rw [hl] at hl2; exact (Option.some.inj hl2).symm
         have hfz := hR.plain a6;subst hfz;have hsz := hR.size;rw [a5, if_pos rfl, a7, a8] at hsz;have hxn : xs.length = n * inf.size := by rw [x1.length, a10]
         have hdel := h.del id;have hnp : e.h k2 = none := h.apart _ _ _ hbr rfl hl;have hnotk : ∀ i o, (s.del id).heap.get i = some o → ∀ j, e.loc i = some j → j ≠ k2 := fun i o hi' j hj x => by
          have hne : i ≠ id := by
           intro x;subst x;simp [St.del_eq, T.get_put] at hi'
          have hi2 : s.heap.get i = some o := by simpa [St.del_eq, T.get_put, hne] using hi'
          exact hne (h.inj1 hi2 hbr hk0 hnp (x ▸ hj) hl)
         have hnx : (s.del id).next = s.next := by rw [St.del_eq]
         have hnid : (s.del id).nid = s.nid := by rw [St.del_eq]; rfl
         have nn : ∀ q : Nat, ∀ Ω, (E.int (q : Int)).n Ω = q := fun q Ω => by simp [E.n, E.den, D.nat]
         have vr : ∀ (kb sp p : Nat), VR (e.newB (s.del id) kb sp p) (.sslice s.nid (.int 0) (.int ((len + n : Nat) : Int)) (.int ((len + n : Nat) : Int)) true) (.slice (some ⟨kb, p, none⟩) (len + n) (len + n + sp)) := fun kb sp p => by
          simp only [VR];refine ⟨kb, p, by simp [Env.newB, hnid], ?_, fun _ => ?_, ?_, ?_, Int.le_refl _⟩
          ·simp only [Env.newB, hnid, if_true, nn]
          ·simp [Env.newB, hnid, E.n, E.den, D.nat]
          ·simp only [E.i, E.den, D.toInt_int]; omega
          ·exact Int.le_refl 0
         by_cases hin : len + n ≤ cap + e.spare id
         ·have hfit : off + len * inf.size + 0 + xs.length ≤ arr.size := by
           rw [hsz, hxn];have := Nat.mul_le_mul_right inf.size hin;rw [Nat.add_mul, Nat.add_mul] at this;omega
          obtain ⟨cur', w', hr, hg', hoth, e1, e2, e3, e4, hcl⟩ := run_storeCells_row (P := P) k2 (off + len * inf.size) b.elem xs 0 arr w hrow hfit (x1.ones a9);have hrel := hdel.other (w' := w') (h.below.step e1 e2 e3 (by rw [e4]; exact Nat.le_refl _) fun j hj => hoth j (Base.mine_ne hk0 hj)) (fun i o hi' j hj => hoth j (hnotk i o hi' j hj)) (fun j arr hj => hoth j (fun x => by subst x; rw [hnp] at hj; cases hj));obtain ⟨hle, hrel⟩ := hrel.nameless k2 (cap + e.spare id - (len + n)) off;rw [hnx] at hrel;refine ⟨_, _, w', hle, vr k2 (cap + e.spare id - (len + n)) off, hrel, ?_⟩;rw [run_append_in ht hi hu hdu (x2 w) (x3 w rfl) hin];simp only [add_none, hr, Result.andThen_ok];rw [show len + n + (cap + e.spare id - (len + n)) = cap + e.spare id by omega]
         ·obtain ⟨os, o1, o2, o3⟩ := readL_cells (h.reads (P := P)) hl _ _ _ hol;have hold : (Builtin.firstCells inf.size len (.slice (some ⟨k2, off, none⟩) len (cap + e.spare id))).run P w.drew = .ok os.toArray w.drew := by
           simp only [Builtin.firstCells];exact run_loadCells_at w.drew k2 off _ os o2 fun j x hj => by rw [World.cell?_drew]; exact o3 w rfl j x hj
          have hrun := run_append_new (ty := ty) ht hi hz hu hdu (base := some ⟨k2, off, none⟩) (sLen := len) (sCap := cap + e.spare id) (x2 w) (y3 w.drew rfl) hold hin (by omega) (growslice_fits2 (by omega) a12);have hge := grownCap_ge w (len + n) (cap + e.spare id) el;generalize hcap : grownCap w (len + n) (cap + e.spare id) el = cp at hrun hge;have hrel := hdel.drew.other (w' := w.drew.alloc (.cells (os.toArray ++ xs'.toArray ++ Builtin.zeroCells z.cells (cp - (len + n))) el)) (hdel.drew.below.alloc _) (fun i o hid j hj => heap_alloc_old w.drew _ j (hdel.drew.loc_lt hid hj)) (fun j _ hj => heap_alloc_old w.drew _ j (hdel.drew.pool_lt hj));obtain ⟨hle, hrel⟩ := hrel.nameless w.heap.size (cp - (len + n)) 0;rw [hnx] at hrel;refine ⟨_, _, _, hle, vr w.heap.size (cp - (len + n)) 0, hrel, ?_⟩;rw [hrun, show len + n + (cp - (len + n)) = cp by omega]
        ·cases k
       ·cases k
      ·cases k
     ·cases k
    ·cases k
   ·cases k
  ·cases k
 ·cases k

theorem VSeqR.upd {e : Env} {id : Nat} {q : VB} {arr : Array Value} (R : VSeqR e id q arr) {j y : E} (hj : j.n e.opq < (q.x.den e.opq).toList.length) {c : List Value} (hc : PC e.h q.s (y.den e.opq) c) {cur : Array Value}
  (hcur : cur.toList = arr.toList.take (j.n e.opq * q.s.size) ++ c ++ arr.toList.drop (j.n e.opq * q.s.size + c.length)) :
  VSeqR e id { q with x := .tr .upd q.x j y } cur := by
 have hden : ((E.tr .upd q.x j y).den e.opq).toList = (q.x.den e.opq).toList.set (j.n e.opq) (y.den e.opq) := by
  simp only [E.den, TO.den, D.toList_list]; rfl
 have hl := PC.length _ _ _ hc;have hsz := R.size;have hroom : (j.n e.opq + 1) * q.s.size ≤ (q.x.den e.opq).toList.length * q.s.size := Nat.mul_le_mul_right _ hj;rw [Nat.add_mul, Nat.one_mul] at hroom;have hlen : (arr.toList.take (j.n e.opq * q.s.size)).length = j.n e.opq * q.s.size := by
  rw [List.length_take]; simp; omega
 have hcs : cur.size = arr.size := by
  have h1 := congrArg List.length hcur;rw [List.length_append, List.length_append, hlen, hl, List.length_drop] at h1;simp only [Array.length_toList] at h1;omega
 refine ⟨?_, ?_, ?_⟩
 ·show q.n.i e.opq = _;rw [hden, List.length_set]; exact R.n
 ·show cur.size = _;rw [hden, List.length_set, hcs]; exact hsz
 ·intro i d hi;simp only at hi ⊢;rw [hden, List.getElem?_set] at hi;by_cases hij : j.n e.opq = i
  ·rw [if_pos hij, if_pos hj] at hi;simp only [sme] at hi;subst hi hij;have : (cur.toList.drop (j.n e.opq * q.s.size)).take q.s.size = c := by
    rw [hcur, List.append_assoc, List.drop_append, List.drop_of_length_le (by omega), List.nil_append, hlen, Nat.sub_self, List.drop_zero, List.take_append_of_le_length (by omega), List.take_of_length_le (by omega)]
   rw [this]; exact hc
  ·rw [if_neg hij] at hi;have h1 := R.cell i d hi;have hil := (List.getElem?_eq_some_iff.1 hi).1;have : (cur.toList.drop (i * q.s.size)).take q.s.size = (arr.toList.drop (i * q.s.size)).take q.s.size := by
    rcases Nat.lt_or_gt_of_ne hij with hlt | hgt
    ·have h2 : (j.n e.opq + 1) * q.s.size ≤ i * q.s.size := Nat.mul_le_mul_right _ hlt;rw [Nat.add_mul, Nat.one_mul] at h2;rw [hcur, List.append_assoc, List.drop_append, List.drop_of_length_le (by omega), List.nil_append, hlen, List.drop_append, List.drop_of_length_le (by omega), List.nil_append, List.drop_drop];congr 2;omega
    ·have h2 : (i + 1) * q.s.size ≤ j.n e.opq * q.s.size := Nat.mul_le_mul_right _ hgt;rw [Nat.add_mul, Nat.one_mul] at h2;rw [hcur, List.append_assoc, List.drop_append_of_le_length (by omega), List.take_append_of_le_length (by rw [List.length_drop]; omega), List.drop_take, List.take_take];congr 1;omega
   rw [this]; exact h1

def storeV (P : Program) (A : Ask) (s : St) (ty : TypeId) (a v : AV) : Option St :=
 match a, P.info? ty with
 | .vptr id z j 0, some inf => match s.vseqW id with
  | some q => match Nat.beq z q.s.size && Nat.beq inf.size z && ge0 A j && ltB A j q.n && !v.isOpq with
   | true => match shC q.s v.cells with
    | some (y, []) => some (s.setO id (.vseq { q with x := .tr .upd q.x j y }))
    | _ => none
   | false => none
  | none => none
 | _, _ => none

theorem storeV_run {P : Program} {Ω : Om} {w0 : Base} {A : Ask} (hA : AskOK Ω A) {e : Env} {s s' : St} {w : World} {ty : TypeId} {a v : AV} (k : storeV P A s ty a v = some s') (h : Rel Ω w0 e s w) {x y : Value} (hx : VR e a x) (hy : VR e v y) :
  ∃ w', Rel Ω w0 e s' w' ∧ (Instr.storeAt ty x y).run P w = .ok () w' := by
 have hA : AskOK e.opq A := by rw [h.opq]; exact hA
 unfold storeV at k;split at k
 ·rename_i id z j inf hinf;split at k
  ·rename_i q hq;split at k
   ·rename_i hc;simp only [bae, Bool.not_eq_true'] at hc;obtain ⟨⟨⟨⟨c1, c2⟩, c3⟩, c4⟩, c5⟩ := hc;have c1 := beq_t c1;have c2 := beq_t c2;have c3 := ge0_val hA c3;have c4 := ltB_val hA c4;subst c1;split at k
    ·rename_i yE hsh;simp only [sme] at k;subst k;have hcells := hy.cells c5;obtain ⟨p1, p2, hpe, p3, p4⟩ := shC_ok hsh hcells;simp only [VRs] at p4;subst p4;rw [List.append_nil] at hpe;have hl := PC.length _ _ _ p3;have hob := St.vseqW_some hq;obtain ⟨kb, hloc, hm, h0, arr, hcell, hR⟩ := h.obj id _ hob;simp only [VR] at hx;obtain ⟨b, hb, rfl⟩ := hx;obtain rfl : b = kb := by rw [hloc] at hb; exact (Option.some.inj hb).symm
     have hn := hR.n;have hjn := n_of_i (Ω := e.opq) (x := j) (by omega);have hj : j.n e.opq < (q.x.den e.opq).toList.length := by omega
     have hsz := hR.size;have hroom : (j.n e.opq + 1) * q.s.size ≤ (q.x.den e.opq).toList.length * q.s.size := Nat.mul_le_mul_right _ hj;rw [Nat.add_mul, Nat.one_mul] at hroom;obtain ⟨cur', w', hr, hg', hoth, e1, e2, e3, e4, hcl⟩ := run_storeCells_row (P := P) b (j.n e.opq * q.s.size) q.elem p1 0 arr w hcell (by rw [hl]; omega) (PC.ones _ _ _ p3);rw [Nat.add_zero] at hcl;have hnp : e.h b = none := h.apart _ _ _ hob rfl hloc;refine ⟨w', ?_, ?_⟩
     ·rw [St.setO_eq];exact h.setO hob hloc hm hnp ⟨hm, h0, cur', hg', hR.upd hj p3 hcl⟩ hoth e1 e2 e3 (by rw [e4]; exact Nat.le_refl _)
     ·have hys : y.cells.size = q.s.size := by rw [← Array.length_toList, hpe, hl]
      rw [Nat.add_zero];simp [Instr.storeAt, Instr.sureAddr, storeVar, sizeOf, typeInfo, hinf, c2, hys, hpe, hr]
    ·cases k
   ·cases k
  ·cases k
 ·cases k

def seqV (s : Sh) : Nat → List AV → Option (List E)
 | _, [] => some []
 | 0, _ => none
 | n + 1, l => match shC s l with
  | some (x, r) => match seqV s n r with
   | some es => some (x :: es)
   | none => none
  | none => none
theorem seqV_ok {e : Env} {s : Sh} : ∀ {n : Nat} {l : List AV} {es : List E}, seqV s n l = some es → ∀ {c : List Value}, VRs e l c → c.length = es.length * s.size ∧ ∀ j d, (es.map (E.den e.opq))[j]? = some d → PC e.h s d ((c.drop (j * s.size)).take s.size)
 | n, [], es, h, c, hc => by
  have : es = [] := by cases n <;> simp only [seqV, sme] at h <;> exact h.symm
  subst this;simp only [VRs] at hc;subst hc;exact ⟨by simp, fun j d hj => by simp at hj⟩
 | 0, v :: l, es, h, c, hc => by simp [seqV] at h
 | n + 1, v :: l, es, h, c, hc => by
  simp only [seqV] at h;split at h
  ·rename_i x r hx;split at h
   ·rename_i es' hes;simp only [sme] at h;subst h;obtain ⟨c1, c2, rfl, h1, h2⟩ := shC_ok hx hc;obtain ⟨h3, h4⟩ := seqV_ok hes h2;have hl := PC.length _ _ _ h1;refine ⟨by rw [List.length_append, h3, hl, List.length_cons, Nat.add_mul, Nat.one_mul, Nat.add_comm], fun j d hj => ?_⟩;cases j with
    | zero =>
     simp only [List.map_cons, List.getElem?_cons_zero, sme] at hj;subst hj;rw [Nat.zero_mul, List.drop_zero, List.take_append_of_le_length (by omega), List.take_of_length_le (by omega)];exact h1
    | succ j =>
     simp only [List.map_cons, List.getElem?_cons_succ] at hj;have := h4 j d hj;rw [Nat.add_mul, Nat.one_mul, List.drop_append, List.drop_of_length_le (by omega), List.nil_append, show j * s.size + s.size - c1.length = j * s.size by omega];exact this
   ·cases h
  ·cases h

def cellsV (b : AB) (q : VB) : Option (List E) := match Nat.beq b.elem q.elem && !b.str && (b.opn == q.opn) && (!b.opn || Nat.beq b.esz q.s.size), b.from 0 b.size with
 | true, some l => seqV q.s b.size l
 | _, _ => none
theorem cellsV_ok {w0 : Base} {e : Env} {b : AB} {q : VB} {es : List E} (h : cellsV b q = some es) {i k : Nat} {w : World} (R : ObjR w0 e i k w (.cells b)) :
  ObjR w0 e i k w (.vseq ⟨q.elem, q.s, .int es.length, recE es (.lits []), q.opn⟩) := by
 unfold cellsV at h;split at h
 ·rename_i l hc hl;simp only [bae, Bool.not_eq_true', beq_iff_eq, Bool.or_eq_true] at hc;obtain ⟨⟨⟨c1, c2⟩, c3⟩, c4⟩ := hc;have c1 := beq_t c1;obtain ⟨h1, h2, arr, fz, h3, h4⟩ := R;have hfz := h4.plain c2;subst hfz;have hv := AB.from_vrs h4 b.size 0 l hl;rw [List.drop_zero] at hv;obtain ⟨g1, g2⟩ := seqV_ok h hv;have hge : b.size ≤ arr.size := by rw [h4.size]; omega
  have hlt : (arr.toList.take b.size).length = b.size := by rw [List.length_take]; simp; omega
  have hden : ((recE es (.lits [])).den e.opq).toList = es.map (E.den e.opq) := by rw [recE_den]; simp [E.den, D.ofInts]
  refine ⟨h1, h2, arr, by rw [← c1]; exact h3, ⟨?_, ?_, ?_⟩⟩
  ·show (E.int es.length).i e.opq = _;rw [hden, List.length_map]; simp [E.i, E.den]
  ·simp only;rw [hden, List.length_map, ← g1, hlt, h4.size, ← c3];rcases c4 with c4 | c4
   ·rw [c4]; simp
   ·rw [beq_t c4]
  ·intro j d hj;simp only at hj ⊢;rw [hden] at hj;have h5 := g2 j d hj;have hjl := (List.getElem?_eq_some_iff.1 hj).1;rw [List.length_map] at hjl;have h6 : (j + 1) * q.s.size ≤ es.length * q.s.size := Nat.mul_le_mul_right _ hjl;rw [Nat.add_mul, Nat.one_mul, ← g1, hlt] at h6;rw [List.drop_take, List.take_take, show min q.s.size (b.size - j * q.s.size) = q.s.size by omega] at h5;exact h5
 ·cases h

def Env.frz (e : Env) (k : Nat) (arr : Array Value) : Env := { e with h := fun j => if j = k then some arr else e.h j }
theorem Env.frz_at (e : Env) (k : Nat) (arr : Array Value) : (e.frz k arr).h k = some arr := by simp [Env.frz]

theorem Rel.frz {Ω : Om} {w0 : Base} {e : Env} {s : St} {w : World} (h : Rel Ω w0 e s w) {id : Nat} {o : AObj} (ho : s.heap.get id = some o) (hown : o.own = true) {k : Nat} (hk : e.loc id = some k) (hm : w0.mine k) {arr : Array Value} {el : TypeId} {fz : Nat × Nat}
  (hc : w.heap[k]? = some (.cells arr el fz)) : e.le (e.frz k arr) ∧ Rel Ω w0 (e.frz k arr) (s.del id) w := by
 have hn : e.h k = none := h.apart _ _ _ ho hown hk;have hle : e.le (e.frz k arr) := ⟨fun i b hi => ⟨hi, rfl, rfl⟩, rfl, fun j a hj => by
  simp only [Env.frz];split
  ·rename_i e1; subst e1; rw [hn] at hj; cases hj
  ·exact hj⟩
 have hd := h.del id;have key : ∀ i o, (s.del id).heap.get i = some o → i ≠ id ∧ s.heap.get i = some o := by
  intro i o hi;simp only [St.del_eq, T.get_put] at hi;split at hi
  ·cases hi
  ·rename_i hne; exact ⟨hne, hi⟩
 refine ⟨hle, hd.opq, hd.below, hd.fresh, hd.inj, ?_, ?_, ?_, ?_, fun j a hj => hle.h j a (h.hold j a hj)⟩
 ·intro i o' hi;obtain ⟨j, hj, hO⟩ := hd.obj i o' hi;exact ⟨j, hj, hO.mono hle hj rfl⟩
 ·intro j a hj;simp only [Env.frz] at hj;split at hj
  ·rename_i e1; subst e1; cases hj; exact ⟨_, _, hc⟩
  ·exact h.pool j a hj
 ·intro i o' j hi oo li;obtain ⟨hne, hi'⟩ := key i o' hi;simp only [Env.frz];split
  ·rename_i e1; subst e1;exact absurd (h.inj i id o' o j hi' ho oo hown li hk) hne
  ·exact h.apart i o' j hi' oo li
 ·intro j a hj;simp only [Env.frz] at hj;split at hj
  ·rename_i e1; subst e1; exact .inr hm
  ·exact h.grow j a hj

def pieceE (A : Ask) (n x o l : E) : Option E := match o.beq (.int 0) && l.beq n with
 | true => some x
 | false => match ge0 A o && leB A (o.add l) n with
  | true => some (mkCutD x o (o.add l))
  | false => none
theorem pieceE_den {Ω : Om} {A : Ask} (hA : AskOK Ω A) {n x o l y : E} (h : pieceE A n x o l = some y) (hn : n.i Ω = ((x.den Ω).toList.length : Int)) (ho : 0 ≤ o.i Ω) (hl : 0 ≤ l.i Ω) :
  (y.den Ω).toList.length = l.n Ω ∧ ∀ j d, (y.den Ω).toList[j]? = some d → (x.den Ω).toList[o.n Ω + j]? = some d ∧ j < l.n Ω := by
 have en : ∀ z : E, z.n Ω = (z.i Ω).toNat := fun z => rfl
 unfold pieceE at h;split at h
 ·rename_i hc;simp only [bae] at hc;simp only [sme] at h;subst h;have h1 := E.beq_eq hc.1;have h2 := E.beq_eq hc.2;subst h1; subst h2;refine ⟨by rw [en, hn]; omega, fun j d hj => ⟨?_, ?_⟩⟩
  ·have : (E.int 0).n Ω = 0 := by simp [E.n, E.den, D.nat]
   rw [this, Nat.zero_add]; exact hj
  ·have := (List.getElem?_eq_some_iff.1 hj).1;rw [en, hn]; omega
 ·split at h
  ·rename_i hc;simp only [bae] at hc;simp only [sme] at h;subst h;have h2 := leB_val hA hc.2;rw [E.add_i] at h2;have ea : (o.add l).n Ω = o.n Ω + l.n Ω := by rw [en, en, en, E.add_i]; omega
   have e2 : o.n Ω + l.n Ω ≤ (x.den Ω).toList.length := by rw [en, en]; omega
   rw [mkCutD_den, ea];refine ⟨by rw [List.length_drop, List.length_take]; omega, fun j d hj => ?_⟩;rw [List.getElem?_drop, List.getElem?_take] at hj;split at hj
   ·exact ⟨hj, by omega⟩
   ·cases hj
  ·cases h

def frzS (A : Ask) (s : St) (sh : Sh) (v : AV) : Option (AV × St) := match sh, v with
 | .sl u, .slice id o l c _ => match l with
  | 0 => some (.empty, s)
  | _ + 1 => match Nat.ble l c, s.heap.get id with
   | true, some (.cells b) => match b.from o (l * u.size) with
    | some cs => match seqV u l cs with
     | some es => match Nat.beq es.length l with
      | true => some (.pv u (recE es (.lits [])), s.del id)
      | false => none
     | none => none
    | none => none
   | true, some (.seq q) => match u, pieceE A q.n q.x (.int o) (.int l) with
    | .int k, some y => match decide (k = q.k) with
     | true => some (.pv (.int k) y, s.del id)
     | false => none
    | _, _ => none
   | _, _ => none
 | .sl u, .sslice id o l _ _ => match s.heap.get id, u with
  | some (.seq q), .int k => match pieceE A q.n q.x o l, decide (k = q.k) with
   | some y, true => some (.pv (.int k) y, s.del id)
   | _, _ => none
  | _, _ => none
 | .sl u, .vslice id z o l _ _ => match s.heap.get id with
  | some (.vseq q) => match pieceE A q.n q.x o l, u.beq q.s && Nat.beq z q.s.size with
   | some y, true => some (.pv u y, s.del id)
   | _, _ => none
  | _ => none
 | _, _ => none

theorem seq_pv {e : Env} {id : Nat} {q : SB} {arr : Array Value} {fz : Nat × Nat} (R : SeqR e id q arr fz) {h : Pool} {k p cp : Nat} {o l y : E} (hk : h k = some arr)
  (hy : (y.den e.opq).toList.length = l.n e.opq ∧ ∀ j d, (y.den e.opq).toList[j]? = some d → (q.x.den e.opq).toList[o.n e.opq + j]? = some d ∧ j < l.n e.opq) (hc : l.n e.opq ≤ cp) (hp : cp ≠ 0 → p = o.n e.opq) :
  PC h (.sl (.int q.k)) (y.den e.opq) [.slice (some ⟨k, p, none⟩) (l.n e.opq) cp] := by
 obtain ⟨h1, h2⟩ := hy;simp only [PC];refine ⟨_, rfl, ?_⟩;by_cases hz : l.n e.opq = 0
 ·exact .inl ⟨List.eq_nil_of_length_eq_zero (by omega), .inr ⟨_, _, by rw [hz]⟩⟩
 ·refine .inr ⟨k, p, cp, arr, by rw [h1], by omega, hk, fun j d hj => ?_⟩;obtain ⟨g1, g2⟩ := h2 j d hj;obtain ⟨tail, ht, _⟩ := R.cells;have hx : (q.x.s e.opq)[o.n e.opq + j]? = some d.toInt := by
   show ((q.x.den e.opq).toList.map D.toInt)[o.n e.opq + j]? = _;rw [List.getElem?_map, g1]; rfl
  have hlt := (List.getElem?_eq_some_iff.1 hx).1;refine ⟨?_, R.rng _ (List.mem_of_getElem? hx)⟩;rw [hp (by omega), ht];have e1 : ((q.x.s e.opq).map (Value.int q.k) ++ tail)[o.n e.opq + j]? = some (.int q.k d.toInt) := by
   rw [List.getElem?_append_left (by rw [List.length_map]; exact hlt), List.getElem?_map, hx]; rfl
  have hl2 := (List.getElem?_eq_some_iff.1 e1).1;have e3 : o.n e.opq + j * Sh.size (.int q.k) = o.n e.opq + j := by show o.n e.opq + j * 1 = _; omega
  rw [e3];show (List.drop (o.n e.opq + j) _).take 1 = _;rw [List.drop_eq_getElem_cons hl2, List.take_succ_cons, List.take_zero, (List.getElem?_eq_some_iff.1 e1).2]

theorem frzS_ok {Ω : Om} {w0 : Base} {A : Ask} (hA : AskOK Ω A) {e : Env} {s s' : St} {w : World} {sh : Sh} {v v' : AV} (k : frzS A s sh v = some (v', s')) (h : Rel Ω w0 e s w) {a : Value} (hv : VR e v a) :
  ∃ e', e.le e' ∧ Rel Ω w0 e' s' w ∧ VR e' v' a := by
 obtain rfl := h.opq;unfold frzS at k;split at k
 ·rename_i u id o l c opn;split at k
  ·simp only [sme, pme] at k;obtain ⟨rfl, rfl⟩ := k;simp only [VR] at hv;obtain ⟨b, _, rfl⟩ := hv;exact ⟨e, Env.le_refl e, h, by simp only [VR]; exact .inr ⟨_, _, rfl⟩⟩
  ·rename_i l;split at k
   ·rename_i b hle hb;have hle := Nat.le_of_ble_eq_true hle;split at k
    ·rename_i cs hcs;split at k
     ·rename_i es hes;split at k
      ·rename_i hlen;have hlen := beq_t hlen;simp only [sme, pme] at k;obtain ⟨rfl, rfl⟩ := k;obtain ⟨kk, hl, hm, hb0, arr, fz, hc, R⟩ := h.obj id _ hb;simp only [VR] at hv;obtain ⟨b', hl', rfl⟩ := hv;obtain rfl : b' = kk := by rw [hl] at hl'; exact (Option.some.inj hl').symm
       obtain ⟨g1, g2⟩ := h.frz hb rfl hl hm hc;refine ⟨_, g1, g2, ?_⟩;have hvs := AB.from_vrs R _ _ _ hcs;obtain ⟨s1, s2⟩ := seqV_ok hes hvs;have hden : ((recE es (.lits [])).den e.opq).toList = es.map (E.den e.opq) := by rw [recE_den]; simp [E.den, D.ofInts]
       simp only [VR];show PC _ (.sl u) ((recE es (.lits [])).den e.opq) _;simp only [PC];refine ⟨_, rfl, .inr ⟨b', o, c + if opn then e.spare id else 0, arr, ?_, ?_, Env.frz_at _ _ _, fun j d hj => ?_⟩⟩
       ·rw [hden, List.length_map, hlen]
       ·rw [hden, List.length_map, hlen]; omega
       ·rw [hden] at hj;have hj2 := s2 j d hj;have hjl := (List.getElem?_eq_some_iff.1 hj).1;rw [List.length_map, hlen] at hjl;have h6 : (j + 1) * u.size ≤ (l + 1) * u.size := Nat.mul_le_mul_right _ hjl;rw [Nat.add_mul j, Nat.one_mul] at h6;rw [List.drop_take, List.take_take, List.drop_drop, show min u.size ((l + 1) * u.size - j * u.size) = u.size by omega] at hj2;exact PC.mono g1.h _ _ _ hj2
      ·cases k
     ·cases k
    ·cases k
   ·rename_i q hle hb;have hle := Nat.le_of_ble_eq_true hle;split at k
    ·rename_i kk y hy;split at k
     ·rename_i hk;have hk := of_decide_eq_true hk;subst hk;simp only [sme, pme] at k;obtain ⟨rfl, rfl⟩ := k;obtain ⟨kk, hl, hm, hb0, arr, fz, hc, R⟩ := h.obj id _ hb;simp only [VR] at hv;obtain ⟨b', hl', rfl⟩ := hv;obtain rfl : b' = kk := by rw [hl] at hl'; exact (Option.some.inj hl').symm
      obtain ⟨g1, g2⟩ := h.frz hb rfl hl hm hc;refine ⟨_, g1, g2, ?_⟩;have e1 : (E.int (o : Nat)).n e.opq = o := by simp [E.n, E.den, D.nat]
      have e2 : (E.int ((l + 1 : Nat) : Int)).n e.opq = l + 1 := by simp [E.n, E.den, D.nat]
      have hn : q.n.i e.opq = ((q.x.den e.opq).toList.length : Int) := by rw [R.n]; exact congrArg _ (List.length_map ..)
      have := seq_pv R (h := (e.frz b' arr).h) (k := b') (p := o) (cp := c + if opn then e.spare id else 0) (o := .int (o : Nat)) (l := .int ((l + 1 : Nat) : Int)) (Env.frz_at _ _ _) (pieceE_den hA hy hn (by simp [E.i, E.den]) (by simp [E.i, E.den]; omega)) (by rw [e2]; omega) (fun _ => e1.symm);rw [e2] at this;simp only [VR];exact this
     ·cases k
    ·cases k
   ·cases k
 ·rename_i u id o l c opn;split at k
  ·rename_i q kk hb;split at k
   ·rename_i y hy hk;have hk := of_decide_eq_true hk;subst hk;simp only [sme, pme] at k;obtain ⟨rfl, rfl⟩ := k;obtain ⟨kk, hl, hm, hb0, arr, fz, hc, R⟩ := h.obj id _ hb;simp only [VR] at hv;obtain ⟨b', p, hl', rfl, hp, h0, h1, h2⟩ := hv;obtain rfl : b' = kk := by rw [hl] at hl'; exact (Option.some.inj hl').symm
    obtain ⟨g1, g2⟩ := h.frz hb rfl hl hm hc;refine ⟨_, g1, g2, ?_⟩;have hn : q.n.i e.opq = ((q.x.den e.opq).toList.length : Int) := by rw [R.n]; exact congrArg _ (List.length_map ..)
    have en : ∀ z : E, z.n e.opq = (z.i e.opq).toNat := fun z => rfl
    have := seq_pv R (h := (e.frz b' arr).h) (k := b') (p := p) (cp := c.n e.opq + if opn then e.spare id else 0) (o := o) (l := l) (Env.frz_at _ _ _) (pieceE_den hA hy hn h1 h0) (by have := en l; have := en c; omega) (fun g => by rw [hp g, hb0, Nat.zero_add]);simp only [VR];exact this
   ·cases k
  ·cases k
 ·rename_i u id z o l c opn;split at k
  ·rename_i q hb;split at k
   ·rename_i y hy hk;simp only [bae] at hk;have hu := Sh.beq_eq hk.1;have hz := beq_t hk.2;subst hu;simp only [sme, pme] at k;obtain ⟨rfl, rfl⟩ := k;obtain ⟨kk, hl, hm, hb0, arr, hc, R⟩ := h.obj id _ hb;simp only [VR] at hv;obtain ⟨b', p, hl', rfl, hp, h0, h1, h2⟩ := hv;obtain rfl : b' = kk := by rw [hl] at hl'; exact (Option.some.inj hl').symm
    obtain ⟨g1, g2⟩ := h.frz hb rfl hl hm hc;refine ⟨_, g1, g2, ?_⟩;have en : ∀ z : E, z.n e.opq = (z.i e.opq).toNat := fun z => rfl
    obtain ⟨y1, y2⟩ := pieceE_den hA hy R.n h1 h0;simp only [VR];show PC _ (.sl q.s) (y.den e.opq) _;simp only [PC];refine ⟨_, rfl, ?_⟩;have el := en l;have ec := en c;by_cases hz0 : l.n e.opq = 0
    ·exact .inl ⟨List.eq_nil_of_length_eq_zero (by omega), .inr ⟨_, _, by rw [hz0]⟩⟩
    ·refine .inr ⟨b', p, c.n e.opq + (if opn then e.spare id else 0), arr, by rw [y1], by omega, Env.frz_at _ _ _, fun j d hj => ?_⟩;obtain ⟨g3, _⟩ := y2 j d hj;have := R.cell _ _ g3;rw [hp (by omega), hz, ← Nat.add_mul];exact PC.mono g1.h _ _ _ this
   ·cases k
  ·cases k
 ·cases k

mutual
def Sh.leaves : Sh → List Sh
 | .agg l => Sh.leavess l
 | .int k => [.int k]
 | .bool => [.bool]
 | .str => [.str]
 | .sl s => [.sl s]
def Sh.leavess : List Sh → List Sh
 | [] => []
 | s :: l => s.leaves ++ Sh.leavess l
end

def frzL (A : Ask) : St → List Sh → List AV → List AV × St × Bool
 | s, sh :: r, v :: l => match frzS A s sh v with
  | some (v', s') => match frzL A s' r l with
   | (l', s2, _) => (v' :: l', s2, true)
  | none => match frzL A s r l with
   | (l', s2, b) => (v :: l', s2, b)
 | s, [], l => (l, s, false)
 | s, _ :: _, [] => ([], s, false)
theorem frzL_ok {Ω : Om} {w0 : Base} {A : Ask} (hA : AskOK Ω A) {w : World} : ∀ {ls : List Sh} {l : List AV} {e : Env} {s s' : St} {l' : List AV} {b : Bool}, frzL A s ls l = (l', s', b) → Rel Ω w0 e s w → ∀ {c : List Value}, VRs e l c →
  ∃ e', e.le e' ∧ Rel Ω w0 e' s' w ∧ VRs e' l' c
 | [], l, e, s, s', l', b, k, h, c, hc => by
  simp only [frzL, pme] at k;obtain ⟨rfl, rfl, _⟩ := k;exact ⟨e, Env.le_refl e, h, hc⟩
 | _ :: _, [], e, s, s', l', b, k, h, c, hc => by
  simp only [frzL, pme] at k;obtain ⟨rfl, rfl, _⟩ := k;exact ⟨e, Env.le_refl e, h, hc⟩
 | sh :: r, v :: l, e, s, s', l', b, k, h, c, hc => by
  obtain ⟨x, c', rfl, h1, h2⟩ := hc.split;simp only [frzL] at k;split at k
  ·rename_i v' s1 h3;obtain ⟨e1, g1, g2, g3⟩ := frzS_ok hA h3 h h1;simp only [pme] at k;obtain ⟨rfl, rfl, _⟩ := k;obtain ⟨e2, f1, f2, f3⟩ := frzL_ok hA (ls := r) (l := l) rfl g2 (h2.mono g1);exact ⟨e2, Env.le_trans g1 f1, f2, by simp only [VRs]; exact ⟨x, c', rfl, g3.mono f1, f3⟩⟩
  ·simp only [pme] at k;obtain ⟨rfl, rfl, _⟩ := k;obtain ⟨e2, f1, f2, f3⟩ := frzL_ok hA (ls := r) (l := l) rfl h h2;exact ⟨e2, f1, f2, by simp only [VRs]; exact ⟨x, c', rfl, h1.mono f1, f3⟩⟩

def frzRow (A : Ask) (s : St) (ls : List Sh) (x : AV) : St := match x with
 | .slice id 0 _ _ _ => match s.heap.get id with
  | some (.cells b) => match b.opn || b.str || !Nat.beq ls.length b.size, b.from 0 b.size with
   | false, some l => match frzL A s ls l with
    | (l', s', true) => match s'.heap.get id with
     | some (.cells b') => match b'.str with
      | false => s'.setRow id (AB.ofL b'.elem l')
      | true => s
     | _ => s
    | _ => s
   | _, _ => s
  | _ => s
 | _ => s
theorem frzRow_ok {Ω : Om} {w0 : Base} {A : Ask} (hA : AskOK Ω A) {e : Env} {s : St} {w : World} (ls : List Sh) (x : AV) (h : Rel Ω w0 e s w) : ∃ e', e.le e' ∧ Rel Ω w0 e' (frzRow A s ls x) w := by
 have same : ∃ e', e.le e' ∧ Rel Ω w0 e' s w := ⟨e, Env.le_refl e, h⟩
 unfold frzRow;split
 ·rename_i id ln cp opn;split
  ·rename_i b hb;split
   ·rename_i l hc hl;simp only [Bool.or_eq_false_iff, Bool.not_eq_false'] at hc;split
    ·rename_i l' s' hz;split
     ·rename_i b' hb';split
      ·rename_i hs;obtain ⟨k, hk, hm, h0, arr, fz, hcell, R⟩ := h.obj id _ hb;have hv := AB.from_vrs R _ _ _ hl;rw [List.drop_zero, List.take_of_length_le (by have := R.size; rw [hc.1.1] at this; simp at this; simp; omega)] at hv;obtain ⟨e', g1, g2, g3⟩ := frzL_ok hA hz h hv;obtain ⟨k', hk', _, h0', arr', fz', hcell', R'⟩ := g2.obj id _ hb';obtain rfl : k' = k := by rw [(g1.loc id k hk).1] at hk'; exact (Option.some.inj hk').symm
       rw [hcell] at hcell';simp only [sme, Obj.cells.injEq] at hcell';obtain ⟨rfl, he, rfl⟩ := hcell';have hf := R'.plain hs;subst hf;exact ⟨e', g1, g2.setRow hb' hk' (by rw [hcell, he]; rfl) (g3.rowR _ _) (fun _ _ => rfl) rfl rfl rfl (Nat.le_refl _)⟩
      ·exact same
     ·exact same
    ·exact same
   ·exact same
  ·exact same
 ·exact same

def frzV (A : Ask) (s : St) (ls : List Sh) (v : AV) : AV × St := match v with
 | .agg cs => match frzL A s ls cs with
  | (l', s', _) => (.agg l', s')
 | v => match ls with
  | [sh] => match frzS A s sh v with
   | some p => p
   | none => (v, s)
  | _ => (v, s)
theorem frzV_ok {Ω : Om} {w0 : Base} {A : Ask} (hA : AskOK Ω A) {e : Env} {s : St} {w : World} (ls : List Sh) {v : AV} (h : Rel Ω w0 e s w) {a : Value} (hv : VR e v a) : ∃ e', e.le e' ∧ Rel Ω w0 e' (frzV A s ls v).2 w ∧ VR e' (frzV A s ls v).1 a := by
 unfold frzV;split
 ·rename_i cs;simp only [VR] at hv;obtain ⟨as, rfl, hv⟩ := hv;obtain ⟨e', g1, g2, g3⟩ := frzL_ok hA (ls := ls) (l := cs) rfl h hv;exact ⟨e', g1, g2, by simp only [VR]; exact ⟨as, rfl, g3⟩⟩
 ·split
  ·rename_i sh;split
   ·rename_i p hp;obtain ⟨v', s'⟩ := p;exact frzS_ok hA hp h hv
   ·exact ⟨e, Env.le_refl e, h, hv⟩
  ·exact ⟨e, Env.le_refl e, h, hv⟩

def St.leavesAt (s : St) (a : AV) : List Sh := match a with
 | .vslice id _ _ _ _ _ => match s.vseqW id with
  | some q => q.s.leaves
  | none => []
 | .vptr id _ _ _ => match s.vseqW id with
  | some q => q.s.leaves
  | none => []
 | _ => []

def actV (P : Program) (A : Ask) (t : T AV) (s : St) (o : Oper) : Option Res :=
 match o.op with
 | .store ty a x => match evalO t a, evalO t x with
  | some a, some x => (storeV P A (frzV A s (s.leavesAt a) x).2 ty a (frzV A s (s.leavesAt a) x).1).map .skip
  | _, _ => none
 | .call { callee := .builtin .append, args := args, argTypes := tys } => match args.toList, tys.toList with
  | [x, y], [ty, u] => match evalO t x, evalO t y with
   | some a, some b => ofPair (match appendV P A s ty u a b with | some r => some r | none => match appendM P A s ty u a b with | some r => some r | none => match append0 P s ty u a b with | some r => some r | none => match appendF P s ty u a b with | some r => some r | none => appendZ P A s ty u a b)
   | _, _ => none
  | _, _ => none
 | _ => none

theorem actV_run {P : Program} {Ω : Om} {w0 : Base} {A : Ask} (hA : AskOK Ω A) {e : Env} {t : T AV} {a : Act} (h : FT e t a) {s : St} {w : World} (hr : Rel Ω w0 e s w) {o : Oper} {r : Res} (k : actV P A t s o = some r)
  (K : Act → World → Prop) (Q : Exit → Act → World → Prop) (H : ResPost Ω w0 e o a K Q w r) : o.wp P a w K Q := by
 have pair : ∀ (p : Option (AV × St)) (m : Sem Value), ofPair p = some r → (∀ v s', p = some (v, s') → ∃ e' x w', e.le e' ∧ VR e' v x ∧ Rel Ω w0 e' s' w' ∧ m.run P w = .ok x w') →
   (∀ x w', m.run P w = .ok x w' → (execOp a.eval o).run P w = .ok (.value x) w') → o.wp P a w K Q := by
  intro p m k h1 h2;cases p with
  | none => cases k
  | some p =>
   obtain ⟨v, s'⟩ := p;simp only [ofPair, sme] at k;subst k;obtain ⟨e', x, w', f1, f2, f3, f4⟩ := h1 v s' rfl;simp only [Oper.wp, h2 x w' f4, Oper.upon_value];exact H e' x w' f1 f2 f3
 unfold actV at k;split at k;case h_1 ty ad x hop =>
  split at k
  ·rename_i ad' x' hl hx;simp only [Option.map_eq_some_iff] at k;obtain ⟨s', hs, rfl⟩ := k;obtain ⟨e1, g1, g2, g3⟩ := frzV_ok hA (s.leavesAt ad') hr (evalO_vr h hx);obtain ⟨w', hrel, hrun⟩ := storeV_run hA hs g2 ((evalO_vr h hl).mono g1) g3;simp only [Oper.wp, execOp, hop, Sem.run_bind, hrun, Result.andThen_ok, Sem.run_pure, Oper.upon_skip];exact H e1 w' g1 hrel
  ·cases k
 case h_2 args tys hop =>
  split at k
  ·rename_i x y ty u ha ht;split at k
   ·rename_i a' b' hx hy;have last : ∀ (z : Value) (w' : World), (Builtin.append_ #[ty, u] o.type #[a.eval x, a.eval y]).run P w = .ok z w' → (execOp a.eval o).run P w = .ok (.value z) w' := fun z w' hm => by
     simp only [execOp, hop, resolve, invoke, Sem.run_bind, Sem.run_pure, Result.andThen_ok, builtin, toList_two' ha, toList_two' ht];simp [hm]
    refine pair _ (Builtin.append_ #[ty, u] o.type #[a.eval x, a.eval y]) k (fun v s' hp => ?_) last;split at hp
    ·rename_i r hr';simp only [sme] at hp;subst hp;exact appendV_run hA hr' hr (evalO_vr h hx) (evalO_vr h hy)
    ·split at hp
     ·rename_i r hr';simp only [sme] at hp;subst hp;exact appendM_run hA hr' hr (evalO_vr h hx) (evalO_vr h hy)
     ·split at hp
      ·rename_i r hr';simp only [sme] at hp;subst hp;exact append0_run hr' hr (evalO_vr h hx) (evalO_vr h hy)
      ·split at hp
       ·rename_i r hr';simp only [sme] at hp;subst hp;exact appendF_run hr' hr (evalO_vr h hx) (evalO_vr h hy)
       ·exact appendZ_run hA hp hr (evalO_vr h hx) (evalO_vr h hy)
   ·cases k
  ·cases k
 case h_3 => cases k

def AV.leafAt (s : St) : AV → Sh
 | .slice id _ _ _ _ => match s.heap.get id with
  | some (.seq q) => .sl (.int q.k)
  | _ => .bool
 | .sslice id _ _ _ _ => match s.heap.get id with
  | some (.seq q) => .sl (.int q.k)
  | _ => .bool
 | _ => .bool
def St.leavesFor (s : St) (a b : AV) : List Sh := match a with
 | .vslice _ _ _ _ _ _ => s.leavesAt a
 | _ => match b with
  | .slice id 0 _ _ _ => match s.heap.get id with
   | some (.cells r) => match r.from 0 r.size with
    | some l => l.map (AV.leafAt s)
    | none => []
   | _ => []
  | _ => []
def frzOp (A : Ask) (t : T AV) (s : St) (o : Oper) : Option St := match o.op with
 | .call { callee := .builtin .append, args := args, .. } => match args.toList with
  | [x, y] => match evalO t x, evalO t y with
   | some a, some b => some (frzRow A s (s.leavesFor a b) b)
   | _, _ => none
  | _ => none
 | _ => none
theorem frzOp_ok {Ω : Om} {w0 : Base} {A : Ask} (hA : AskOK Ω A) {e : Env} {t : T AV} {s s' : St} {w : World} {o : Oper} (k : frzOp A t s o = some s') (h : Rel Ω w0 e s w) : ∃ e', e.le e' ∧ Rel Ω w0 e' s' w := by
 unfold frzOp at k;split at k
 ·split at k
  ·split at k
   ·simp only [sme] at k;subst k;exact frzRow_ok hA _ _ h
   ·cases k
  ·cases k
 ·cases k

def actB1 (P : Program) (A : Ask) (call : Caller) (t : T AV) (s : St) (o : Oper) : Option Res :=
 match frzOp A t s o with
 | some s1 => match (match actB0 P A call t s1 o with
   | some r => some r
   | none => actV P A t s1 o) with
  | some (.dfr _ _ _) => none
  | r => r
 | none => match actB0 P A call t s o with
  | some r => some r
  | none => actV P A t s o

theorem ResPost.later {Ω : Om} {w0 : Base} {e e1 : Env} (g : e.le e1) {o : Oper} {a : Act} {K : Act → World → Prop} {Q : Exit → Act → World → Prop} {w : World} {r : Res} (H : ResPost Ω w0 e o a K Q w r) (hd : ∀ f cs as, r ≠ .dfr f cs as) : ResPost Ω w0 e1 o a K Q w r := by
 cases r with
 | val v s => exact fun e' x w' h1 h2 h3 => H e' x w' (Env.le_trans g h1) h2 h3
 | skip s => exact fun e' w' h1 h2 => H e' w' (Env.le_trans g h1) h2
 | pan c s => exact fun e' l w' h1 h2 h3 => H e' l w' (Env.le_trans g h1) h2 h3
 | dfr f cs as => exact absurd rfl (hd f cs as)

theorem actB1_run {P : Program} (S : Sound P) {Ω : Om} {w0 : Base} {call : Caller} (hc : CallOK P Ω w0 call) {A : Ask} (hA : AskOK Ω A) {e : Env} {t : T AV} {a : Act} (h : FT e t a) {s : St} {w : World} (hr : Rel Ω w0 e s w) {o : Oper} {r : Res} (k : actB1 P A call t s o = some r)
  (K : Act → World → Prop) (Q : Exit → Act → World → Prop) (H : ResPost Ω w0 e o a K Q w r) : o.wp P a w K Q := by
 have both : ∀ {e1 : Env} {s1 : St}, Rel Ω w0 e1 s1 w → FT e1 t a → ResPost Ω w0 e1 o a K Q w r → (match actB0 P A call t s1 o with
   | some r => some r
   | none => actV P A t s1 o) = some r → o.wp P a w K Q := by
  intro e1 s1 hr1 h1 H1 k1;split at k1
  ·rename_i r' hr';simp only [sme] at k1;subst k1;exact actB0_run S hc hA h1 hr1 hr' K Q H1
  ·exact actV_run hA h1 hr1 k1 K Q H1
 unfold actB1 at k;split at k
 ·rename_i s1 hs;obtain ⟨e1, g1, g2⟩ := frzOp_ok hA hs hr;split at k
  ·cases k
  ·rename_i hd;exact both g2 (fun i v hv => let ⟨x, a1, a2⟩ := h i v hv; ⟨x, a1, a2.mono g1⟩) (H.later g1 fun f cs as x => hd f cs as (by rw [k, x])) k
 ·exact both hr h H k

end Go.Ev
