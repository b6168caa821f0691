/- Rows of values: append, store. No condition. -/
import Derived.Test.YtkejfocfmndogaaSyr
namespace Go.Ev
open Go.RowKit

/-! ### cells as a term -/
def recE : List E → E → E
 | [], r => r
 | a :: l, r => recE l (.bi .snoc r a)
theorem recE_den (Ω : Om) : ∀ (l : List E) (r : E), ((recE l r).den Ω).toList = (r.den Ω).toList ++ l.map (E.den Ω)
 | [], r => by simp [recE]
 | a :: l, r => by
  rw [recE, recE_den Ω l]
  simp [E.den, BO.den, D.toList_list]

mutual
def shC : Sh → List AV → Option (E × List AV)
 | .int k, l => match l with
  | v :: r => match toE v with
   | some (k', x) => match decide (k' = k) with
    | true => some (x, r)
    | false => none
   | none => none
  | [] => none
 | .bool, l => match l with
  | .bool b :: r => some (.int (if b then 1 else 0), r)
  | _ => none
 | .str, l => match l with
  | v :: r => match toS v with
   | some (_, x) => some (x, r)
   | none => none
  | [] => none
 | .sl s, l => match l with
  | .pv s' x :: r => match s'.beq s with
   | true => some (x, r)
   | false => none
  | .nilslice :: r => some (.lits [], r)
  | .hollow :: r => some (.lits [], r)
  | .empty :: r => some (.lits [], r)
  | _ => none
 | .agg m, l => match shCs m l with
  | some (es, r) => some (recE es (.lits []), r)
  | none => none
def shCs : List Sh → List AV → Option (List E × List AV)
 | [], l => some ([], l)
 | s :: m, l => match shC s l with
  | some (x, r) => match shCs m r with
   | some (es, r') => some (x :: es, r')
   | none => none
  | none => none
end

theorem VRs.split {e : Env} {v : AV} {l : List AV} {c : List Value} (h : VRs e (v :: l) c) : ∃ x r, c = [x] ++ r ∧ VR e v x ∧ VRs e l r := by
 simp only [VRs] at h
 obtain ⟨x, r, rfl, h1, h2⟩ := h
 exact ⟨x, r, rfl, h1, h2⟩

mutual
theorem shC_ok {e : Env} : ∀ {s : Sh} {l : List AV} {x : E} {r : List AV}, shC s l = some (x, r) → ∀ {c : List Value}, VRs e l c → ∃ c1 c2, c = c1 ++ c2 ∧ PC e.h s (x.den e.opq) c1 ∧ VRs e r c2
 | .int k, l, x, r, h, c, hc => by
  simp only [shC] at h
  split at h
  ·rename_i v r'
   split at h
   ·rename_i k' y hy
    split at h
    ·rename_i hk
     have hk := of_decide_eq_true hk
     subst hk
     simp only [Option.some.injEq, Prod.mk.injEq] at h
     obtain ⟨rfl, rfl⟩ := h
     obtain ⟨a, q, rfl, h1, h2⟩ := hc.split
     obtain ⟨rfl, h3⟩ := toE_val hy h1
     exact ⟨_, _, rfl, by simp only [PC]; exact ⟨rfl, h3⟩, h2⟩
    ·cases h
   ·cases h
  ·cases h
 | .bool, l, x, r, h, c, hc => by
  simp only [shC] at h
  split at h
  ·rename_i b r'
   simp only [Option.some.injEq, Prod.mk.injEq] at h
   obtain ⟨rfl, rfl⟩ := h
   obtain ⟨a, q, rfl, h1, h2⟩ := hc.split
   simp only [VR] at h1
   subst h1
   refine ⟨_, _, rfl, ?_, h2⟩
   simp only [PC, E.den, D.toInt_int]
   cases b <;> simp
  ·cases h
 | .str, l, x, r, h, c, hc => by
  simp only [shC] at h
  split at h
  ·rename_i v r'
   split at h
   ·rename_i n y hy
    simp only [Option.some.injEq, Prod.mk.injEq] at h
    obtain ⟨rfl, rfl⟩ := h
    obtain ⟨a, q, rfl, h1, h2⟩ := hc.split
    obtain ⟨rfl, _, h3⟩ := toS_val hy h1
    exact ⟨_, _, rfl, by simp only [PC]; exact ⟨rfl, h3⟩, h2⟩
   ·cases h
  ·cases h
 | .sl s, l, x, r, h, c, hc => by
  simp only [shC] at h
  have nil : ∀ a : Value, (a = .slice none 0 0 ∨ ∃ ad cp, a = .slice (some ad) 0 cp) → PC e.h (.sl s) ((E.lits []).den e.opq) [a] := fun a ha => by
   simp only [PC]
   exact ⟨a, rfl, .inl ⟨by simp [E.den, D.ofInts], ha⟩⟩
  split at h
  ·rename_i s' y r'
   split at h
   ·rename_i hs
    have hs := Sh.beq_eq hs
    subst hs
    simp only [Option.some.injEq, Prod.mk.injEq] at h
    obtain ⟨rfl, rfl⟩ := h
    obtain ⟨a, q, rfl, h1, h2⟩ := hc.split
    simp only [VR] at h1
    exact ⟨_, _, rfl, h1, h2⟩
   ·cases h
  ·simp only [Option.some.injEq, Prod.mk.injEq] at h
   obtain ⟨rfl, rfl⟩ := h
   obtain ⟨a, q, rfl, h1, h2⟩ := hc.split
   simp only [VR] at h1
   exact ⟨_, _, rfl, nil a (.inl h1), h2⟩
  ·simp only [Option.some.injEq, Prod.mk.injEq] at h
   obtain ⟨rfl, rfl⟩ := h
   obtain ⟨a, q, rfl, h1, h2⟩ := hc.split
   simp only [VR] at h1
   exact ⟨_, _, rfl, nil a (.inr h1), h2⟩
  ·simp only [Option.some.injEq, Prod.mk.injEq] at h
   obtain ⟨rfl, rfl⟩ := h
   obtain ⟨a, q, rfl, h1, h2⟩ := hc.split
   simp only [VR] at h1
   exact ⟨_, _, rfl, nil a h1, h2⟩
  ·cases h
 | .agg m, l, x, r, h, c, hc => by
  simp only [shC] at h
  split at h
  ·rename_i es r' hes
   simp only [Option.some.injEq, Prod.mk.injEq] at h
   obtain ⟨rfl, rfl⟩ := h
   obtain ⟨c1, c2, rfl, h1, h2⟩ := shCs_ok hes hc
   refine ⟨c1, c2, rfl, ?_, h2⟩
   simp only [PC]
   rw [recE_den]
   simpa [E.den, D.ofInts] using h1
  ·cases h
theorem shCs_ok {e : Env} : ∀ {m : List Sh} {l : List AV} {es : List E} {r : List AV}, shCs m l = some (es, r) → ∀ {c : List Value}, VRs e l c → ∃ c1 c2, c = c1 ++ c2 ∧ PCs e.h m (es.map (E.den e.opq)) c1 ∧ VRs e r c2
 | [], l, es, r, h, c, hc => by
  simp only [shCs, Option.some.injEq, Prod.mk.injEq] at h
  obtain ⟨rfl, rfl⟩ := h
  exact ⟨[], c, rfl, by simp [PCs], hc⟩
 | s :: m, l, es, r, h, c, hc => by
  simp only [shCs] at h
  split at h
  ·rename_i x r' hx
   split at h
   ·rename_i es' r'' hes
    simp only [Option.some.injEq, Prod.mk.injEq] at h
    obtain ⟨rfl, rfl⟩ := h
    obtain ⟨c1, c2, rfl, h1, h2⟩ := shC_ok hx hc
    obtain ⟨c3, c4, rfl, h3, h4⟩ := shCs_ok hes h2
    exact ⟨c1 ++ c3, c4, by simp, by simp only [PCs]; exact ⟨_, _, c1, c3, rfl, rfl, h1, h3⟩, h4⟩
   ·cases h
  ·cases h
end

mutual
theorem PC.ones {h : Pool} : ∀ (s : Sh) (d : D) (c : List Value), PC h s d c → ∀ v ∈ c, v.oneCell' = true
 | .int k, d, c, hc, v, hv => by simp only [PC] at hc; rw [hc.1] at hv; simp only [List.mem_singleton] at hv; subst hv; rfl
 | .bool, d, c, hc, v, hv => by simp only [PC] at hc; rw [hc] at hv; simp only [List.mem_singleton] at hv; subst hv; rfl
 | .str, d, c, hc, v, hv => by simp only [PC] at hc; rw [hc.1] at hv; simp only [List.mem_singleton] at hv; subst hv; rfl
 | .sl s, d, c, hc, v, hv => by
  simp only [PC] at hc
  obtain ⟨a, rfl, hc⟩ := hc
  simp only [List.mem_singleton] at hv
  subst hv
  rcases hc with ⟨_, rfl | ⟨ad, cp, rfl⟩⟩ | ⟨b, o, cp, arr, rfl, _⟩ <;> rfl
 | .agg l, d, c, hc, v, hv => by simp only [PC] at hc; exact PCs.ones l _ _ hc v hv
theorem PCs.ones {h : Pool} : ∀ (l : List Sh) (ds : List D) (c : List Value), PCs h l ds c → ∀ v ∈ c, v.oneCell' = true
 | [], ds, c, hc, v, hv => by simp only [PCs] at hc; rw [hc.2] at hv; simp at hv
 | s :: l, ds, c, hc, v, hv => by
  simp only [PCs] at hc
  obtain ⟨d, r, c1, c2, rfl, rfl, h1, h2⟩ := hc
  rcases List.mem_append.1 hv with hv | hv
  ·exact PC.ones s _ _ h1 v hv
  ·exact PCs.ones l _ _ h2 v hv
end

/-! ### append -/
def St.vseqW (s : St) (id : Nat) : Option VB := match s.heap.get id with
 | some (.vseq q) => some q
 | _ => none
theorem St.vseqW_some {s : St} {id : Nat} {q : VB} (h : s.vseqW id = some q) : s.heap.get id = some (.vseq q) := by
 unfold St.vseqW at h
 split at h
 ·rename_i q' hq
  simp only [Option.some.injEq] at h
  rw [hq, h]
 ·cases h

/-- One value behind those of a whole row of one's own. -/
def appendV (P : Program) (A : Ask) (s : St) (t u : TypeId) (d x : AV) : Option (AV × St) :=
 match P.underlying t, P.underlying u with
 | some (.slice _), some (.int _) => none
 | some (.slice el), some _ => match P.info? el with
  | some inf => match inf.zero with
   | some zv => match d with
    | .vslice id z (.int 0) len cap opn => match s.vseqW id with
     | some q => match Nat.beq z q.s.size && Nat.beq inf.size z && Nat.blt 0 inf.bytes && Nat.beq q.elem el && len.beq q.n && cap.beq q.n && (opn == q.opn) && Nat.beq zv.cells.size z with
      | true => match srcA { s.mem with ask := A } z x with
       | some (1, l) => match shC q.s l with
        | some (y, []) => match leB A ((E.int (2 * inf.bytes)).mul (q.n.add (.int 1))) (.int 281474976710656) with
         | true => some (.vslice s.nid z (.int 0) (q.n.add (.int 1)) (q.n.add (.int 1)) true, (s.del id).newO (.vseq ⟨el, q.s, q.n.add (.int 1), .bi .snoc q.x y, true⟩))
         | false => none
        | _ => none
       | _ => none
      | false => none
     | none => none
    | _ => none
   | none => none
  | none => none
 | _, _ => none

/-- The pieces of a row that got one more. -/
theorem VSeqR.snoc {e e' : Env} {id nid : Nat} {q : VB} {arr : Array Value} (R : VSeqR e id q arr) (ho : e'.opq = e.opq) (hp : Pool.le e.h e'.h) {el : TypeId} {y : E} {c : List Value} (hc : PC e'.h q.s (y.den e'.opq) c) {cur : Array Value} {sp : Nat}
  (hs : e'.spare nid = sp) {tail : List Value} (hcur : cur.toList = arr.toList.take ((q.x.den e.opq).toList.length * q.s.size) ++ c ++ tail) (ht : tail.length = sp * q.s.size) :
  VSeqR e' nid ⟨el, q.s, q.n.add (.int 1), .bi .snoc q.x y, true⟩ cur := by
 have hden : ((E.bi .snoc q.x y).den e'.opq).toList = (q.x.den e.opq).toList ++ [y.den e.opq] := by
  rw [ho]; simp only [E.den, BO.den, D.toList_list]
 have hl := PC.length _ _ _ hc
 have hsz := R.size
 have hlen : (arr.toList.take ((q.x.den e.opq).toList.length * q.s.size)).length = (q.x.den e.opq).toList.length * q.s.size := by
  rw [List.length_take]; simp; omega
 refine ⟨?_, ?_, ?_⟩
 ·show (q.n.add (.int 1)).i e'.opq = _
  rw [hden, E.add_i, ho, R.n, List.length_append]
  simp [E.i, E.den]
 ·have h1 := congrArg List.length hcur
  rw [List.length_append, List.length_append, hlen, hl, ht] at h1
  simp only [if_pos]
  rw [hden, List.length_append, hs, Nat.add_mul, List.length_singleton, Nat.one_mul]
  simpa using h1
 ·intro j d hj
  simp only at hj ⊢
  rw [hden] at hj
  by_cases hlt : j < (q.x.den e.opq).toList.length
  ·rw [List.getElem?_append_left hlt] at hj
   have h1 := PC.mono hp _ _ _ (R.cell j d hj)
   have h2 : (j + 1) * q.s.size ≤ (q.x.den e.opq).toList.length * q.s.size := Nat.mul_le_mul_right _ hlt
   rw [Nat.add_mul, Nat.one_mul] at h2
   have : (cur.toList.drop (j * q.s.size)).take q.s.size = (arr.toList.drop (j * q.s.size)).take q.s.size := by
    rw [hcur, List.append_assoc, List.drop_append_of_le_length (by omega), List.take_append_of_le_length (by rw [List.length_drop]; omega), List.drop_take, List.take_take]
    congr 1
    omega
   rw [this]
   exact h1
  ·have hj2 : j = (q.x.den e.opq).toList.length := by
    have := (List.getElem?_eq_some_iff.1 hj).1
    rw [List.length_append, List.length_singleton] at this
    omega
   subst hj2
   rw [List.getElem?_append_right (Nat.le_refl _), Nat.sub_self] at hj
   simp only [List.getElem?_cons_zero, Option.some.injEq] at hj
   subst hj
   have : (cur.toList.drop ((q.x.den e.opq).toList.length * q.s.size)).take q.s.size = c := by
    rw [hcur, List.append_assoc, List.drop_append, List.drop_of_length_le (by omega), List.nil_append, hlen, Nat.sub_self, List.drop_zero, List.take_append_of_le_length (by omega), List.take_of_length_le (by omega)]
   rw [this, ← ho]
   exact hc

theorem appendV_run {P : Program} {Ω : Om} {w0 : Base} {A : Ask} (hA : AskOK Ω A) {e : Env} {s s' : St} {w : World} {t u ty : TypeId} {d x v : AV} (k : appendV P A s t u d x = some (v, s')) (h : Rel Ω w0 e s w) {d' x' : Value} (hd : VR e d d') (hx : VR e x x') :
  ∃ e' y w', e.le e' ∧ VR e' v y ∧ Rel Ω w0 e' s' w' ∧ (Builtin.append_ #[t, u] ty #[d', x']).run P w = .ok y w' := by
 obtain rfl := h.opq
 have reads : ∀ {w1 : World}, Rel e.opq w0 e s w1 → Reads P e { s.mem with ask := A } (fun w' => w' = w1) := fun h1 =>
  { cell := (h1.reads (P := P)).cell, apart := (h1.reads (P := P)).apart, fact := (h1.reads (P := P)).fact, ask := hA, zero := (h1.reads (P := P)).zero, seq := (h1.reads (P := P)).seq, pool := (h1.reads (P := P)).pool, vseq := (h1.reads (P := P)).vseq }
 unfold appendV at k
 split at k
 ·cases k
 ·rename_i el du hni ht hu
  have hdu : ∀ k, du ≠ .int k := fun kk hk => by subst hk; exact hni _ rfl
  split at k
  ·rename_i inf hi
   split at k
   ·rename_i zv hz
    split at k
    ·rename_i id z len cap opn
     split at k
     ·rename_i q hq
      split at k
      ·rename_i hc
       simp only [Bool.and_eq_true, beq_iff_eq] at hc
       obtain ⟨⟨⟨⟨⟨⟨⟨c1, c2⟩, c3⟩, c4⟩, c5⟩, c6⟩, c7⟩, c8⟩ := hc
       have c1 := beq_t c1
       have c2 := beq_t c2
       have hpos : 0 < inf.bytes := by simpa [Nat.blt_eq] using c3
       have c4 := beq_t c4
       have c5 := E.beq_eq c5
       have c6 := E.beq_eq c6
       have c8 := beq_t c8
       subst c5 c6 c7 c1
       split at k
       ·rename_i l hsrc
        split at k
        ·rename_i y hsh
         split at k
         ·rename_i hb
          simp only [Option.some.injEq, Prod.mk.injEq] at k
          obtain ⟨rfl, rfl⟩ := k
          have hb := leB_val hA hb
          rw [E.mul_i, E.add_i] at hb
          have hb : (2 * inf.bytes : Int) * (q.n.i e.opq + 1) ≤ 281474976710656 := hb
          have hob := St.vseqW_some hq
          obtain ⟨kb, hloc, hm, h0, arr, hcell, hR⟩ := h.obj id _ hob
          simp only [VR] at hd
          obtain ⟨b, p, hb2, rfl, hp, g1, g2, g3⟩ := hd
          obtain rfl : b = kb := by rw [hloc] at hb2; exact (Option.some.inj hb2).symm
          have hn := hR.n
          have hnn := n_of_i (Ω := e.opq) (x := q.n) (by omega)
          have hL : q.n.n e.opq = (q.x.den e.opq).toList.length := by omega
          have hsz := hR.size
          have hz0 : ∀ {w1 : World}, Rel e.opq w0 e s w1 → ∃ xs : List Value, PC e.h q.s (y.den e.opq) xs ∧ xs.length = q.s.size ∧ (∀ w, (Builtin.lenOf x').run P w = .ok 1 w) ∧ (Builtin.firstCells q.s.size 1 x').run P w1 = .ok xs.toArray w1 := fun h1 => by
           obtain ⟨xs, x1, x2, x3⟩ := srcA_run (reads h1) hsrc hx
           obtain ⟨p1, p2, rfl, p3, p4⟩ := shC_ok hsh x1
           simp only [VRs] at p4
           subst p4
           rw [List.append_nil] at x3
           exact ⟨p1, p3, PC.length _ _ _ p3, x2, x3 _ rfl⟩
          have hp0 : (q.n.n e.opq + if q.opn = true then e.spare id else 0) ≠ 0 → p = 0 := fun hne => by
           have := hp hne
           simpa [E.n, E.den, D.nat] using this
          have hNi : (q.n.add (.int 1)).i e.opq = (q.n.n e.opq + 1 : Nat) := by rw [E.add_i]; simp only [E.i, E.den, D.toInt_int] at hnn ⊢; omega
          have hNn : (q.n.add (.int 1)).n e.opq = q.n.n e.opq + 1 := by have := n_of_i (Ω := e.opq) (x := q.n.add (.int 1)) (by omega); omega
          by_cases hin : q.n.n e.opq + 1 ≤ q.n.n e.opq + if q.opn = true then e.spare id else 0
          ·-- in place
           obtain ⟨xs, y1, y2, y3, y4⟩ := hz0 h
           have ho : q.opn = true := by
            cases hq2 : q.opn with
            | true => rfl
            | false => rw [hq2] at hin; simp at hin; omega
           simp only [ho, if_true] at hin hsz hp0
           have hp1 := hp0 (by omega)
           subst hp1
           have hroom : (q.x.den e.opq).toList.length * q.s.size + q.s.size ≤ arr.size := by
            rw [hsz]
            have : 1 * q.s.size ≤ e.spare id * q.s.size := Nat.mul_le_mul_right _ (by omega)
            omega
           obtain ⟨cur', w', hr, hg', hoth, e1, e2, e3, e4, hcl⟩ := run_storeCells_row (P := P) b ((q.x.den e.opq).toList.length * q.s.size) q.elem xs 0 arr w hcell (by rw [y2]; omega) (PC.ones _ _ _ y1)
           rw [Nat.add_zero] at hcl
           have hdel := h.del id
           have hnid : (s.del id).nid = s.nid := by rw [St.del_eq]; rfl
           have hfr : e.loc (s.del id).nid = none := by rw [hnid]; exact h.fresh s.next (Nat.le_refl _)
           have hle := Env.le_newB (s := s.del id) hfr b (e.spare id - 1) 0
           have hnp : e.h b = none := h.apart _ _ _ hob rfl hloc
           obtain ⟨_, hrel⟩ := hdel.newO (w' := w') (.vseq ⟨el, q.s, q.n.add (.int 1), .bi .snoc q.x y, true⟩) b (e.spare id - 1) 0 (h.below.step e1 e2 e3 (by rw [e4]; exact Nat.le_refl _) fun j hj => hoth j (Base.mine_ne hm hj))
            ⟨hm, by simp [Env.newB], cur', by rw [← c4]; exact hg', hR.snoc (e' := Env.newB e (s.del id) b (e.spare id - 1) 0) (sp := e.spare id - 1) (tail := arr.toList.drop ((q.x.den e.opq).toList.length * q.s.size + xs.length)) rfl hle.h (by simpa [Env.newB] using y1) (by simp [Env.newB]) hcl (by
             rw [List.length_drop, y2, Nat.sub_mul, Nat.one_mul]; simp; omega)⟩
            (fun i o' hi' j hj => by
             have hne : i ≠ id := by
              intro x
              subst x
              simp [St.del_eq, T.get_put] at hi'
             have hi2 : s.heap.get i = some o' := by simpa [St.del_eq, T.get_put, hne] using hi'
             have : j ≠ b := fun x => hne (h.inj1 hi2 hob hm hnp (x ▸ hj) hloc)
             exact ⟨this, hoth j this⟩) (fun j arr hj => hoth j (fun x => by subst x; rw [hnp] at hj; cases hj)) (fun _ => hnp)
           refine ⟨_, .slice (some ⟨b, 0, none⟩) (q.n.n e.opq + 1) (q.n.n e.opq + e.spare id), w', hle, ?_, hrel, ?_⟩
           ·simp only [VR]
            refine ⟨b, 0, by simp [Env.newB, hnid], ?_, ?_, ?_, ?_, ?_⟩
            ·simp only [Env.newB, hnid, if_true, hNn]
             congr 1
             omega
            ·intro _; simp [E.n, E.den, D.nat]
            ·simp only [Env.newB]; omega
            ·exact Int.le_refl 0
            ·exact Int.le_refl _
           ·simp only [ho, if_true]
            rw [run_append_in ht hi hu hdu (y3 w) (by rw [c2]; exact y4) hin]
            simp only [add_none, c2, hL, hr, Result.andThen_ok, Nat.zero_add]
          ·-- anew
           obtain ⟨xs, y1, y2, y3, y4⟩ := hz0 h.drew
           obtain ⟨_, _, _, y3', _⟩ := hz0 h
           have hlenT : (arr.toList.take ((q.x.den e.opq).toList.length * q.s.size)).length = (q.x.den e.opq).toList.length * q.s.size := by
            rw [List.length_take]; simp; omega
           have hold : (Builtin.firstCells inf.size (q.n.n e.opq) (.slice (some ⟨b, p, none⟩) (q.n.n e.opq) (q.n.n e.opq + if q.opn = true then e.spare id else 0))).run P w.drew = .ok (arr.toList.take ((q.x.den e.opq).toList.length * q.s.size)).toArray w.drew := by
            simp only [Builtin.firstCells]
            rw [c2, hL]
            exact run_loadCells_at _ _ _ _ _ hlenT fun j v hj => by
             have hj1 := (List.getElem?_eq_some_iff.1 hj).1
             rw [hlenT] at hj1
             have hne : (q.x.den e.opq).toList.length ≠ 0 := fun x => by rw [x, Nat.zero_mul] at hj1; omega
             rw [hp0 (by omega), Nat.zero_add, cell_row (w := w.drew) (by exact hcell)]
             rw [List.getElem?_take, if_pos hj1] at hj
             simpa using hj
           have hfit : 2 * (q.n.n e.opq + 1) * inf.bytes ≤ 281474976710656 := by
            have h1 : 2 * inf.bytes * (q.n.n e.opq + 1) ≤ 281474976710656 := by
             rw [← hnn] at hb
             apply Int.ofNat_le.1
             rw [Int.natCast_mul, Int.natCast_mul, Int.natCast_add]
             exact hb
            have : 2 * (q.n.n e.opq + 1) * inf.bytes = 2 * inf.bytes * (q.n.n e.opq + 1) := by rw [Nat.mul_assoc, Nat.mul_comm (q.n.n e.opq + 1), ← Nat.mul_assoc]
            omega
           have hsm : 2 * (q.n.n e.opq + 1) ≤ 281474976710656 := Nat.le_trans (Nat.le_mul_of_pos_right _ hpos) hfit
           have hrun := run_append_new (ty := ty) ht hi hz hu hdu (base := some ⟨b, p, none⟩) (sLen := q.n.n e.opq) (sCap := q.n.n e.opq + if q.opn = true then e.spare id else 0) (y3 w) (by rw [c2]; exact y4) hold hin (by omega) (growslice_fits2 (by omega) hfit)
           have hge := grownCap_ge w (q.n.n e.opq + 1) (q.n.n e.opq + if q.opn = true then e.spare id else 0) el
           generalize hcap : grownCap w (q.n.n e.opq + 1) (q.n.n e.opq + if q.opn = true then e.spare id else 0) el = cp at hrun hge
           have hdel := h.del id
           have hnid : (s.del id).nid = s.nid := by rw [St.del_eq]; rfl
           have hfr : e.loc (s.del id).nid = none := by rw [hnid]; exact h.fresh s.next (Nat.le_refl _)
           have hle0 := Env.le_newB (s := s.del id) hfr w.heap.size (cp - (q.n.n e.opq + 1)) 0
           obtain ⟨hle, hrel⟩ := hdel.drew.newO (w' := w.drew.alloc (.cells ((arr.toList.take ((q.x.den e.opq).toList.length * q.s.size)).toArray ++ xs.toArray ++ Builtin.zeroCells zv.cells (cp - (q.n.n e.opq + 1))) el)) (.vseq ⟨el, q.s, q.n.add (.int 1), .bi .snoc q.x y, true⟩) w.heap.size (cp - (q.n.n e.opq + 1)) 0 (hdel.drew.below.alloc _)
            ⟨Base.mine_new h.below, by simp [Env.newB], _, heap_alloc_new w.drew _, hR.snoc (e' := Env.newB e (s.del id) w.heap.size (cp - (q.n.n e.opq + 1)) 0) (c := xs) (sp := cp - (q.n.n e.opq + 1)) (tail := (Builtin.zeroCells zv.cells (cp - (q.n.n e.opq + 1))).toList) rfl hle0.h (by simpa [Env.newB] using y1) (by simp [Env.newB]) (by simp) (by
             rw [Array.length_toList, zeroCells_len, c8])⟩
            (fun id' o hid j hj => have := hdel.drew.loc_lt hid hj; ⟨by simp at this; omega, heap_alloc_old w.drew _ j this⟩) (fun j _ hj => heap_alloc_old w.drew _ j (hdel.drew.pool_lt hj)) (fun _ => hdel.drew.pool_new (Nat.le_refl _))
           refine ⟨_, _, _, hle, ?_, hrel, hrun⟩
           simp only [VR]
           refine ⟨w.heap.size, 0, by simp [Env.newB, hnid], ?_, ?_, ?_, ?_, ?_⟩
           ·simp only [Env.newB, hnid, if_true, hNn]
            congr 1
            omega
           ·intro _; simp [E.n, E.den, D.nat]
           ·simp only [Env.newB]; omega
           ·exact Int.le_refl 0
           ·exact Int.le_refl _
         ·cases k
        ·cases k
       ·cases k
      ·cases k
     ·cases k
    ·cases k
   ·cases k
  ·cases k
 ·cases k

/-! ### store -/
theorem VSeqR.upd {e : Env} {id : Nat} {q : VB} {arr : Array Value} (R : VSeqR e id q arr) {j y : E} (hj : j.n e.opq < (q.x.den e.opq).toList.length) {c : List Value} (hc : PC e.h q.s (y.den e.opq) c) {cur : Array Value}
  (hcur : cur.toList = arr.toList.take (j.n e.opq * q.s.size) ++ c ++ arr.toList.drop (j.n e.opq * q.s.size + c.length)) :
  VSeqR e id { q with x := .tr .upd q.x j y } cur := by
 have hden : ((E.tr .upd q.x j y).den e.opq).toList = (q.x.den e.opq).toList.set (j.n e.opq) (y.den e.opq) := by
  simp only [E.den, TO.den, D.toList_list]; rfl
 have hl := PC.length _ _ _ hc
 have hsz := R.size
 have hroom : (j.n e.opq + 1) * q.s.size ≤ (q.x.den e.opq).toList.length * q.s.size := Nat.mul_le_mul_right _ hj
 rw [Nat.add_mul, Nat.one_mul] at hroom
 have hlen : (arr.toList.take (j.n e.opq * q.s.size)).length = j.n e.opq * q.s.size := by
  rw [List.length_take]; simp; omega
 have hcs : cur.size = arr.size := by
  have h1 := congrArg List.length hcur
  rw [List.length_append, List.length_append, hlen, hl, List.length_drop] at h1
  simp only [Array.length_toList] at h1
  omega
 refine ⟨?_, ?_, ?_⟩
 ·show q.n.i e.opq = _
  rw [hden, List.length_set]; exact R.n
 ·show cur.size = _
  rw [hden, List.length_set, hcs]; exact hsz
 ·intro i d hi
  simp only at hi ⊢
  rw [hden, List.getElem?_set] at hi
  by_cases hij : j.n e.opq = i
  ·rw [if_pos hij, if_pos hj] at hi
   simp only [Option.some.injEq] at hi
   subst hi hij
   have : (cur.toList.drop (j.n e.opq * q.s.size)).take q.s.size = c := by
    rw [hcur, List.append_assoc, List.drop_append, List.drop_of_length_le (by omega), List.nil_append, hlen, Nat.sub_self, List.drop_zero, List.take_append_of_le_length (by omega), List.take_of_length_le (by omega)]
   rw [this]; exact hc
  ·rw [if_neg hij] at hi
   have h1 := R.cell i d hi
   have hil := (List.getElem?_eq_some_iff.1 hi).1
   have : (cur.toList.drop (i * q.s.size)).take q.s.size = (arr.toList.drop (i * q.s.size)).take q.s.size := by
    rcases Nat.lt_or_gt_of_ne hij with hlt | hgt
    ·have h2 : (j.n e.opq + 1) * q.s.size ≤ i * q.s.size := Nat.mul_le_mul_right _ hlt
     rw [Nat.add_mul, Nat.one_mul] at h2
     rw [hcur, List.append_assoc, List.drop_append, List.drop_of_length_le (by omega), List.nil_append, hlen, List.drop_append, List.drop_of_length_le (by omega), List.nil_append, List.drop_drop]
     congr 2
     omega
    ·have h2 : (i + 1) * q.s.size ≤ j.n e.opq * q.s.size := Nat.mul_le_mul_right _ hgt
     rw [Nat.add_mul, Nat.one_mul] at h2
     rw [hcur, List.append_assoc, List.drop_append_of_le_length (by omega), List.take_append_of_le_length (by rw [List.length_drop]; omega), List.drop_take, List.take_take]
     congr 1
     omega
   rw [this]; exact h1

/-- A whole value, at a place of one's own row. -/
def storeV (P : Program) (A : Ask) (s : St) (ty : TypeId) (a v : AV) : Option St :=
 match a, P.info? ty with
 | .vptr id z j 0, some inf => match s.vseqW id with
  | some q => match Nat.beq z q.s.size && Nat.beq inf.size z && ge0 A j && ltB A j q.n && !v.isOpq with
   | true => match shC q.s v.cells with
    | some (y, []) => some (s.setO id (.vseq { q with x := .tr .upd q.x j y }))
    | _ => none
   | false => none
  | none => none
 | _, _ => none

theorem storeV_run {P : Program} {Ω : Om} {w0 : Base} {A : Ask} (hA : AskOK Ω A) {e : Env} {s s' : St} {w : World} {ty : TypeId} {a v : AV} (k : storeV P A s ty a v = some s') (h : Rel Ω w0 e s w) {x y : Value} (hx : VR e a x) (hy : VR e v y) :
  ∃ w', Rel Ω w0 e s' w' ∧ (Instr.storeAt ty x y).run P w = .ok () w' := by
 have hA : AskOK e.opq A := by rw [h.opq]; exact hA
 unfold storeV at k
 split at k
 ·rename_i id z j inf hinf
  split at k
  ·rename_i q hq
   split at k
   ·rename_i hc
    simp only [Bool.and_eq_true, Bool.not_eq_true'] at hc
    obtain ⟨⟨⟨⟨c1, c2⟩, c3⟩, c4⟩, c5⟩ := hc
    have c1 := beq_t c1
    have c2 := beq_t c2
    have c3 := ge0_val hA c3
    have c4 := ltB_val hA c4
    subst c1
    split at k
    ·rename_i yE hsh
     simp only [Option.some.injEq] at k
     subst k
     have hcells := hy.cells c5
     obtain ⟨p1, p2, hpe, p3, p4⟩ := shC_ok hsh hcells
     simp only [VRs] at p4
     subst p4
     rw [List.append_nil] at hpe
     have hl := PC.length _ _ _ p3
     have hob := St.vseqW_some hq
     obtain ⟨kb, hloc, hm, h0, arr, hcell, hR⟩ := h.obj id _ hob
     simp only [VR] at hx
     obtain ⟨b, hb, rfl⟩ := hx
     obtain rfl : b = kb := by rw [hloc] at hb; exact (Option.some.inj hb).symm
     have hn := hR.n
     have hjn := n_of_i (Ω := e.opq) (x := j) (by omega)
     have hj : j.n e.opq < (q.x.den e.opq).toList.length := by omega
     have hsz := hR.size
     have hroom : (j.n e.opq + 1) * q.s.size ≤ (q.x.den e.opq).toList.length * q.s.size := Nat.mul_le_mul_right _ hj
     rw [Nat.add_mul, Nat.one_mul] at hroom
     obtain ⟨cur', w', hr, hg', hoth, e1, e2, e3, e4, hcl⟩ := run_storeCells_row (P := P) b (j.n e.opq * q.s.size) q.elem p1 0 arr w hcell (by rw [hl]; omega) (PC.ones _ _ _ p3)
     rw [Nat.add_zero] at hcl
     have hnp : e.h b = none := h.apart _ _ _ hob rfl hloc
     refine ⟨w', ?_, ?_⟩
     ·rw [St.setO_eq]
      exact h.setO hob hloc hm hnp ⟨hm, h0, cur', hg', hR.upd hj p3 hcl⟩ hoth e1 e2 e3 (by rw [e4]; exact Nat.le_refl _)
     ·have hys : y.cells.size = q.s.size := by rw [← Array.length_toList, hpe, hl]
      rw [Nat.add_zero]
      simp [Instr.storeAt, Instr.sureAddr, storeVar, sizeOf, typeInfo, hinf, c2, hys, hpe, hr]
    ·cases k
   ·cases k
  ·cases k
 ·cases k

/-! ### the two, as acts -/
def actV (P : Program) (A : Ask) (t : T AV) (s : St) (o : Oper) : Option Res :=
 match o.op with
 | .store ty a x => match evalO t a, evalO t x with
  | some a, some x => (storeV P A s ty a x).map .skip
  | _, _ => none
 | .call { callee := .builtin .append, args := args, argTypes := tys } => match args.toList, tys.toList with
  | [x, y], [ty, u] => match evalO t x, evalO t y with
   | some a, some b => ofPair (appendV P A s ty u a b)
   | _, _ => none
  | _, _ => none
 | _ => none

theorem actV_run {P : Program} {Ω : Om} {w0 : Base} {A : Ask} (hA : AskOK Ω A) {e : Env} {t : T AV} {a : Act} (h : FT e t a) {s : St} {w : World} (hr : Rel Ω w0 e s w) {o : Oper} {r : Res} (k : actV P A t s o = some r)
  (K : Act → World → Prop) (Q : Exit → Act → World → Prop) (H : ResPost Ω w0 e o a K Q w r) : o.wp P a w K Q := by
 have pair : ∀ (p : Option (AV × St)) (m : Sem Value), ofPair p = some r → (∀ v s', p = some (v, s') → ∃ e' x w', e.le e' ∧ VR e' v x ∧ Rel Ω w0 e' s' w' ∧ m.run P w = .ok x w') →
   (∀ x w', m.run P w = .ok x w' → (execOp a.eval o).run P w = .ok (.value x) w') → o.wp P a w K Q := by
  intro p m k h1 h2
  cases p with
  | none => cases k
  | some p =>
   obtain ⟨v, s'⟩ := p
   simp only [ofPair, Option.some.injEq] at k
   subst k
   obtain ⟨e', x, w', f1, f2, f3, f4⟩ := h1 v s' rfl
   simp only [Oper.wp, h2 x w' f4, Oper.upon_value]
   exact H e' x w' f1 f2 f3
 unfold actV at k
 split at k
 case h_1 ty ad x hop =>
  split at k
  ·rename_i ad' x' hl hx
   simp only [Option.map_eq_some_iff] at k
   obtain ⟨s', hs, rfl⟩ := k
   obtain ⟨w', hrel, hrun⟩ := storeV_run hA hs hr (evalO_vr h hl) (evalO_vr h hx)
   simp only [Oper.wp, execOp, hop, Sem.run_bind, hrun, Result.andThen_ok, Sem.run_pure, Oper.upon_skip]
   exact H w' hrel
  ·cases k
 case h_2 args tys hop =>
  split at k
  ·rename_i x y ty u ha ht
   split at k
   ·rename_i a' b' hx hy
    have last : ∀ (z : Value) (w' : World), (Builtin.append_ #[ty, u] o.type #[a.eval x, a.eval y]).run P w = .ok z w' → (execOp a.eval o).run P w = .ok (.value z) w' := fun z w' hm => by
     simp only [execOp, hop, resolve, invoke, Sem.run_bind, Sem.run_pure, Result.andThen_ok, builtin, toList_two' ha, toList_two' ht]
     simp [hm]
    exact pair _ (Builtin.append_ #[ty, u] o.type #[a.eval x, a.eval y]) k (fun v s' hp => appendV_run hA hp hr (evalO_vr h hx) (evalO_vr h hy)) last
   ·cases k
  ·cases k
 case h_3 => cases k

def actB1 (P : Program) (A : Ask) (call : Caller) (t : T AV) (s : St) (o : Oper) : Option Res :=
 match actB0 P A call t s o with
 | some r => some r
 | none => actV P A t s o

theorem actB1_run {P : Program} (S : Sound P) {Ω : Om} {w0 : Base} {call : Caller} (hc : CallOK P Ω w0 call) {A : Ask} (hA : AskOK Ω A) {e : Env} {t : T AV} {a : Act} (h : FT e t a) {s : St} {w : World} (hr : Rel Ω w0 e s w) {o : Oper} {r : Res} (k : actB1 P A call t s o = some r)
  (K : Act → World → Prop) (Q : Exit → Act → World → Prop) (H : ResPost Ω w0 e o a K Q w r) : o.wp P a w K Q := by
 unfold actB1 at k
 split at k
 ·rename_i r' hr'
  simp only [Option.some.injEq] at k
  subst k
  exact actB0_run S hc hA h hr hr' K Q H
 ·exact actV_run hA h hr k K Q H

/-! ### a row of cells, told as values -/
def seqV (s : Sh) : Nat → List AV → Option (List E)
 | _, [] => some []
 | 0, _ => none
 | n + 1, l => match shC s l with
  | some (x, r) => match seqV s n r with
   | some es => some (x :: es)
   | none => none
  | none => none
theorem seqV_ok {e : Env} {s : Sh} : ∀ {n : Nat} {l : List AV} {es : List E}, seqV s n l = some es → ∀ {c : List Value}, VRs e l c → c.length = es.length * s.size ∧ ∀ j d, (es.map (E.den e.opq))[j]? = some d → PC e.h s d ((c.drop (j * s.size)).take s.size)
 | n, [], es, h, c, hc => by
  have : es = [] := by cases n <;> simp only [seqV, Option.some.injEq] at h <;> exact h.symm
  subst this
  simp only [VRs] at hc
  subst hc
  exact ⟨by simp, fun j d hj => by simp at hj⟩
 | 0, v :: l, es, h, c, hc => by simp [seqV] at h
 | n + 1, v :: l, es, h, c, hc => by
  simp only [seqV] at h
  split at h
  ·rename_i x r hx
   split at h
   ·rename_i es' hes
    simp only [Option.some.injEq] at h
    subst h
    obtain ⟨c1, c2, rfl, h1, h2⟩ := shC_ok hx hc
    obtain ⟨h3, h4⟩ := seqV_ok hes h2
    have hl := PC.length _ _ _ h1
    refine ⟨by rw [List.length_append, h3, hl, List.length_cons, Nat.add_mul, Nat.one_mul, Nat.add_comm], fun j d hj => ?_⟩
    cases j with
    | zero =>
     simp only [List.map_cons, List.getElem?_cons_zero, Option.some.injEq] at hj
     subst hj
     rw [Nat.zero_mul, List.drop_zero, List.take_append_of_le_length (by omega), List.take_of_length_le (by omega)]
     exact h1
    | succ j =>
     simp only [List.map_cons, List.getElem?_cons_succ] at hj
     have := h4 j d hj
     rw [Nat.add_mul, Nat.one_mul, List.drop_append, List.drop_of_length_le (by omega), List.nil_append, show j * s.size + s.size - c1.length = j * s.size by omega]
     exact this
   ·cases h
  ·cases h

/-- What a row of cells is, told as values of a shape. -/
def cellsV (b : AB) (q : VB) : Option (List E) := match Nat.beq b.elem q.elem && !b.str && (b.opn == q.opn) && (!b.opn || Nat.beq b.esz q.s.size), b.from 0 b.size with
 | true, some l => seqV q.s b.size l
 | _, _ => none
theorem cellsV_ok {w0 : Base} {e : Env} {b : AB} {q : VB} {es : List E} (h : cellsV b q = some es) {i k : Nat} {w : World} (R : ObjR w0 e i k w (.cells b)) :
  ObjR w0 e i k w (.vseq ⟨q.elem, q.s, .int es.length, recE es (.lits []), q.opn⟩) := by
 unfold cellsV at h
 split at h
 ·rename_i l hc hl
  simp only [Bool.and_eq_true, Bool.not_eq_true', beq_iff_eq, Bool.or_eq_true] at hc
  obtain ⟨⟨⟨c1, c2⟩, c3⟩, c4⟩ := hc
  have c1 := beq_t c1
  obtain ⟨h1, h2, arr, fz, h3, h4⟩ := R
  have hfz := h4.plain c2
  subst hfz
  have hv := AB.from_vrs h4 b.size 0 l hl
  rw [List.drop_zero] at hv
  obtain ⟨g1, g2⟩ := seqV_ok h hv
  have hge : b.size ≤ arr.size := by rw [h4.size]; omega
  have hlt : (arr.toList.take b.size).length = b.size := by rw [List.length_take]; simp; omega
  have hden : ((recE es (.lits [])).den e.opq).toList = es.map (E.den e.opq) := by rw [recE_den]; simp [E.den, D.ofInts]
  refine ⟨h1, h2, arr, by rw [← c1]; exact h3, ⟨?_, ?_, ?_⟩⟩
  ·show (E.int es.length).i e.opq = _
   rw [hden, List.length_map]; simp [E.i, E.den]
  ·simp only
   rw [hden, List.length_map, ← g1, hlt, h4.size, ← c3]
   rcases c4 with c4 | c4
   ·rw [c4]; simp
   ·rw [beq_t c4]
  ·intro j d hj
   simp only at hj ⊢
   rw [hden] at hj
   have h5 := g2 j d hj
   have hjl := (List.getElem?_eq_some_iff.1 hj).1
   rw [List.length_map] at hjl
   have h6 : (j + 1) * q.s.size ≤ es.length * q.s.size := Nat.mul_le_mul_right _ hjl
   rw [Nat.add_mul, Nat.one_mul, ← g1, hlt] at h6
   rw [List.drop_take, List.take_take, show min q.s.size (b.size - j * q.s.size) = q.s.size by omega] at h5
   exact h5
 ·cases h

end Go.Ev
