/- An evaluator of the model's code over abstract states, and its soundness: part 7: append, copy, a text's bytes. No condition. -/
import Derived.Test.YtidpndnehbhloaaDoorSyf
namespace Go.Ev
open Go.RowKit

def srcA (m : Mem) (size : Nat) (x : AV) : Option (Nat × List AV) :=
 match x with
 | .slice id off len _ _ => match readL m id off (len * size) with
  | some l => some (len, l)
  | none => none
 | .nilslice => some (0, [])
 | .hollow => some (0, [])
 | .empty => some (0, [])
 | .str s => match Nat.beq size 1 with
  | true => some (s.size, s.data.toList.map fun b => .int .u8 b.toNat)
  | false => none
 | _ => none

theorem readL_len {m : Mem} {id : Nat} : ∀ (n off : Nat) (l : List AV), readL m id off n = some l → l.length = n
 | 0, off, l, h => by simp only [readL, sme] at h; subst h; rfl
 | n + 1, off, l, h => by
  simp only [readL] at h;split at h
  ·rename_i x r hx hr;simp only [sme] at h;subst h;simp [readL_len n _ _ hr]
  ·cases h
theorem srcA_len {m : Mem} {size n : Nat} {x : AV} {l : List AV} (h : srcA m size x = some (n, l)) : l.length = n * size := by
 unfold srcA at h;split at h
 ·split at h
  ·rename_i hl;simp only [sme, pme] at h;obtain ⟨rfl, rfl⟩ := h;exact readL_len _ _ _ hl
  ·cases h
 ·simp only [sme, pme] at h;obtain ⟨rfl, rfl⟩ := h
  simp
 ·simp only [sme, pme] at h;obtain ⟨rfl, rfl⟩ := h
  simp
 ·simp only [sme, pme] at h;obtain ⟨rfl, rfl⟩ := h
  simp
 ·split at h
  ·rename_i hone;simp only [sme, pme] at h;obtain ⟨rfl, rfl⟩ := h;rw [beq_t hone, List.length_map, Array.length_toList, Nat.mul_one];rfl
  ·cases h
 ·cases h

theorem vrs_bytes {e : Env} : ∀ (l : List UInt8), VRs e (l.map fun b => .int .u8 b.toNat) (l.map fun b => .int .u8 b.toNat)
 | [] => VRs_nil
 | b :: l => VRs_cons (by simp only [VR]) (vrs_bytes l)

theorem srcA_run {P : Program} {e : Env} {m : Mem} {M : World → Prop} (R : Reads P e m M) {size n : Nat} {x : AV} {l : List AV} (k : srcA m size x = some (n, l)) {y : Value} (hx : VR e x y) :
  ∃ xs : List Value, VRs e l xs ∧ (∀ w, (Builtin.lenOf y).run P w = .ok n w) ∧ (∀ w, M w → (Builtin.firstCells size n y).run P w = .ok xs.toArray w) := by
 unfold srcA at k;split at k
 ·rename_i id off len c opn;split at k
  ·rename_i l' hl;simp only [sme, pme] at k;obtain ⟨rfl, rfl⟩ := k;simp only [VR] at hx;obtain ⟨b, hb, rfl⟩ := hx;obtain ⟨xs, h1, h2, h3⟩ := readL_cells R hb _ _ _ hl;exact ⟨xs, h1, fun w => by simp [Builtin.lenOf], fun w hw => by simp only [Builtin.firstCells]; exact run_loadCells_at w b off _ xs h2 (h3 w hw)⟩
  ·cases k
 ·simp only [sme, pme] at k;obtain ⟨rfl, rfl⟩ := k;simp only [VR] at hx;subst hx;exact ⟨[], VRs_nil, fun w => by simp [Builtin.lenOf], fun w _ => by simp [Builtin.firstCells]⟩
 ·simp only [sme, pme] at k;obtain ⟨rfl, rfl⟩ := k;simp only [VR] at hx;obtain ⟨ad, c, rfl⟩ := hx;exact ⟨[], VRs_nil, fun w => by simp [Builtin.lenOf], fun w _ => by simp [Builtin.firstCells, loadCells, loadCellsFrom]⟩
 ·simp only [sme, pme] at k;obtain ⟨rfl, rfl⟩ := k;simp only [VR] at hx;rcases hx with rfl | ⟨ad, c, rfl⟩
  ·exact ⟨[], VRs_nil, fun w => by simp [Builtin.lenOf], fun w _ => by simp [Builtin.firstCells]⟩
  ·exact ⟨[], VRs_nil, fun w => by simp [Builtin.lenOf], fun w _ => by simp [Builtin.firstCells, loadCells, loadCellsFrom]⟩
 ·rename_i s;split at k
  ·simp only [sme, pme] at k;obtain ⟨rfl, rfl⟩ := k;simp only [VR] at hx;subst hx;refine ⟨_, vrs_bytes _, fun w => by simp [Builtin.lenOf], fun w _ => ?_⟩;simp only [Builtin.firstCells, Sem.run_pure];congr 1;have : (s.extract 0 s.size).data = s.data := by simp
   rw [this];apply Array.ext'
   simp
  ·cases k
 ·cases k

theorem run_append_in {P : Program} {w : World} {t u ty el : TypeId} {inf : TypeInfo} {d : TypeDesc} (ht : P.underlying t = some (.slice el)) (hi : P.info? el = some inf) (hu : P.underlying u = some d) (hd : ∀ k, d ≠ .int k)
  {base : Option Addr} {sLen sCap n : Nat} {x : Value} {news : Array Value} (hx : (Builtin.lenOf x).run P w = .ok n w) (hf : (Builtin.firstCells inf.size n x).run P w = .ok news w) (hc : sLen + n ≤ sCap) :
  (Builtin.append_ #[t, u] ty #[.slice base sLen sCap, x]).run P w = ((match base with | some a => storeCells (a.add (sLen * inf.size)) news.toList | none => pure () : Sem Unit).run P w).andThen fun _ w' => .ok (.slice base (sLen + n) sCap) w' := by
 cases base <;> simp [Builtin.append_, run_underlying ht, run_underlying hu, sizeOf, typeInfo, hi, hx, hf, hc]

theorem run_append_new {P : Program} {w : World} {t u ty el : TypeId} {inf : TypeInfo} {d : TypeDesc} {z : Value} (ht : P.underlying t = some (.slice el)) (hi : P.info? el = some inf) (hz : inf.zero = some z) (hu : P.underlying u = some d) (hd : ∀ k, d ≠ .int k)
  {base : Option Addr} {sLen sCap n : Nat} {x : Value} {olds news : Array Value} (hx : (Builtin.lenOf x).run P w = .ok n w) (hf : (Builtin.firstCells inf.size n x).run P w.drew = .ok news w.drew)
  (ho : (Builtin.firstCells inf.size sLen (.slice base sLen sCap)).run P w.drew = .ok olds w.drew) (hc : ¬ sLen + n ≤ sCap) (h63 : ((sLen + n : Nat) : Int) ≤ 9223372036854775807) (hfit : Builtin.nextslicecap (sLen + n) sCap * inf.bytes ≤ 281474976710656) :
  (Builtin.append_ #[t, u] ty #[.slice base sLen sCap, x]).run P w = .ok (.slice (some ⟨w.heap.size, 0, none⟩) (sLen + n) (grownCap w (sLen + n) sCap el))
   (w.drew.alloc (.cells (olds ++ news ++ Builtin.zeroCells z.cells (grownCap w (sLen + n) sCap el - (sLen + n))) el)) := by
 have h1 : ¬ (9223372036854775807 < ((sLen : Int) + (n : Int))) := by omega
 have h2 : ¬ (281474976710656 < Builtin.nextslicecap (sLen + n) sCap * inf.bytes) := by omega
 simp [Builtin.append_, run_underlying ht, run_underlying hu, sizeOf, typeInfo, zeroValue, hi, hz, hx, hf, ho, hc, h1, h2, Question.forced, newRow, grownCap]

def St.del (s : St) (id : Nat) : St := match s with
 | ⟨h, n⟩ => ⟨h.put id none, n⟩
theorem St.del_eq (s : St) (id : Nat) : s.del id = { s with heap := s.heap.put id none } := by cases s; rfl

theorem Rel.del {Ω : Om} {w0 : Base} {e : Env} {s : St} {w : World} (h : Rel Ω w0 e s w) (id : Nat) : Rel Ω w0 e (s.del id) w := by
 have key : ∀ i o, (s.del id).heap.get i = some o → i ≠ id ∧ s.heap.get i = some o := by
  intro i o hi;simp only [St.del_eq, T.get_put] at hi;split at hi
  ·cases hi
  ·rename_i hne; exact ⟨hne, hi⟩
 exact ⟨h.opq, h.below, h.fresh, fun i j o o' b hi hj => h.inj i j o o' b (key i o hi).2 (key j o' hj).2, fun i b hb => h.obj i b (key i _ hb).2, h.pool, fun i o k hi => h.apart i o k (key i o hi).2, h.grow, h.hold⟩

def AB.ofOpen (el : TypeId) (esz : Nat) (str : Bool) (tk : Option IntKind) (l : List AV) : AB := ⟨el, l.length, esz, true, str, [], T.nil.putL 0 l, tk⟩
def tkOf : Value → Option IntKind
 | .int k 0 => some k
 | _ => none
def tkAnd : Option IntKind → Option IntKind → Option IntKind
 | some k, some l => match decide (k = l) with
  | true => some k
  | false => none
 | _, _ => none
theorem tkAnd_some {a b : Option IntKind} {k : IntKind} (h : tkAnd a b = some k) : a = some k ∧ b = some k := by
 unfold tkAnd at h;split at h
 ·split at h
  ·rename_i hc;have := of_decide_eq_true hc;subst this;exact ⟨h, h⟩
  ·cases h
 ·cases h
theorem zero_in (k : IntKind) : inK k 0 := by cases k <;> simp [inK, IntKind.min, IntKind.max, IntKind.signed, IntKind.bits]
theorem typed_zero {z : Value} {k : IntKind} (h : tkOf z = some k) (n : Nat) : typed k (Builtin.zeroCells z.cells n).toList := by
 unfold tkOf at h;split at h
 ·simp only [sme] at h;subst h;intro v hv;simp only [Builtin.zeroCells, Value.cells, Array.toList_map, List.mem_map] at hv;obtain ⟨i, _, rfl⟩ := hv;exact ⟨0, by simp [Nat.mod_one], zero_in _⟩
 ·cases h
theorem typed.drop {k : IntKind} {l : List Value} (h : typed k l) (n : Nat) : typed k (l.drop n) := fun v hv => h v (List.mem_of_mem_drop hv)
theorem typed.take {k : IntKind} {l : List Value} (h : typed k l) (n : Nat) : typed k (l.take n) := fun v hv => h v (List.mem_of_mem_take hv)
theorem typed.append {k : IntKind} {l m : List Value} (h : typed k l) (g : typed k m) : typed k (l ++ m) := fun v hv => (List.mem_append.1 hv).elim (h v) (g v)
theorem typed_ints {k : IntKind} {l : List Int} (h : ∀ c ∈ l, inK k c) : typed k (l.map (Value.int k)) := fun v hv => by
 simp only [List.mem_map] at hv;obtain ⟨c, hc, rfl⟩ := hv;exact ⟨c, rfl, h c hc⟩
theorem typed_nil {k : IntKind} : typed k [] := fun v hv => by cases hv


theorem AB.at_ofOpen (el : TypeId) (esz : Nat) (str : Bool) (tk : Option IntKind) (l : List AV) (i : Nat) : (AB.ofOpen el esz str tk l).at i = l[i]? := AB.at_ofL el l i

theorem VRs.openR {e : Env} {l : List AV} {xs rest : List Value} (h : VRs e l xs) (id : Nat) (el : TypeId) (esz : Nat) (str : Bool) {tk : Option IntKind} {arr : Array Value} (htk : ∀ k, tk = some k → typed k rest ∧ arr.size ≤ 9223372036854775807) (ha : arr.toList = xs ++ rest) (hr : rest.length = e.spare id * esz) {fz : Nat × Nat}
  (hf : ∀ off, off < arr.size → ¬ (fz.1 ≤ off ∧ off < fz.2)) (hp : str = false → fz = (0, 0)) (hm : str = true → fz = (arr.size, arr.size + 1)) : RowR e id (AB.ofOpen el esz str tk l) arr fz := by
 have hl := h.length;refine ⟨?_, fun i v hv => ?_, hf, hp, hm, fun k hk _ => by
  refine ⟨?_, (htk k hk).2⟩;rw [ha, show (AB.ofOpen el esz str tk l).size = xs.length from hl.symm, List.drop_left];exact (htk k hk).1⟩
 ·rw [← Array.length_toList, ha]; simp [AB.ofOpen, hl, hr]
 ·rw [AB.at_ofOpen] at hv;obtain ⟨x, hx, hvr⟩ := h.at i v hv;refine ⟨x, ?_, hvr⟩;have : arr.toList[i]? = some x := by
   rw [ha, List.getElem?_append_left (List.getElem?_eq_some_iff.1 hx).1];exact hx
  simpa using this

def appendA (P : Program) (s : St) (t u : TypeId) (d x : AV) : Option (AV × St) :=
 match P.underlying t, P.underlying u with
 | some (.slice _), some (.int _) => none
 | some (.slice el), some _ => match P.info? el with
  | some inf => match inf.zero with
   | some z => match ofVal 8 z with
    | some za => match !za.isOpq && Nat.beq za.cells.length inf.size with
     | true => match srcA s.mem inf.size x with
      | some (n, news) => match d with
       | .nilslice => match Nat.beq n 0 with
        | true => some (.nilslice, s)
        | false => match Nat.ble (2 * n) 4611686018427387904 && Nat.ble (2 * n * inf.bytes) 281474976710656 with
         | true => some (.slice s.nid 0 n n true, s.new (AB.ofOpen el inf.size false (tkOf z) news))
         | false => none
       | .slice id off len cap opn => match Nat.ble (len + n) cap with
        | true => match storeL s id (off + len * inf.size) news with
         | some s' => some (.slice id off (len + n) cap opn, s')
         | none => none
        | false => match Nat.ble (2 * (len + n)) 4611686018427387904 && Nat.ble (2 * (len + n) * inf.bytes) 281474976710656 with
         | true => match readL s.mem id off (len * inf.size) with
          | some olds => match opn with
           | false => some (.slice s.nid 0 (len + n) (len + n) true, s.new (AB.ofOpen el inf.size false (tkOf z) (olds ++ news)))
           | true => match s.row id with
            | some b => match Nat.beq off 0 && b.opn && !b.str && Nat.beq b.esz inf.size && Nat.beq b.size (cap * inf.size) && Nat.beq b.elem el && news.all AV.one with
             | true => some (.slice s.nid 0 (len + n) (len + n) true, (s.del id).new (AB.ofOpen el inf.size false (tkAnd (tkOf z) b.tk) (olds ++ news)))
             | false => none
            | none => none
          | none => none
         | false => none
       | _ => none
      | none => none
     | false => none
    | none => none
   | none => none
  | none => none
 | _, _ => none

theorem run_storeCells_row {P : Program} (g o : Nat) (el : TypeId) : ∀ (vs : List Value) (i : Nat) (cur : Array Value) (w : World), w.heap[g]? = some (.cells cur el (0, 0)) → o + i + vs.length ≤ cur.size → (∀ v ∈ vs, v.oneCell' = true) →
  ∃ cur' w', (storeCells ⟨g, o, none⟩ vs i).run P w = .ok () w' ∧ w'.heap[g]? = some (.cells cur' el (0, 0)) ∧ (∀ j, j ≠ g → w'.heap[j]? = w.heap[j]?) ∧ w'.os = w.os ∧ w'.tape = w.tape ∧ w'.output = w.output ∧ w'.heap.size = w.heap.size ∧
   cur'.toList = cur.toList.take (o + i) ++ vs ++ cur.toList.drop (o + i + vs.length)
 | [], i, cur, w, hg, hs, _ => ⟨cur, w, by simp [storeCells], hg, fun _ _ => rfl, rfl, rfl, rfl, rfl, by simp⟩
 | v :: vs, i, cur, w, hg, hs, h1 => by
  simp only [List.length_cons] at hs;have hc : w.cell? ⟨g, o + i, none⟩ = some cur[o + i] := by rw [cell_row hg]; simp
  have hf : w.frozen? ⟨g, o + i, none⟩ = false := by rw [frozen_row hg]; simp
  have hst := run_store P w ⟨g, o + i, none⟩ v .plain (h1 v (by simp));rw [hc] at hst;simp only [hf, Bool.false_eq_true, if_false] at hst;have hnew : (w.setCell ⟨g, o + i, none⟩ v).heap[g]? = some (.cells (cur.setIfInBounds (o + i) v) el (0, 0)) := by simp [World.setCell, Array.getElem?_modify, hg]
  obtain ⟨cur', w', hr, hg', ho', e1, e2, e3, e4, hl⟩ := run_storeCells_row (P := P) g o el vs (i + 1) _ _ hnew (by simp; omega) fun u hu => h1 u (by simp [hu])
  refine ⟨cur', w', by simp only [storeCells, Sem.run_bind, add_none, hst, Result.andThen_ok, hr], hg', fun j hj => (ho' j hj).trans (Below.heap_setCell _ _ _ _ (by simpa using hj)), e1, e2, e3, by rw [e4]; simp [World.setCell], ?_⟩;rw [hl, Array.toList_setIfInBounds];have hlen : cur.toList.length = cur.size := by simp
  rw [List.take_set, List.drop_set];have e1 : o + (i + 1) = o + i + 1 := by omega
  rw [e1, if_pos (by omega), List.take_succ_eq_append_getElem (by simp; omega), List.set_append];have e2 : (List.take (o + i) cur.toList).length = o + i := by simp; omega
  rw [if_neg (by omega), e2];simp only [Nat.sub_self, List.set_cons_zero, List.append_assoc, List.cons_append, List.nil_append, List.length_cons];have e3 : o + i + 1 + vs.length = o + i + (vs.length + 1) := by omega
  rw [e3]

theorem VRs.ones {e : Env} : ∀ {l : List AV} {xs : List Value}, VRs e l xs → l.all AV.one = true → ∀ v ∈ xs, v.oneCell' = true
 | [], _, h, _, v, hv => by simp only [VRs] at h; subst h; simp at hv
 | c :: l, _, h, h1, v, hv => by
  simp only [VRs] at h;obtain ⟨x, r, rfl, hx, hr⟩ := h;simp only [List.all_cons, bae] at h1;rcases List.mem_cons.1 hv with rfl | hv
  ·exact hx.one h1.1
  ·exact hr.ones h1.2 v hv

theorem growslice_fits2 {need old bytes : Nat} (h : old < need) (hb : 2 * need * bytes ≤ 281474976710656) : Builtin.nextslicecap need old * bytes ≤ 281474976710656 :=
 Nat.le_trans (Nat.mul_le_mul_right _ (nextslicecap_le h)) hb

theorem zeroCells_len (z : Array Value) (n : Nat) : (Builtin.zeroCells z n).size = n * z.size := by simp [Builtin.zeroCells]

theorem Rel.grown {Ω : Om} {w0 : Base} {e : Env} {s : St} {w : World} (h : Rel Ω w0 e s w) (el : TypeId) (esz sp : Nat) {l : List AV} {xs : List Value} {tail : Array Value} {tk : Option IntKind} (htk : ∀ k, tk = some k → typed k tail.toList ∧ xs.length + tail.size ≤ 9223372036854775807) (hl : VRs e l xs) (ht : tail.size = sp * esz) :
  e.le (e.new s w.heap.size sp) ∧ Rel Ω w0 (e.new s w.heap.size sp) (s.new (AB.ofOpen el esz false tk l)) (w.drew.alloc (.cells (xs.toArray ++ tail) el)) := by
 have hle := Env.le_new (s := s) (h.fresh s.next (Nat.le_refl _)) w.heap.size sp;exact h.drew.alloc (AB.ofOpen el esz false tk l) sp ((hl.mono hle).openR (rest := tail.toList) s.nid el esz false (fun k hk => ⟨(htk k hk).1, by have := (htk k hk).2; simp; omega⟩) (by simp) (by simp [Env.new, Env.newB, ht]) (fun off _ => by omega) (fun _ => rfl) (fun x => by cases x))

theorem appendA_run {P : Program} {Ω : Om} {w0 : Base} {e : Env} {s s' : St} {w : World} {t u ty : TypeId} {d x v : AV} (k : appendA P s t u d x = some (v, s')) (h : Rel Ω w0 e s w) {d' x' : Value} (hd : VR e d d') (hx : VR e x x') :
  ∃ e' y w', e.le e' ∧ VR e' v y ∧ Rel Ω w0 e' s' w' ∧ (Builtin.append_ #[t, u] ty #[d', x']).run P w = .ok y w' := by
 unfold appendA at k;split at k
 ·cases k
 ·rename_i el du hni ht hu;have hdu : ∀ k, du ≠ .int k := fun kk hk => by subst hk; exact hni _ rfl
  split at k
  ·rename_i inf hi;split at k
   ·rename_i z hz;split at k
    ·rename_i za hza;split at k
     ·rename_i hc;simp only [bae, Bool.not_eq_true'] at hc;have hzc : VRs e za.cells z.cells.toList := (ofVal_vr _ _ _ hza).cells hc.1;have hzs : z.cells.size = inf.size := by have := hzc.length; simp only [Array.length_toList] at this; rw [this]; exact beq_t hc.2
      have bound : ∀ (need old : Nat) {kx : IntKind}, tkOf z = some kx → need ≤ 4611686018427387904 → inf.size = 1 ∧ need ≤ grownCap w need old el ∧ grownCap w need old el ≤ 9223372036854775807 := by
       intro need old kx hk hn;refine ⟨?_, grownCap_ge _ _ _ _, ?_⟩
       ·rw [← hzs];unfold tkOf at hk;split at hk
        ·rfl
        ·cases hk
       ·have := grownCap_le_maxLen w need old el (by simp only [maxLen]; omega);simpa only [maxLen] using this
      split at k
      ·rename_i n news hsrc;obtain ⟨xs, h1, h2, h3⟩ := srcA_run (h.reads (P := P)) hsrc hx;obtain ⟨xs', h1', h2', h3'⟩ := srcA_run (h.drew.reads (P := P)) hsrc hx;split at k
       ·-- nil
        simp only [VR] at hd;subst hd;split at k
        ·rename_i hn;have hn := beq_t hn;subst hn;simp only [sme, pme] at k;obtain ⟨rfl, rfl⟩ := k;refine ⟨e, .slice none 0 0, w, Env.le_refl e, by simp only [VR], h, ?_⟩;rw [run_append_in ht hi hu hdu (h2 w) (h3 w rfl) (by omega)]
         simp
        ·rename_i hn;have hn := beq_f hn;split at k
         ·rename_i hb;simp only [bae] at hb;have b1 := ble_le hb.1;have b2 := ble_le hb.2;simp only [sme, pme] at k;obtain ⟨rfl, rfl⟩ := k;have hrun := run_append_new (ty := ty) ht hi hz hu hdu (base := none) (sLen := 0) (sCap := 0) (olds := #[]) (h2 w) (h3' w.drew rfl) (by simp [Builtin.firstCells]) (by omega) (by omega) (growslice_fits2 (by omega) (by simpa using b2));have hge := grownCap_ge w (0 + n) 0 el;have hge' := hge;simp only [Nat.zero_add] at hge';obtain ⟨hle, hrel⟩ := h.grown el inf.size (grownCap w (0 + n) 0 el - (0 + n)) (l := news) (tail := Builtin.zeroCells z.cells (grownCap w (0 + n) 0 el - (0 + n))) (tk := tkOf z) (fun k hk => ⟨typed_zero hk _, by
           obtain ⟨q1, q2, q3⟩ := bound (0 + n) 0 hk (by omega);have q4 := h1'.length;rw [srcA_len hsrc, q1] at q4;rw [zeroCells_len, hzs, q1];omega⟩) h1' (by rw [zeroCells_len, hzs])
          refine ⟨_, _, _, hle, ?_, hrel, by simpa using hrun⟩;simp only [VR];exact ⟨w.heap.size, by simp [Env.new, Env.newB], by simp [Env.new, Env.newB]; omega⟩
         ·cases k
       ·rename_i id off len cap opn;simp only [VR] at hd;obtain ⟨b, hb, rfl⟩ := hd;split at k
        ·-- room
         rename_i hroom;have hroom := ble_le hroom;split at k
         ·rename_i s2 hs2;simp only [sme, pme] at k;obtain ⟨rfl, rfl⟩ := k;obtain ⟨w', hr, hrel⟩ := storeL_ok (P := P) h hb hs2 h1;refine ⟨e, .slice (some ⟨b, off, none⟩) (len + n) (cap + if opn then e.spare id else 0), w', Env.le_refl e, ?_, hrel, ?_⟩
          ·simp only [VR]; exact ⟨b, hb, rfl⟩
          ·rw [run_append_in ht hi hu hdu (h2 w) (h3 w rfl) (by omega)];simp only [add_none, hr, Result.andThen_ok]
         ·cases k
        ·rename_i hroom;have hroom : cap < len + n := by
          rcases Nat.lt_or_ge cap (len + n) with hlt | hge
          ·exact hlt
          ·rw [Nat.ble_eq_true_of_le hge] at hroom; cases hroom
         split at k
         ·rename_i hbb;simp only [bae] at hbb;have b1 := ble_le hbb.1;have b2 := ble_le hbb.2;split at k
          ·rename_i olds holds;obtain ⟨os, ho1, ho2, ho3⟩ := readL_cells (h.drew.reads (P := P)) hb _ _ _ holds;have hold : ∀ c, (Builtin.firstCells inf.size len (.slice (some ⟨b, off, none⟩) len c)).run P w.drew = .ok os.toArray w.drew := fun c => by
            simp only [Builtin.firstCells];exact run_loadCells_at w.drew b off _ os ho2 (ho3 w.drew rfl)
           have fresh : ∀ (tk : Option IntKind) (htk : ∀ k, tk = some k → tkOf z = some k) c, c < len + n → ∃ e' y w', e.le e' ∧ VR e' (.slice s.nid 0 (len + n) (len + n) true) y ∧ Rel Ω w0 e' (s.new (AB.ofOpen el inf.size false tk (olds ++ news))) w' ∧
             (Builtin.append_ #[t, u] ty #[.slice (some ⟨b, off, none⟩) len c, x']).run P w = .ok y w' := by
            intro tk htk c hc;have hrun := run_append_new (ty := ty) ht hi hz hu hdu (base := some ⟨b, off, none⟩) (sLen := len) (sCap := c) (h2 w) (h3' w.drew rfl) (hold c) (by omega) (by omega) (growslice_fits2 (by omega) b2);have hge := grownCap_ge w (len + n) c el;obtain ⟨hle, hrel⟩ := h.grown el inf.size (grownCap w (len + n) c el - (len + n)) (l := olds ++ news) (tail := Builtin.zeroCells z.cells (grownCap w (len + n) c el - (len + n))) (tk := tk) (fun k hk => ⟨typed_zero (htk k hk) _, by
             obtain ⟨q1, q2, q3⟩ := bound (len + n) c (htk k hk) (by omega);have q4 := (ho1.append h1').length;simp only [List.length_append] at q4 ⊢;rw [srcA_len hsrc, readL_len _ _ _ holds, q1] at q4;rw [zeroCells_len, hzs, q1];omega⟩) (ho1.append h1') (by rw [zeroCells_len, hzs])
            refine ⟨_, _, _, hle, ?_, hrel, by simpa using hrun⟩;simp only [VR];exact ⟨w.heap.size, by simp [Env.new, Env.newB], by simp [Env.new, Env.newB]; omega⟩
           split at k
           ·simp only [sme, pme] at k;obtain ⟨rfl, rfl⟩ := k;simpa using fresh (tkOf z) (fun _ h => h) cap hroom
           ·split at k
            ·rename_i br hbr;split at k
             ·rename_i hcc;simp only [bae, Bool.not_eq_true'] at hcc;obtain ⟨⟨⟨⟨⟨⟨c1, c2⟩, c3⟩, c4⟩, c5⟩, c6⟩, c7⟩ := hcc;have c1 := beq_t c1;have c4 := beq_t c4;have c5 := beq_t c5;have c6 := beq_t c6;simp only [sme, pme] at k;obtain ⟨rfl, rfl⟩ := k;by_cases hin : len + n ≤ cap + e.spare id
              ·-- in place
               have hbr' := St.row_some hbr;obtain ⟨kk, arr, fz, hl, hk0, hrow, hR⟩ := h.row id br hbr';obtain rfl : kk = b := by rw [hb] at hl; exact (Option.some.inj hl).symm
               have hfz := hR.plain c3;subst hfz;have hsz := hR.size;rw [c2, if_pos rfl, c4, c5, ← Nat.add_mul] at hsz;have hxs := h1.length;have hxn : xs.length = n * inf.size := by
                -- the cells are n elements' cells: the row that is made would have just this size; told by the source
                unfold srcA at hsrc;split at hsrc
                ·split at hsrc
                 ·rename_i l' hl';simp only [sme, pme] at hsrc;obtain ⟨rfl, rfl⟩ := hsrc;simp only [VR] at hx;obtain ⟨bb, hbb, rfl⟩ := hx;obtain ⟨ys, y1, y2, _⟩ := readL_cells (h.reads (P := P)) hbb _ _ _ hl';rw [hxs, ← y1.length, y2]
                 ·cases hsrc
                ·simp only [sme, pme] at hsrc;obtain ⟨rfl, rfl⟩ := hsrc;simpa using hxs
                ·simp only [sme, pme] at hsrc;obtain ⟨rfl, rfl⟩ := hsrc;simpa using hxs
                ·simp only [sme, pme] at hsrc;obtain ⟨rfl, rfl⟩ := hsrc;simpa using hxs
                ·split at hsrc
                 ·rename_i hone;simp only [sme, pme] at hsrc;obtain ⟨rfl, rfl⟩ := hsrc;rw [hxs, beq_t hone, List.length_map, Array.length_toList, Nat.mul_one];rfl
                 ·cases hsrc
                ·cases hsrc
               have hfit : 0 + len * inf.size + 0 + xs.length ≤ arr.size := by
                rw [hsz, hxn];have := Nat.mul_le_mul_right inf.size hin;rw [Nat.add_mul] at this;omega
               obtain ⟨cur', w', hr, hg', hoth, e1, e2, e3, e4, hcl⟩ := run_storeCells_row (P := P) kk (len * inf.size) el xs 0 arr w (by rw [← c6]; exact hrow) (by omega) (h1.ones c7);have hdel := h.del id;have hnp : e.h kk = none := h.apart _ _ _ hbr' rfl hb;have hle := Env.le_new (s := s) (h.fresh s.next (Nat.le_refl _)) kk (cap + e.spare id - (len + n));have holds' : arr.toList.take (len * inf.size) = os := by
                have hosl : os.length = len * inf.size := ho2;apply List.ext_getElem?;intro j;rw [List.getElem?_take];split
                ·rename_i hj;have hj' : j < os.length := by omega
                 have := ho3 w.drew rfl j os[j] (by simp [hj']);rw [World.cell?_drew, cell_row hrow, c1, Nat.zero_add] at this;simp [hj', this]
                ·rename_i hj;rw [List.getElem?_eq_none (by omega)]
               obtain ⟨_, hrel⟩ := hdel.newAt (w' := w') (AB.ofOpen el inf.size false (tkAnd (tkOf z) br.tk) (olds ++ news)) kk (cap + e.spare id - (len + n))
                (h.below.step e1 e2 e3 (by rw [e4]; exact Nat.le_refl _) fun j hj => hoth j (Base.mine_ne hk0 hj)) hk0 hg'
                (((ho1.append h1).mono hle).openR (rest := arr.toList.drop (len * inf.size + xs.length)) s.nid el inf.size false (tk := tkAnd (tkOf z) br.tk) (fun kx hkx => by
                  obtain ⟨h9, h12⟩ := hR.tail kx (tkAnd_some hkx).2 c2;have h10 : br.size ≤ len * inf.size + xs.length := by
                   rw [c5, hxn, ← Nat.add_mul];exact Nat.mul_le_mul_right _ (by omega)
                  have h11 := h9.drop (len * inf.size + xs.length - br.size);rw [List.drop_drop] at h11;rw [show br.size + (len * inf.size + xs.length - br.size) = len * inf.size + xs.length by omega] at h11;refine ⟨h11, ?_⟩;have h13 := congrArg List.length hcl;simp only [List.length_append, List.length_take, List.length_drop, Array.length_toList] at h13;omega) (by rw [hcl]; simp only [Nat.add_zero]; rw [holds'])
                  (by
                   simp only [List.length_drop, Array.length_toList, Env.new, Env.newB, if_true];rw [hsz, hxn, Nat.sub_mul];have := Nat.add_mul len n inf.size;omega) (fun off _ => by omega) (fun _ => rfl) (fun x => by cases x))
                (fun i o hi' j hj => by
                 have hne : i ≠ id := by
                  intro x;subst x;simp [St.del_eq, T.get_put] at hi'
                 have hi2 : s.heap.get i = some o := by simpa [St.del_eq, T.get_put, hne] using hi'
                 have : j ≠ kk := fun x => hne (h.inj1 hi2 hbr' hk0 hnp (x ▸ hj) hb)
                 exact ⟨this, hoth j this⟩) (fun j arr hj => hoth j (fun x => by subst x; rw [hnp] at hj; cases hj)) hnp
               refine ⟨_, .slice (some ⟨kk, off, none⟩) (len + n) (cap + e.spare id), w', hle, ?_, hrel, ?_⟩
               ·simp only [VR];refine ⟨kk, by simp [Env.new, Env.newB], ?_⟩;rw [c1];simp [Env.new, Env.newB];omega
               ·rw [if_pos rfl, run_append_in ht hi hu hdu (h2 w) (h3 w rfl) hin];simp only [add_none, c1, Nat.zero_add, hr, Result.andThen_ok]
              ·obtain ⟨e', y, w', f1, f2, f3, f4⟩ := fresh (tkAnd (tkOf z) br.tk) (fun k hk => (tkAnd_some hk).1) (cap + e.spare id) (by omega);refine ⟨e', y, w', f1, f2, (f3.del id).congr rfl fun i => ?_, by simpa using f4⟩;simp only [St.new, St.newO_eq, St.del_eq, St.nid, T.get_put];have : id ≠ 2 * s.next + 1 := h.live (St.row_some hbr);by_cases g1 : i = 2 * s.next + 1
               ·have : i ≠ id := fun x => this (x.symm.trans g1)
                simp [g1, Ne.symm ‹id ≠ 2 * s.next + 1›]
               ·simp [g1]
             ·cases k
            ·cases k
          ·cases k
         ·cases k
       ·cases k
      ·cases k
     ·cases k
    ·cases k
   ·cases k
  ·cases k
 ·cases k

end Go.Ev
