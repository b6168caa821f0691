/- An evaluator of the model's code over abstract states, and its soundness: part 6: operations that make or write memory. No condition. -/
import Derived.Test.YtidpndnehbhloaaDoorSye
namespace Go.Ev
open Go.RowKit

def allocA (P : Program) (s : St) (el : TypeId) : Option (AV × St) :=
 match pureRun P (zeroValue el) with
 | some z => match ofVal 8 z with
  | some za => match za.isOpq with
   | true => none
   | false => some (.ptr s.nid 0, s.new (AB.ofL el za.cells))
  | none => none
 | none => none

theorem allocA_run {P : Program} {Ω : Om} {w0 : Base} {e : Env} {s s' : St} {w : World} {el : TypeId} {v : AV} (k : allocA P s el = some (v, s')) (h : Rel Ω w0 e s w) :
  ∃ e' x w', e.le e' ∧ VR e' v x ∧ Rel Ω w0 e' s' w' ∧ (Instr.alloc el true (.tuple #[])).run P w = .ok x w' := by
 unfold allocA at k;split at k
 ·rename_i z hz;split at k
  ·rename_i za hza;split at k
   ·cases k
   ·rename_i hq;simp only [sme, pme] at k;obtain ⟨rfl, rfl⟩ := k;have hv0 : VRs e za.cells z.cells.toList := (ofVal_vr (e := e) _ _ _ hza).cells hq;obtain ⟨hle, hrel⟩ := h.allocL el hv0;refine ⟨_, .pointer (some ⟨w.heap.size, 0, none⟩), _, hle, ?_, hrel, ?_⟩
    ·simp only [VR]; exact ⟨w.heap.size, by simp [Env.new, Env.newB], rfl⟩
    ·simp [Instr.alloc, pureRun_run _ _ hz w, newVar, newRow]
  ·cases k
 ·cases k

def boxA (s : St) (el : TypeId) (v : AV) : Option (AV × St) :=
 match v.isOpq with
 | true => none
 | false => some (.ptr s.nid 0, s.new (AB.ofL el v.cells))

theorem boxA_run {P : Program} {Ω : Om} {w0 : Base} {e : Env} {s s' : St} {w : World} {el : TypeId} {v u : AV} (k : boxA s el v = some (u, s')) (h : Rel Ω w0 e s w) {x : Value} (hx : VR e v x) :
  ∃ e' y w', e.le e' ∧ VR e' u y ∧ Rel Ω w0 e' s' w' ∧ (Instr.box el x).run P w = .ok y w' := by
 unfold boxA at k;split at k
 ·cases k
 ·rename_i hq;simp only [sme, pme] at k;obtain ⟨rfl, rfl⟩ := k;obtain ⟨hle, hrel⟩ := h.allocL el (hx.cells hq);refine ⟨_, .pointer (some ⟨w.heap.size, 0, none⟩), _, hle, ?_, hrel, ?_⟩
  ·simp only [VR]; exact ⟨w.heap.size, by simp [Env.new, Env.newB], rfl⟩
  ·simp [Instr.box, newVar, newRow]

def patL (za : List AV) (n : Nat) : List AV := (List.range n).map fun i => (za[i % za.length]?).getD (.tuple [])

theorem patL_vrs {e : Env} {za : List AV} {z : Array Value} (h : VRs e za z.toList) (n : Nat) (hn : n = 0 ∨ 0 < za.length) : VRs e (patL za n) ((Array.range n).map (z[· % z.size]!)).toList := by
 have hl := h.length;simp only [Array.length_toList] at hl;refine VRs_of_at _ _ (by simp [patL]) fun i v x h1 h2 => ?_
 rw [Array.toList_map, Array.toList_range] at h2;simp only [patL, List.getElem?_map, Option.map_eq_some_iff] at h1 h2;obtain ⟨j, hj, rfl⟩ := h1;obtain ⟨j', hj', rfl⟩ := h2;rw [hj] at hj';cases hj';have hjn : j < n := by
  have := List.mem_range.1 (List.mem_of_getElem? hj);exact this
 have hpos : 0 < za.length := hn.resolve_left (by omega);have hm : j % za.length < za.length := Nat.mod_lt _ hpos;obtain ⟨x, hx, hv⟩ := h.at (j % za.length) za[j % za.length] (by simp [hm]);have hzx : z[j % z.size]! = x := by
  rw [hl];have : z[j % za.length]? = some x := by simpa using hx
  simp [getElem!_def, this]
 rw [hzx];simpa [hm] using hv

def buildSliceA (P : Program) (s : St) (ty len : Nat) (parts : List (Nat × AV)) : Option (AV × St) :=
 match P.underlying ty with
 | some (.slice el) => match P.info? el with
  | some inf => match Nat.ble (len * inf.size) 16777216 with
   | true => match pureRun P (zeroValue el) with
    | some z => match ofVal 8 z with
     | some za => match !za.isOpq && (Nat.beq (len * inf.size) 0 || Nat.blt 0 za.cells.length) with
      | true => match fillA (fun i => some (i * inf.size, inf.size)) (patL za.cells (len * inf.size)) parts with
       | some l => some (.slice s.nid 0 len len false, s.new (AB.ofL el l))
       | none => none
      | false => none
     | none => none
    | none => none
   | false => none
  | none => none
 | _ => none

theorem buildSliceA_run {P : Program} {Ω : Om} {w0 : Base} {e : Env} {s s' : St} {w : World} {ty len : Nat} {ps : List (Nat × AV)} {u : AV} (k : buildSliceA P s ty len ps = some (u, s')) (h : Rel Ω w0 e s w) {qs : Array (Nat × Value)}
  (h1 : VRs e (ps.map (·.2)) (qs.toList.map (·.2))) (h2 : ps.map (·.1) = qs.toList.map (·.1)) :
  ∃ e' y w', e.le e' ∧ VR e' u y ∧ Rel Ω w0 e' s' w' ∧ (Instr.buildSlice ty len qs).run P w = .ok y w' := by
 unfold buildSliceA at k;split at k
 ·rename_i el hu;split at k
  ·rename_i inf hi;split at k
   ·rename_i hlim;have hlim := ble_le hlim;split at k
    ·rename_i z hz;split at k
     ·rename_i za hza;split at k
      ·rename_i hc;simp only [bae, Bool.not_eq_true', Bool.or_eq_true] at hc;split at k
       ·rename_i l hl;simp only [sme, pme] at k;obtain ⟨rfl, rfl⟩ := k;have hv0 : VRs e za.cells z.cells.toList := (ofVal_vr (e := e) _ _ _ hza).cells hc.1;have hz1 := hv0.length;have hpat : VRs e (patL za.cells (len * inf.size)) ((Array.range (len * inf.size)).map (z.cells[· % z.cells.size]!)).toList :=
         patL_vrs hv0 _ (hc.2.imp beq_t (fun x => by simpa [Nat.blt_eq] using x))
        obtain ⟨arr, ha, hr⟩ := fillA_fill _ ps qs.toList _ l _ hpat h1 h2 hl;obtain ⟨hle, hrel⟩ := h.allocL el hr;refine ⟨_, .slice (some ⟨w.heap.size, 0, none⟩) len len, _, hle, ?_, hrel, ?_⟩
        ·simp only [VR]; exact ⟨w.heap.size, by simp [Env.new, Env.newB], by simp⟩
        ·have hn : ¬ (16777216 < len * inf.size) := by omega
         by_cases h0 : len * inf.size = 0
         ·have ha' : Instr.fill (fun i => some (i * inf.size, inf.size)) ((Array.range 0).map ((#[] : Array Value)[· % (#[] : Array Value).size]!)) qs.toList = some arr := by
           rw [h0] at ha;simpa [Array.range_zero'] using ha
          simp [Instr.buildSlice, run_underlying hu, sizeOf, typeInfo, hi, h0, newRow];rw [show Array.map (fun _ => (default : Value)) (Array.range 0) = Array.map ((#[] : Array Value)[· % (#[] : Array Value).size]!) (Array.range 0) from rfl, ha'];rfl
         ·simp [Instr.buildSlice, run_underlying hu, sizeOf, typeInfo, hi, h0, hn, pureRun_run _ _ hz w, ha, newRow]
       ·cases k
      ·cases k
     ·cases k
    ·cases k
   ·cases k
  ·cases k
 ·cases k

def makeSliceA (P : Program) (s : St) (ty : TypeId) (l c : AV) : Option (AV × St) :=
 match P.underlying ty, l, c with
 | some (.slice el), .int _ l, .int _ c => match P.info? el with
  | some inf => match inf.zero with
   | some z => match ofVal 8 z with
    | some za => match decide (0 ≤ l ∧ l ≤ c ∧ (inf.bytes : Int) * c ≤ 281474976710656 ∧ c ≤ 9223372036854775807) && !za.isOpq with
     | true => some (.slice s.nid 0 l.toNat c.toNat false, s.new ⟨el, c.toNat * inf.size, 0, false, false, za.cells, .nil, none⟩)
     | false => none
    | none => none
   | none => none
  | none => none
 | _, _, _ => none

theorem makeSliceA_run {P : Program} {Ω : Om} {w0 : Base} {e : Env} {s s' : St} {w : World} {ty : TypeId} {l c u : AV} (k : makeSliceA P s ty l c = some (u, s')) (h : Rel Ω w0 e s w) {x y : Value} (hx : VR e l x) (hy : VR e c y) :
  ∃ e' v w', e.le e' ∧ VR e' u v ∧ Rel Ω w0 e' s' w' ∧ (Instr.makeSlice ty x y).run P w = .ok v w' := by
 unfold makeSliceA at k;split at k
 ·rename_i el kl l kc c hu;simp only [VR] at hx hy;subst hx hy;split at k
  ·rename_i inf hi;split at k
   ·rename_i z hz;split at k
    ·rename_i za hza;split at k
     ·rename_i hc;simp only [bae, Bool.not_eq_true', decide_eq_true_eq] at hc;obtain ⟨⟨c1, c2, c3, c4⟩, c5⟩ := hc;simp only [sme, pme] at k;obtain ⟨rfl, rfl⟩ := k;have hrun := run_make (P := P) w ty el inf z hu hi hz kl kc l c c1 c2 c3 c4;have hle := Env.le_new (s := s) (h.fresh s.next (Nat.le_refl _)) w.heap.size 0;have hv0 : VRs (e.new s w.heap.size 0) za.cells z.cells.toList := (ofVal_vr _ _ _ hza).cells c5;have hl0 := hv0.length;simp only [Array.length_toList] at hl0;have hcell : ∀ i v, (AB.mk el (c.toNat * inf.size) 0 false false za.cells .nil none).at i = some v → ∃ x, (madeCells z.cells (c.toNat * inf.size))[i]? = some x ∧ VR (e.new s w.heap.size 0) v x := by
       intro i v hv;unfold AB.at at hv;split at hv
       ·rename_i hlt;have hlt : i < c.toNat * inf.size := by simpa [Nat.blt_eq] using hlt
        simp only [T.get_nil] at hv;obtain ⟨xx, hxx, hvr⟩ := hv0.at _ _ hv;refine ⟨xx, ?_, hvr⟩;have h3 : z.cells[i % z.cells.size]! = xx := by
         rw [hl0];have : z.cells[i % za.cells.length]? = some xx := by simpa using hxx
         simp [getElem!_def, this]
        simp [madeCells, hlt, h3]
       ·cases hv
      obtain ⟨hle, hrel⟩ := h.alloc ⟨el, c.toNat * inf.size, 0, false, false, za.cells, .nil, none⟩ 0 (arr := madeCells z.cells (c.toNat * inf.size)) ⟨by simp [size_madeCells], hcell, fun off _ => by omega, fun _ => rfl, (fun x => by cases x), fun _ hk => by cases hk⟩;refine ⟨_, _, _, hle, ?_, hrel, hrun⟩;simp only [VR];exact ⟨w.heap.size, by simp [Env.new, Env.newB], by simp⟩
     ·cases k
    ·cases k
   ·cases k
  ·cases k
 ·cases k

def storeA (P : Program) (s : St) (ty : TypeId) (a v : AV) : Option St :=
 match a, P.info? ty with
 | .ptr id off, some inf => match Nat.beq v.cells.length inf.size && !v.isOpq with
  | true => storeL s id off v.cells
  | false => none
 | _, _ => none

theorem storeA_run {P : Program} {Ω : Om} {w0 : Base} {e : Env} {s s' : St} {w : World} {ty : TypeId} {a v : AV} (k : storeA P s ty a v = some s') (h : Rel Ω w0 e s w) {x y : Value} (hx : VR e a x) (hy : VR e v y) :
  ∃ w', Rel Ω w0 e s' w' ∧ (Instr.storeAt ty x y).run P w = .ok () w' := by
 unfold storeA at k;split at k
 ·rename_i id off inf hi;split at k
  ·rename_i hc;simp only [bae, Bool.not_eq_true'] at hc;have hcells := hy.cells hc.2;have hlen := hcells.length;simp only [Array.length_toList] at hlen;have hsz := beq_t hc.1;simp only [VR] at hx;obtain ⟨b, hb, rfl⟩ := hx;obtain ⟨w', hr, hrel⟩ := storeL_ok (P := P) h hb k hcells;refine ⟨w', hrel, ?_⟩;simp [Instr.storeAt, Instr.sureAddr, storeVar, sizeOf, typeInfo, hi, hlen, hsz, hr]
  ·cases k
 ·cases k

end Go.Ev
