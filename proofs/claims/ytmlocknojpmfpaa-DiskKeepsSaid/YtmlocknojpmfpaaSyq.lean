/- Maps: made, asked, stored into, deleted from; every acting operation. No condition. -/
import Derived.Test.YtmlocknojpmfpaaSyva
import Derived.MapKept
import Derived.ChangeKeysEq
namespace Go.Ev
open Go.RowKit

def keyA (P : Program) : Nat → TypeId → AV → Bool
 | 0, _, _ => false
 | n + 1, t, v => match P.underlying t with
  | some (.interface _) => false
  | some (.struct _) => false
  | some (.array len el) => match P.info? el, v with
   | some _, .agg cs => (List.range len).all fun i => match partA P el cs (i * P.cellsOf el) with
    | some u => keyA P n el u
    | none => false
   | _, _ => false
  | some _ => true
  | none => false

theorem run_forUnit {P : Program} (g : Nat → Sem (ForInStep PUnit)) (w : World) : ∀ l : List Nat, (∀ i ∈ l, (g i).run P w = .ok (.yield PUnit.unit) w) →
  (forIn l PUnit.unit fun i _ => g i : Sem PUnit).run P w = .ok PUnit.unit w
 | [], _ => by simp
 | i :: l, h => by
  simp only [List.forIn_cons, Sem.run_bind, h i (by simp), Result.andThen_ok];exact run_forUnit g w l fun j hj => h j (by simp [hj])

theorem keyA_run {P : Program} {e : Env} : ∀ (n : Nat) (t : TypeId) (v : AV), keyA P n t v = true → ∀ {x : Value}, VR e v x → ∀ (m : Nat), n ≤ m → ∀ (b : Bool) (w : World), (Instr.checkKey b m t x).run P w = .ok () w
 | 0, _, _, h, _, _, _, _, _, _ => by simp [keyA] at h
 | n + 1, t, v, h, x, hx, m, hm, b, w => by
  obtain ⟨m, rfl⟩ : ∃ d', m = d' + 1 := ⟨m - 1, by omega⟩
  unfold keyA at h;unfold Instr.checkKey;split at h
  ·cases h
  ·cases h
  ·rename_i len el hu;split at h
   ·rename_i i cs hi;simp only [VR] at hx;obtain ⟨as, rfl, hs⟩ := hx;simp only [Sem.run_bind, run_underlying hu, Result.andThen_ok];have hb : ∀ j ∈ List.range len, (do let c ← sizeOf el; let y ← part el as (j * c); Instr.checkKey b m el y; pure (ForInStep.yield PUnit.unit) : Sem (ForInStep PUnit)).run P w = .ok (.yield PUnit.unit) w := by
     intro j hj;have := List.all_eq_true.1 h j hj;split at this
     ·rename_i u hu';obtain ⟨p, hp, hpr⟩ := partA_run (P := P) hu' hs;simp only [Sem.run_bind, run_sizeOf w hi, Result.andThen_ok, hpr w, keyA_run n el u this hp m (by omega) b w, Sem.run_pure]
     ·cases this
    simp only [Std.Legacy.Range.forIn_eq_forIn_range', Std.Legacy.Range.size, Nat.sub_zero, Nat.add_one_sub_one, Nat.div_one];rw [← List.range_eq_range'];rw [run_forUnit _ w _ hb];rfl
   ·cases h
  ·rename_i d n1 n2 n3 hu;simp only [Sem.run_bind, run_underlying hu, Result.andThen_ok];cases d <;> first
    | exact (n1 _ rfl).elim
    | exact (n2 _ rfl).elim
    | exact (n3 _ _ rfl).elim
    | (simp; done)
    | rfl
  ·cases h

def findM (P : Program) (A : Ask) (kt : TypeId) (k : AV) : List ME → Nat → Option (Option Nat)
 | [], _ => some none
 | m :: r, i => match eqT P A 1000 kt k m.key with
  | some true => some (some i)
  | some false => findM P A kt k r (i + 1)
  | none => none

def FoundR (e : Env) (l : List ME) (i : Nat) (o : Option Nat) (q : Option (Nat × Value)) : Prop := match o with
 | none => q = none
 | some j => ∃ m v, i ≤ j ∧ l[j - i]? = some m ∧ q = some (j, v) ∧ VR e m.val v

theorem sameNow_of {P : Program} {e : Env} {A : Ask} (hA : AskOK e.opq A) {kt : TypeId} {d : TypeDesc} (hu : P.underlying kt = some d) {a b : AV} {r b' : Bool} (h : eqT P A 1000 kt a b = some r) {x y : Value} (hx : VR e a x) (hy : VR e b y) (k : Instr.sameNow d x y = some b') : b' = r := by
 obtain ⟨d', hd'⟩ : ∃ d', 1000 ≤ d' := ⟨1000, Nat.le_refl _⟩
 have hr := eqT_run (P := P) hA 1000 kt a b r h hx hy (d' + 1) (by omega) default;clear hd' h;unfold Instr.sameNow at k;split at k
 ·rename_i kk k1 a1 k2 b1;split at k
  ·rename_i hk;subst hk;simp only [Op.equalIn, Sem.run_bind, run_underlying hu, Result.andThen_ok, if_true, Sem.run_pure, Result.ok.injEq] at hr;simp only [sme] at k;rw [← k, hr.1]
  ·cases k
 ·simp only [Op.equalIn, Sem.run_bind, run_underlying hu, Result.andThen_ok, Sem.run_pure, Result.ok.injEq] at hr;simp only [sme] at k;rw [← k, hr.1]
 ·simp only [Op.equalIn, Sem.run_bind, run_underlying hu, Result.andThen_ok, Sem.run_pure, Result.ok.injEq] at hr;simp only [sme] at k;rw [← k, hr.1]
 ·cases k

theorem findNow_ok {P : Program} {e : Env} {A : Ask} (hA : AskOK e.opq A) {kt : TypeId} {d : TypeDesc} (hu : P.underlying kt = some d) {k : AV} {kv : Value} (hk : VR e k kv) : ∀ (l : List ME) (es : List MapEntry) (i : Nat) (o : Option Nat) (q : Option (Nat × Value)), MR e l es → findM P A kt k l i = some o → Instr.findNow d kv es i = some q → FoundR e l i o q
 | [], es, i, o, q, h, h1, h2 => by
  simp only [MR] at h;subst h;simp only [findM, sme] at h1;subst h1;simp only [Instr.findNow, sme] at h2;exact h2.symm
 | m :: l, es, i, o, q, h, h1, h2 => by
  obtain ⟨x, rest, rfl, g1, g2, g3, g4⟩ := h;simp only [findM] at h1;simp only [Instr.findNow] at h2;split at h1
  ·rename_i he;simp only [sme] at h1;subst h1;split at h2
   ·simp only [sme] at h2;exact ⟨m, x.val, Nat.le_refl _, by simp, h2.symm, g2⟩
   ·rename_i hs;have := sameNow_of hA hu he hk g1 hs;cases this
   ·cases h2
  ·rename_i he;split at h2
   ·rename_i hs;have := sameNow_of hA hu he hk g1 hs;cases this
   ·have ih := findNow_ok hA hu hk l rest (i + 1) o q g4 h1 h2;cases o with
    | none => exact ih
    | some j =>
     obtain ⟨m', v, f1, f2, f3, f4⟩ := ih;refine ⟨m', v, by omega, ?_, f3, f4⟩;rw [show j - i = (j - (i + 1)) + 1 by omega];simpa using f2
   ·cases h2
  ·cases h1

theorem findAsking_ok {P : Program} {e : Env} {A : Ask} (hA : AskOK e.opq A) {kt : TypeId} {k : AV} {kv : Value} (hk : VR e k kv) (w : World) : ∀ (l : List ME) (es : List MapEntry) (i : Nat) (o : Option Nat), MR e l es → findM P A kt k l i = some o → ∃ q, (Instr.findAsking kt kv es i).run P w = .ok q w ∧ FoundR e l i o q
 | [], es, i, o, h, h1 => by
  simp only [MR] at h;subst h;simp only [findM, sme] at h1;subst h1;exact ⟨none, by simp [Instr.findAsking], rfl⟩
 | m :: l, es, i, o, h, h1 => by
  obtain ⟨x, rest, rfl, g1, g2, g3, g4⟩ := h;simp only [findM] at h1;split at h1
  ·rename_i he;simp only [sme] at h1;subst h1;have hr := eqT_run (P := P) hA 1000 kt k m.key true he hk g1 Op.maxDepth (by decide) w;refine ⟨some (i, x.val), ?_, m, x.val, Nat.le_refl _, by simp, rfl, g2⟩;simp only [Instr.findAsking, Op.equal, Sem.run_bind, hr, Result.andThen_ok, if_true, Sem.run_pure]
  ·rename_i he;have hr := eqT_run (P := P) hA 1000 kt k m.key false he hk g1 Op.maxDepth (by decide) w;obtain ⟨q, q1, q2⟩ := findAsking_ok hA hk w l rest (i + 1) o g4 h1;refine ⟨q, ?_, ?_⟩
   ·simp only [Instr.findAsking, Op.equal, Sem.run_bind, hr, Result.andThen_ok, Bool.false_eq_true, if_false];exact q1
   ·cases o with
    | none => exact q2
    | some j =>
     obtain ⟨m', v, f1, f2, f3, f4⟩ := q2;refine ⟨m', v, by omega, ?_, f3, f4⟩;rw [show j - i = (j - (i + 1)) + 1 by omega];simpa using f2
  ·cases h1

theorem findM_run {P : Program} {e : Env} {A : Ask} (hA : AskOK e.opq A) {kt : TypeId} {d : TypeDesc} (hu : P.underlying kt = some d) {k : AV} {kv : Value} (hk : VR e k kv) {l : List ME} {es : List MapEntry} {o : Option Nat} (h : MR e l es) (h1 : findM P A kt k l 0 = some o) (w : World) :
  ∃ q, (Instr.findKey kt kv es).run P w = .ok q w ∧ FoundR e l 0 o q := by
 unfold Instr.findKey;simp only [Sem.run_bind, run_underlying hu, Result.andThen_ok];split
 ·rename_i r hr;exact ⟨r, by simp, findNow_ok hA hu hk l es 0 o r h h1 hr⟩
 ·exact findAsking_ok hA hk w l es 0 o h h1

theorem MR.length {e : Env} : ∀ {l : List ME} {es : List MapEntry}, MR e l es → es.length = l.length
 | [], _, h => by simp only [MR] at h; subst h; rfl
 | _ :: _, _, ⟨x, rest, h1, _, _, _, h5⟩ => by subst h1; simp [h5.length]
theorem MR.at {e : Env} : ∀ {l : List ME} {es : List MapEntry}, MR e l es → ∀ {i : Nat} {m : ME}, l[i]? = some m → ∃ x, es[i]? = some x ∧ VR e m.key x.key ∧ VR e m.val x.val ∧ x.born = m.born
 | [], _, _, i, m, hi => by simp at hi
 | _ :: _, _, ⟨x, rest, h1, h2, h3, h4, h5⟩, 0, m, hi => by
  subst h1; simp at hi; subst hi; exact ⟨x, rfl, h2, h3, h4⟩
 | _ :: _, _, ⟨x, rest, h1, h2, h3, h4, h5⟩, i + 1, m, hi => by
  subst h1; simpa using h5.at (by simpa using hi)
theorem MR.append {e : Env} : ∀ {l m : List ME} {es fs : List MapEntry}, MR e l es → MR e m fs → MR e (l ++ m) (es ++ fs)
 | [], _, _, _, h, k => by simp only [MR] at h; subst h; simpa using k
 | _ :: _, _, _, _, ⟨x, rest, h1, h2, h3, h4, h5⟩, k => by subst h1; exact ⟨x, _, rfl, h2, h3, h4, h5.append k⟩

theorem MR.modify {e : Env} {f : ME → ME} {g : MapEntry → MapEntry} (hfg : ∀ m x, VR e m.key x.key → VR e m.val x.val → x.born = m.born → VR e (f m).key (g x).key ∧ VR e (f m).val (g x).val ∧ (g x).born = (f m).born) : ∀ {l : List ME} {es : List MapEntry}, MR e l es → ∀ i, MR e (l.modify i f) (es.modify i g)
 | [], _, h, i => by simp only [MR] at h; subst h; simp [MR]
 | _ :: _, _, ⟨x, rest, h1, h2, h3, h4, h5⟩, 0 => by
  subst h1;obtain ⟨a, b, c⟩ := hfg _ _ h2 h3 h4;exact ⟨g x, rest, by simp, a, b, c, h5⟩
 | m :: r, _, ⟨x, rest, h1, h2, h3, h4, h5⟩, i + 1 => by
  subst h1;simp only [List.modify_succ_cons];exact ⟨x, rest.modify i g, rfl, h2, h3, h4, h5.modify hfg i⟩
theorem MR.erase {e : Env} : ∀ {l : List ME} {es : List MapEntry}, MR e l es → ∀ i, MR e (l.eraseIdx i) (es.eraseIdx i)
 | [], _, h, i => by simp only [MR] at h; subst h; simp [MR]
 | _ :: _, _, ⟨x, rest, h1, h2, h3, h4, h5⟩, 0 => by subst h1; simpa using h5
 | _ :: _, _, ⟨x, rest, h1, h2, h3, h4, h5⟩, i + 1 => by
  subst h1;simp only [List.eraseIdx_cons_succ];exact ⟨x, _, rfl, h2, h3, h4, h5.erase i⟩

def St.mapR (s : St) (id : Nat) : Option (List ME × Nat) := match s.heap.get id with
 | some (.map es c) => some (es, c)
 | _ => none
theorem St.mapR_some {s : St} {id : Nat} {p : List ME × Nat} (h : s.mapR id = some p) : s.heap.get id = some (.map p.1 p.2) := by
 unfold St.mapR at h;split at h
 ·rename_i es c hc; simp only [sme] at h; subst h; exact hc
 ·cases h

theorem Rel.mapRow {Ω : Om} {w0 : Base} {e : Env} {s : St} {w : World} (h : Rel Ω w0 e s w) {id : Nat} {es : List ME} {c : Nat} (hb : s.heap.get id = some (.map es c)) : ∃ k arr, e.loc id = some k ∧ w0.mine k ∧ e.base id = 0 ∧ w.heap[k]? = some (.map arr c) ∧ MR e es arr.toList := by
 obtain ⟨k, h1, h2, h3, arr, h4, h5⟩ := h.obj id _ hb;exact ⟨k, arr, h1, h2, h3, h4, h5⟩

def St.setMap (s : St) (id : Nat) (es : List ME) (c : Nat) : St := match s with
 | ⟨h, n⟩ => ⟨h.put id (some (.map es c)), n⟩
theorem Rel.setMap {Ω : Om} {w0 : Base} {e : Env} {s : St} {w : World} (h : Rel Ω w0 e s w) {id : Nat} {es es' : List ME} {c c' : Nat} {k : Nat} {arr arr' : Array MapEntry} (hb : s.heap.get id = some (.map es c)) (hk : e.loc id = some k) (hw : w.heap[k]? = some (.map arr c)) (hR : MR e es' arr'.toList) :
  Rel Ω w0 e (s.setMap id es' c') { w with heap := w.heap.setIfInBounds k (.map arr' c') } := by
 obtain ⟨k2, arr2, g1, g2, g3, g4, g5⟩ := h.mapRow hb;obtain rfl : k2 = k := by rw [hk] at g1; exact (Option.some.inj g1).symm
 have hlt : k2 < w.heap.size := (Array.getElem?_eq_some_iff.1 hw).1;have := h.setO (o' := .map es' c') (w' := { w with heap := w.heap.setIfInBounds k2 (.map arr' c') }) hb hk g2 (h.apart _ _ _ hb rfl hk) ⟨g2, g3, arr', by simp [hlt], hR⟩ (fun j hj => by simp [Ne.symm hj]) rfl rfl rfl (by simp);cases s;exact this

theorem setObj_run {P : Program} {w : World} {r : Nat} {es : Array MapEntry} {clock : Nat} (o : Obj) (hb : w.heap[r]? = some (.map es clock)) : (setObj r o).run P w = .ok () { w with heap := w.heap.setIfInBounds r o } := MapKept.run_setObj_map o hb

def zeroAV (P : Program) (t : TypeId) : Option AV := match pureRun P (zeroValue t) with
 | some z => ofVal 60 z
 | none => none
theorem zeroAV_run {P : Program} {t : TypeId} {v : AV} (h : zeroAV P t = some v) (e : Env) : ∃ z, VR e v z ∧ ∀ w, (zeroValue t).run P w = .ok z w := by
 unfold zeroAV at h;split at h
 ·rename_i z hz; exact ⟨z, ofVal_vr _ _ _ h, fun w => pureRun_run _ _ hz w⟩
 ·cases h

def coVal (co : Bool) (v : AV) (ok : Bool) : AV := match co with
 | true => .tuple [v, .bool ok]
 | false => v
theorem coVal_vr {e : Env} {co ok : Bool} {v : AV} {x : Value} (h : VR e v x) : VR e (coVal co v ok) (if co then .tuple #[x, .bool ok] else x) := by
 cases co
 ·exact h
 ·simp only [coVal, if_true, VR];exact ⟨#[x, .bool ok], rfl, VRs_cons h (VRs_cons (by simp only [VR]) VRs_nil)⟩

def lookupM (P : Program) (A : Ask) (s : St) (ty : TypeId) (x k : AV) (co : Bool) : Option AV :=
 match P.underlying ty with
 | some (.map kt el) => match P.underlying kt, keyA P 20 kt k with
  | some _, true => match x with
   | .nilmap => match zeroAV P el with
    | some z => some (coVal co z false)
    | none => none
   | .mapv id => match s.mapR id with
    | some (es, _) => match findM P A kt k es 0 with
     | some (some i) => match es[i]? with
      | some m => some (coVal co m.val true)
      | none => none
     | some none => match zeroAV P el with
      | some z => some (coVal co z false)
      | none => none
     | none => none
    | none => none
   | _ => none
  | _, _ => none
 | _ => none

theorem lookupM_run {P : Program} {Ω : Om} {w0 : Base} {A : Ask} (hA : AskOK Ω A) {e : Env} {s : St} {w : World} (h : Rel Ω w0 e s w) {ty : TypeId} {x k v : AV} {co : Bool} (hk : lookupM P A s ty x k co = some v) {xv kv : Value} (hx : VR e x xv) (hkv : VR e k kv) :
  ∃ y, VR e v y ∧ (Instr.lookup ty xv kv co).run P w = .ok y w := by
 have hA' : AskOK e.opq A := by rw [h.opq]; exact hA
 unfold lookupM at hk;split at hk
 ·rename_i kt el hu;split at hk
  ·rename_i d hd hkey;have hck := fun b => keyA_run 20 kt k hkey hkv 10000 (by decide) b w
   split at hk
   ·split at hk
    ·rename_i z hz;simp only [sme] at hk;subst hk;obtain ⟨zv, z1, z2⟩ := zeroAV_run hz e;simp only [VR] at hx;subst hx;refine ⟨_, coVal_vr (co := co) (ok := false) z1, ?_⟩;obtain ⟨q, q1, q2⟩ := findM_run (P := P) hA' hd hkv (l := []) (es := []) (o := none) rfl rfl w;have q2 : q = none := q2;subst q2;simp only [Instr.lookup, Sem.run_bind, run_underlying hu, Result.andThen_ok, Sem.run_pure, hck, q1, z2 w] <;> (cases co <;> simp)
    ·cases hk
   ·rename_i id;simp only [VR] at hx;obtain ⟨b, hb, rfl⟩ := hx;split at hk
    ·rename_i es c hes;obtain ⟨kk, arr, l1, l2, l3, l4, l5⟩ := h.mapRow (St.mapR_some hes);obtain rfl : kk = b := by rw [hb] at l1; exact (Option.some.inj l1).symm
     split at hk
     ·rename_i i hf;obtain ⟨q, q1, q2⟩ := findM_run (P := P) hA' hd hkv l5 hf w;obtain ⟨m, vv, g1, g2, g3, g4⟩ := q2;subst g3;split at hk
      ·rename_i m' hm';simp only [sme] at hk;subst hk;have g2 : es[i]? = some m := by simpa using g2
       rw [g2] at hm';cases hm';refine ⟨_, coVal_vr (co := co) (ok := true) g4, ?_⟩;simp only [Instr.lookup, Sem.run_bind, run_underlying hu, Result.andThen_ok, Sem.run_pure, MapKept.run_getObj_map l4, hck, q1] <;> (cases co <;> simp)
      ·cases hk
     ·rename_i hf;obtain ⟨q, q1, q2⟩ := findM_run (P := P) hA' hd hkv l5 hf w;have q2 : q = none := q2;subst q2;split at hk
      ·rename_i z hz;simp only [sme] at hk;subst hk;obtain ⟨zv, z1, z2⟩ := zeroAV_run hz e;refine ⟨_, coVal_vr (co := co) (ok := false) z1, ?_⟩;simp only [Instr.lookup, Sem.run_bind, run_underlying hu, Result.andThen_ok, Sem.run_pure, MapKept.run_getObj_map l4, hck, q1, z2 w] <;> (cases co <;> simp)
      ·cases hk
     ·cases hk
    ·cases hk
   ·cases hk
  ·cases hk
 ·cases hk

def stays (a b : AV) : Bool := match toVal a, toVal b with
 | some x, some y => Instr.sameBits 10000 x y
 | _, _ => false
theorem stays_run {P : Program} {e : Env} {a b : AV} (h : stays a b = true) {x y : Value} (hx : VR e a x) (hy : VR e b y) (w : World) : (Instr.keyThatStays x y).run P w = .ok y w := by
 unfold stays at h;split at h
 ·rename_i u v hu hv;have h1 := VR.toVal a x u hx hu;have h2 := VR.toVal b y v hy hv;subst h1 h2;simp only [Instr.keyThatStays, h, if_true, Sem.run_pure]
 ·cases h

def putM (P : Program) (A : Ask) (s : St) (ty : TypeId) (x k : AV) (v : Option AV) : Option (AV × Nat × St) :=
 match P.underlying ty with
 | some (.map kt el) => match P.underlying kt, keyA P 20 kt k with
  | some _, true => match x with
   | .mapv id => match s.mapR id with
    | some (es, c) => match findM P A kt k es 0 with
     | some (some i) => match es[i]? with
      | some m => match stays m.key k with
       | true => match v with
        | some u => some (u, m.born, s.setMap id (es.modify i fun m => ⟨k, u, m.born⟩) c)
        | none => some (m.val, m.born, s.setMap id (es.modify i fun m => ⟨k, m.val, m.born⟩) c)
       | false => none
      | none => none
     | some none => match v with
      | some u => some (u, c, s.setMap id (es ++ [⟨k, u, c⟩]) (c + 1))
      | none => match zeroAV P el with
       | some z => some (z, c, s.setMap id (es ++ [⟨k, z, c⟩]) (c + 1))
       | none => none
     | none => none
    | none => none
   | _ => none
  | _, _ => none
 | _ => none

theorem goInt_vr {e : Env} (n : Nat) : VR e (.int .i64 n) (goInt n) := by simp only [VR, goInt]

theorem array_getElem? {α : Type} (arr : Array α) (i : Nat) : arr[i]? = arr.toList[i]? := by simp

theorem updateM_run {P : Program} {Ω : Om} {w0 : Base} {A : Ask} (hA : AskOK Ω A) {e : Env} {s : St} {w : World} (h : Rel Ω w0 e s w) {ty : TypeId} {x k v u : AV} {b : Nat} {s' : St} (hk : putM P A s ty x k (some v) = some (u, b, s')) {xv kv vv : Value} (hx : VR e x xv) (hkv : VR e k kv) (hv : VR e v vv) :
  ∃ w', Rel Ω w0 e s' w' ∧ (Instr.mapUpdate ty xv kv vv).run P w = .ok () w' := by
 have hA' : AskOK e.opq A := by rw [h.opq]; exact hA
 unfold putM at hk;split at hk
 ·rename_i kt el hu;split at hk
  ·rename_i d hd hkey;have hck := fun b => keyA_run 20 kt k hkey hkv 10000 (by decide) b w
   split at hk
   ·rename_i id;simp only [VR] at hx;obtain ⟨b, hb, rfl⟩ := hx;split at hk
    ·rename_i es c hes;obtain ⟨kk, arr, l1, l2, l3, l4, l5⟩ := h.mapRow (St.mapR_some hes);obtain rfl : kk = b := by rw [hb] at l1; exact (Option.some.inj l1).symm
     split at hk
     ·rename_i i hf;obtain ⟨q, q1, q2⟩ := findM_run (P := P) hA' hd hkv l5 hf w;obtain ⟨m, v0, g1, g2, g3, g4⟩ := q2;subst g3;have g2 : es[i]? = some m := by simpa using g2
      obtain ⟨xe, f1, f2, f3, f4⟩ := l5.at g2;split at hk
      ·rename_i m' hm';rw [g2] at hm';cases hm';split at hk
       ·rename_i hst;simp only [sme, pme] at hk;obtain ⟨rfl, rfl, rfl⟩ := hk;refine ⟨_, h.setMap (arr' := arr.modify i fun e => { e with key := kv, val := vv }) (St.mapR_some hes) hb l4 ?_, ?_⟩
        ·rw [Array.toList_modify];exact MR.modify (f := fun m => ⟨k, v, m.born⟩) (g := fun e => { e with key := kv, val := vv }) (fun m x _ _ hbn => ⟨hkv, hv, hbn⟩) l5 i
        ·have hke : ((arr[i]?).map (·.key)).getD kv = xe.key := by rw [array_getElem?, f1]; rfl
         simp only [Instr.mapUpdate, Sem.run_bind, run_underlying hu, Result.andThen_ok, Sem.run_pure, MapKept.run_getObj_map l4, hck, q1, hke, stays_run hst f2 hkv, setObj_run _ l4]
       ·cases hk
      ·cases hk
     ·rename_i hf;obtain ⟨q, q1, q2⟩ := findM_run (P := P) hA' hd hkv l5 hf w;have q2 : q = none := q2;subst q2;simp only [sme, pme] at hk;obtain ⟨rfl, rfl, rfl⟩ := hk;refine ⟨_, h.setMap (arr' := arr.push { key := kv, val := vv, born := c }) (St.mapR_some hes) hb l4 ?_, ?_⟩
      ·rw [Array.toList_push];exact l5.append ⟨_, [], rfl, hkv, hv, rfl, rfl⟩
      ·simp only [Instr.mapUpdate, Sem.run_bind, run_underlying hu, Result.andThen_ok, Sem.run_pure, MapKept.run_getObj_map l4, hck, q1, setObj_run _ l4]
     ·cases hk
    ·cases hk
   ·cases hk
  ·cases hk
 ·cases hk

theorem entryM_run {P : Program} {Ω : Om} {w0 : Base} {A : Ask} (hA : AskOK Ω A) {e : Env} {s : St} {w : World} (h : Rel Ω w0 e s w) {ty : TypeId} {x k u : AV} {b : Nat} {s' : St} (hk : putM P A s ty x k none = some (u, b, s')) {xv kv : Value} (hx : VR e x xv) (hkv : VR e k kv) :
  ∃ w' y, Rel Ω w0 e s' w' ∧ VR e u y ∧ (Instr.mapEntry ty xv kv).run P w = .ok (.tuple #[y, goInt b]) w' := by
 have hA' : AskOK e.opq A := by rw [h.opq]; exact hA
 unfold putM at hk;split at hk
 ·rename_i kt el hu;split at hk
  ·rename_i d hd hkey;have hck := fun b => keyA_run 20 kt k hkey hkv 10000 (by decide) b w
   split at hk
   ·rename_i id;simp only [VR] at hx;obtain ⟨b0, hb, rfl⟩ := hx;split at hk
    ·rename_i es c hes;obtain ⟨kk, arr, l1, l2, l3, l4, l5⟩ := h.mapRow (St.mapR_some hes);obtain rfl : kk = b0 := by rw [hb] at l1; exact (Option.some.inj l1).symm
     split at hk
     ·rename_i i hf;obtain ⟨q, q1, q2⟩ := findM_run (P := P) hA' hd hkv l5 hf w;obtain ⟨m, v0, g1, g2, g3, g4⟩ := q2;subst g3;have g2 : es[i]? = some m := by simpa using g2
      obtain ⟨xe, f1, f2, f3, f4⟩ := l5.at g2;split at hk
      ·rename_i m' hm';rw [g2] at hm';cases hm';split at hk
       ·rename_i hst;simp only [sme, pme] at hk;obtain ⟨rfl, rfl, rfl⟩ := hk;refine ⟨_, v0, h.setMap (arr' := arr.modify i fun e => { e with key := kv }) (St.mapR_some hes) hb l4 ?_, g4, ?_⟩
        ·rw [Array.toList_modify];exact MR.modify (f := fun m => ⟨k, m.val, m.born⟩) (g := fun e => { e with key := kv }) (fun m x _ hvl hbn => ⟨hkv, hvl, hbn⟩) l5 i
        ·have hke : ((arr[i]?).map (·.key)).getD kv = xe.key := by rw [array_getElem?, f1]; rfl
         have hbe : ((arr[i]?).map (fun x => (x.born : Int))).getD 0 = (m.born : Int) := by rw [array_getElem?, f1]; show (xe.born : Int) = _; rw [f4]
         simp only [Instr.mapEntry, Sem.run_bind, run_underlying hu, Result.andThen_ok, Sem.run_pure, MapKept.run_getObj_map l4, hck, q1, hke, stays_run hst f2 hkv, setObj_run _ l4, hbe]
       ·cases hk
      ·cases hk
     ·rename_i hf;obtain ⟨q, q1, q2⟩ := findM_run (P := P) hA' hd hkv l5 hf w;have q2 : q = none := q2;subst q2;dsimp only at hk;split at hk
      ·rename_i z hz;obtain ⟨zv, z1, z2⟩ := zeroAV_run hz e;simp only [sme, pme] at hk;obtain ⟨rfl, rfl, rfl⟩ := hk;refine ⟨_, zv, h.setMap (arr' := arr.push { key := kv, val := zv, born := c }) (St.mapR_some hes) hb l4 ?_, z1, ?_⟩
       ·rw [Array.toList_push];exact l5.append ⟨_, [], rfl, hkv, z1, rfl, rfl⟩
       ·simp only [Instr.mapEntry, Sem.run_bind, run_underlying hu, Result.andThen_ok, Sem.run_pure, MapKept.run_getObj_map l4, hck, q1, z2 w, setObj_run _ l4]
      ·cases hk
     ·cases hk
    ·cases hk
   ·cases hk
  ·cases hk
 ·cases hk

def bornAt (c : Nat) : List ME → Nat → Option Nat
 | [], _ => none
 | m :: r, i => match Nat.beq m.born c with
  | true => some i
  | false => bornAt c r (i + 1)
theorem bornAt_find {e : Env} {c : Nat} : ∀ {l : List ME} {es : List MapEntry} {i j : Nat}, MR e l es → bornAt c l i = some j → ∃ k, j = i + k ∧ es.findIdx? (fun e => (e.born : Int) == (c : Int)) = some k
 | [], _, _, _, _, h => by simp [bornAt] at h
 | m :: r, _, i, j, ⟨x, rest, h1, h2, h3, h4, h5⟩, h => by
  subst h1;simp only [bornAt] at h;split at h
  ·rename_i hb;simp only [sme] at h;subst h;have : x.born = c := by rw [h4]; exact beq_t hb
   exact ⟨0, rfl, by simp [List.findIdx?_cons, this]⟩
  ·rename_i hb;obtain ⟨k, k1, k2⟩ := bornAt_find h5 h;have : ¬ x.born = c := by rw [h4]; exact beq_f hb
   refine ⟨k + 1, by omega, ?_⟩;rw [List.findIdx?_cons];have hne : ((x.born : Int) == (c : Int)) = false := by simp; omega
   rw [hne, k2]; rfl

def storeM (s : St) (x st v : AV) : Option St := match x, st with
 | .mapv id, .int _ (.ofNat n) => match s.mapR id with
  | some (es, c) => match bornAt n es 0 with
   | some i => some (s.setMap id (es.modify i fun m => ⟨m.key, v, m.born⟩) c)
   | none => none
  | none => none
 | _, _ => none

theorem storeM_run {P : Program} {Ω : Om} {w0 : Base} {e : Env} {s : St} {w : World} (h : Rel Ω w0 e s w) {ty : TypeId} {x st v : AV} {s' : St} (hk : storeM s x st v = some s') {xv sv vv : Value} (hx : VR e x xv) (hs : VR e st sv) (hv : VR e v vv) :
  ∃ w', Rel Ω w0 e s' w' ∧ (Instr.entryStore ty xv sv vv).run P w = .ok () w' := by
 unfold storeM at hk;split at hk
 ·rename_i id kd n;simp only [VR] at hx hs;obtain ⟨b0, hb, rfl⟩ := hx;subst hs;split at hk
  ·rename_i es c hes;obtain ⟨kk, arr, l1, l2, l3, l4, l5⟩ := h.mapRow (St.mapR_some hes);obtain rfl : kk = b0 := by rw [hb] at l1; exact (Option.some.inj l1).symm
   split at hk
   ·rename_i i hi;simp only [sme] at hk;subst hk;obtain ⟨k, k1, k2⟩ := bornAt_find l5 hi;obtain rfl : i = k := by omega
    refine ⟨_, h.setMap (arr' := arr.modify i fun e => { e with val := vv }) (St.mapR_some hes) hb l4 ?_, ?_⟩
    ·rw [Array.toList_modify];exact MR.modify (f := fun m => ⟨m.key, v, m.born⟩) (g := fun e => { e with val := vv }) (fun m x hky _ hbn => ⟨hky, hv, hbn⟩) l5 i
    ·have hfi : arr.findIdx? (fun e => (e.born : Int) == (Int.ofNat n)) = some i := by cases arr; simpa using k2
     have hsi : (asInt (Value.int kd (Int.ofNat n))).run P w = .ok (Int.ofNat n) w := by simp [asInt, asIntOf]
     simp only [Instr.entryStore, Sem.run_bind, Result.andThen_ok, Sem.run_pure, MapKept.run_getObj_map l4, hsi, hfi, setObj_run _ l4]
   ·cases hk
  ·cases hk
 ·cases hk

def delM (P : Program) (A : Ask) (s : St) (ty : TypeId) (x k : AV) : Option St :=
 match P.underlying ty with
 | some (.map kt _) => match P.underlying kt, keyA P 20 kt k with
  | some _, true => match x with
   | .nilmap => some s
   | .mapv id => match s.mapR id with
    | some (es, c) => match findM P A kt k es 0 with
     | some (some i) => some (s.setMap id (es.eraseIdx i) c)
     | some none => some (s.setMap id es c)
     | none => none
    | none => none
   | _ => none
  | _, _ => none
 | _ => none

theorem delM_run {P : Program} {Ω : Om} {w0 : Base} {A : Ask} (hA : AskOK Ω A) {e : Env} {s : St} {w : World} (h : Rel Ω w0 e s w) {ty ty2 t3 : TypeId} {x k : AV} {s' : St} (hk : delM P A s ty x k = some s') {xv kv : Value} (hx : VR e x xv) (hkv : VR e k kv) :
  ∃ w', Rel Ω w0 e s' w' ∧ (Builtin.delete_ #[ty, ty2] t3 #[xv, kv]).run P w = .ok (.tuple #[]) w' := by
 have hA' : AskOK e.opq A := by rw [h.opq]; exact hA
 unfold delM at hk;split at hk
 ·rename_i kt el hu;split at hk
  ·rename_i d hd hkey;have hck := fun b => keyA_run 20 kt k hkey hkv 10000 (by decide) b w
   split at hk
   ·simp only [sme] at hk;subst hk;simp only [VR] at hx;subst hx;exact ⟨w, h, by simp [Builtin.delete_, run_underlying hu, hck]⟩
   ·rename_i id;simp only [VR] at hx;obtain ⟨b0, hb, rfl⟩ := hx;split at hk
    ·rename_i es c hes;obtain ⟨kk, arr, l1, l2, l3, l4, l5⟩ := h.mapRow (St.mapR_some hes);obtain rfl : kk = b0 := by rw [hb] at l1; exact (Option.some.inj l1).symm
     split at hk
     ·rename_i i hf;simp only [sme] at hk;subst hk;obtain ⟨q, q1, q2⟩ := findM_run (P := P) hA' hd hkv l5 hf w;obtain ⟨m, v0, g1, g2, g3, g4⟩ := q2;subst g3;refine ⟨_, h.setMap (arr' := arr.eraseIdxIfInBounds i) (St.mapR_some hes) hb l4 ?_, ?_⟩
      ·rw [Array.toList_eraseIdxIfInBounds]; exact l5.erase i
      ·simp [Builtin.delete_, run_underlying hu, hck, MapKept.run_getObj_map l4, q1, setObj_run _ l4]
     ·rename_i hf;simp only [sme] at hk;subst hk;obtain ⟨q, q1, q2⟩ := findM_run (P := P) hA' hd hkv l5 hf w;have q2 : q = none := q2;subst q2;refine ⟨_, h.setMap (arr' := arr) (St.mapR_some hes) hb l4 l5, ?_⟩;simp [Builtin.delete_, run_underlying hu, hck, MapKept.run_getObj_map l4, q1, setObj_run _ l4]
     ·cases hk
    ·cases hk
   ·cases hk
  ·cases hk
 ·cases hk

def lenM (P : Program) (s : St) (ty : TypeId) (x : AV) : Option AV := match P.underlying ty, x with
 | some (.map _ _), .nilmap => some (.int .i64 0)
 | some (.map _ _), .mapv id => match s.mapR id with
  | some (es, _) => some (.int .i64 es.length)
  | none => none
 | _, _ => none

theorem lenM_run {P : Program} {Ω : Om} {w0 : Base} {e : Env} {s : St} {w : World} (h : Rel Ω w0 e s w) {ty t3 : TypeId} {x v : AV} (hk : lenM P s ty x = some v) {xv : Value} (hx : VR e x xv) : ∃ y, VR e v y ∧ (Builtin.len_ #[ty] t3 #[xv]).run P w = .ok y w := by
 unfold lenM at hk;split at hk
 ·rename_i hu;simp only [sme] at hk;subst hk;simp only [VR] at hx;subst hx;exact ⟨goInt 0, by simp only [VR, goInt], by simp [Builtin.len_, run_underlying hu]⟩
 ·rename_i id hu;simp only [VR] at hx;obtain ⟨b0, hb, rfl⟩ := hx;split at hk
  ·rename_i es c hes;obtain ⟨kk, arr, l1, l2, l3, l4, l5⟩ := h.mapRow (St.mapR_some hes);obtain rfl : kk = b0 := by rw [hb] at l1; exact (Option.some.inj l1).symm
   simp only [sme] at hk;subst hk;have hlen := l5.length;have hsz : arr.size = es.length := by simpa using hlen
   refine ⟨goInt arr.size, by rw [hsz]; exact goInt_vr _, ?_⟩;simp [Builtin.len_, run_underlying hu, MapKept.run_getObj_map l4]
  ·cases hk
 ·cases hk

def actM (P : Program) (A : Ask) (t : T AV) (s : St) (o : Oper) : Option Res :=
 match o.op with
 | .makeMap _ none => some (.val (.mapv s.nid) (s.newO (.map [] 0)))
 | .lookup ty x k co => match evalO t x, evalO t k with
  | some a, some b => match lookupM P A s ty a b co with
   | some v => some (.val v s)
   | none => none
  | _, _ => none
 | .mapUpdate ty x k v => match evalO t x, evalO t k, evalO t v with
  | some a, some b, some c => match putM P A s ty a b (some c) with
   | some (_, _, s') => some (.skip s')
   | none => none
  | _, _, _ => none
 | .insert ty x k v => match evalO t x, evalO t k, evalO t v with
  | some a, some b, some c => match putM P A s ty a b (some c) with
   | some (_, _, s') => some (.skip s')
   | none => none
  | _, _, _ => none
 | .mapEntry ty x k => match evalO t x, evalO t k with
  | some a, some b => match putM P A s ty a b none with
   | some (v, n, s') => some (.val (.tuple [v, .int .i64 n]) s')
   | none => none
  | _, _ => none
 | .entryStore _ x st v => match evalO t x, evalO t st, evalO t v with
  | some a, some b, some c => match storeM s a b c with
   | some s' => some (.skip s')
   | none => none
  | _, _, _ => none
 | .call { callee := .builtin .delete, args := args, argTypes := tys } => match args.toList, tys.toList with
  | [x, k], [ty, _] => match evalO t x, evalO t k with
   | some a, some b => match delM P A s ty a b with
    | some s' => some (.val (.tuple []) s')
    | none => none
   | _, _ => none
  | _, _ => none
 | .call { callee := .builtin .len, args := args, argTypes := tys } => match args.toList, tys.toList with
  | [x], [ty] => match evalO t x with
   | some a => match lenM P s ty a with
    | some v => some (.val v s)
    | none => none
   | _ => none
  | _, _ => none
 | _ => none

theorem allocM {Ω : Om} {w0 : Base} {e : Env} {s : St} {w : World} (h : Rel Ω w0 e s w) (ob : AObj) (o : Obj) (hR : ObjR w0 (e.newB s w.heap.size 0 0) s.nid w.heap.size (w.alloc o) ob) :
  e.le (e.newB s w.heap.size 0 0) ∧ Rel Ω w0 (e.newB s w.heap.size 0 0) (s.newO ob) (w.alloc o) :=
 h.newO ob w.heap.size 0 0 (h.below.alloc o) hR (fun id q hq j hj => by
  have hlt := h.loc_lt hq hj;exact ⟨by omega, Below.heap_alloc _ _ _ hlt⟩) (fun j _ hj => Below.heap_alloc _ _ _ (h.pool_lt hj)) (fun _ => h.pool_new (Nat.le_refl _))

theorem actM_run {P : Program} {Ω : Om} {w0 : Base} {A : Ask} (hA : AskOK Ω A) {e : Env} {t : T AV} {a : Act} (h : FT e t a) {s : St} {w : World} (hr : Rel Ω w0 e s w) {o : Oper} {r : Res} (k : actM P A t s o = some r)
  (K : Act → World → Prop) (Q : Exit → Act → World → Prop) (H : ResPost Ω w0 e o a K Q w r) : o.wp P a w K Q := by
 unfold actM at k;split at k
 ·rename_i ty hop;simp only [sme] at k;subst k;obtain ⟨le1, rel1⟩ := allocM hr (.map [] 0) (.map #[] 0) ⟨Base.mine_new hr.below, by simp [Env.newB], #[], (show (w.alloc (.map #[] 0)).heap[w.heap.size]? = some (.map #[] 0) by rw [← World.alloc_eq]; simp), rfl⟩;simp only [Oper.wp, execOp, hop, Instr.makeMap, Sem.run_bind, Option.map_none, Sem.run_pure, Result.andThen_ok, run_newObj_alloc, Oper.upon_value];exact H _ _ _ le1 (by simp only [VR]; exact ⟨w.heap.size, by simp [Env.newB], rfl⟩) rel1
 ·rename_i ty x k' co hop;split at k
  ·rename_i a' b' hx hk';split at k
   ·rename_i v hv;simp only [sme] at k;subst k;obtain ⟨y, y1, y2⟩ := lookupM_run hA hr hv (evalO_vr h hx) (evalO_vr h hk');simp only [Oper.wp, execOp, hop, Sem.run_bind, y2, Result.andThen_ok, Sem.run_pure, Oper.upon_value];exact H e y w (Env.le_refl e) y1 hr
   ·cases k
  ·cases k
 ·rename_i ty x k' v hop;split at k
  ·rename_i a' b' c' hx hk' hv;split at k
   ·rename_i u n s' hp;simp only [sme] at k;subst k;obtain ⟨w', h1, h2⟩ := updateM_run hA hr hp (evalO_vr h hx) (evalO_vr h hk') (evalO_vr h hv);simp only [Oper.wp, execOp, hop, Sem.run_bind, h2, Result.andThen_ok, Sem.run_pure, Oper.upon_skip];exact H e w' (Env.le_refl e) h1
   ·cases k
  ·cases k
 ·rename_i ty x k' v hop;split at k
  ·rename_i a' b' c' hx hk' hv;split at k
   ·rename_i u n s' hp;simp only [sme] at k;subst k;obtain ⟨w', h1, h2⟩ := updateM_run hA hr hp (evalO_vr h hx) (evalO_vr h hk') (evalO_vr h hv);simp only [Oper.wp, execOp, hop, Sem.run_bind, h2, Result.andThen_ok, Sem.run_pure, Oper.upon_skip];exact H e w' (Env.le_refl e) h1
   ·cases k
  ·cases k
 ·rename_i ty x k' hop;split at k
  ·rename_i a' b' hx hk';split at k
   ·rename_i u n s' hp;simp only [sme] at k;subst k;obtain ⟨w', y, h1, h2, h3⟩ := entryM_run hA hr hp (evalO_vr h hx) (evalO_vr h hk');simp only [Oper.wp, execOp, hop, Sem.run_bind, h3, Result.andThen_ok, Sem.run_pure, Oper.upon_value];exact H e _ w' (Env.le_refl e) (by simp only [VR]; exact ⟨_, rfl, VRs_cons h2 (VRs_cons (goInt_vr n) VRs_nil)⟩) h1
   ·cases k
  ·cases k
 ·rename_i ty x st v hop;split at k
  ·rename_i a' b' c' hx hk' hv;split at k
   ·rename_i s' hp;simp only [sme] at k;subst k;obtain ⟨w', h1, h2⟩ := storeM_run (P := P) (ty := ty) hr hp (evalO_vr h hx) (evalO_vr h hk') (evalO_vr h hv);simp only [Oper.wp, execOp, hop, Sem.run_bind, h2, Result.andThen_ok, Sem.run_pure, Oper.upon_skip];exact H e w' (Env.le_refl e) h1
   ·cases k
  ·cases k
 ·rename_i args tys hop;split at k
  ·rename_i x kx ty t2 ha ht;split at k
   ·rename_i a' b' hx hk';split at k
    ·rename_i s' hp;simp only [sme] at k;subst k;obtain ⟨w', h1, h2⟩ := delM_run (ty2 := t2) (t3 := o.type) hA hr hp (evalO_vr h hx) (evalO_vr h hk');have hrun : (execOp a.eval o).run P w = .ok (.value (.tuple #[])) w' := by
      simp only [execOp, hop, resolve, Sem.run_bind, Sem.run_pure, Result.andThen_ok, invoke, builtin, toList_two' ha, toList_two' ht];simp [h2]
     simp only [Oper.wp, hrun, Oper.upon_value];exact H e _ w' (Env.le_refl e) (by simp only [VR]; exact ⟨#[], rfl, VRs_nil⟩) h1
    ·cases k
   ·cases k
  ·cases k
 ·rename_i args tys hop;split at k
  ·rename_i x ty ha ht;split at k
   ·rename_i a' hx;split at k
    ·rename_i v hp;simp only [sme] at k;subst k;obtain ⟨y, h1, h2⟩ := lenM_run (t3 := o.type) hr hp (evalO_vr h hx);have hrun : (execOp a.eval o).run P w = .ok (.value y) w := by
      simp only [execOp, hop, resolve, Sem.run_bind, Sem.run_pure, Result.andThen_ok, invoke, builtin, toList_one' ha, toList_one' ht];simp [h2]
     simp only [Oper.wp, hrun, Oper.upon_value];exact H e y w (Env.le_refl e) h1 hr
    ·cases k
   ·cases k
  ·cases k
 ·cases k

inductive PA where
 | val (v : AV)
 | var (id off : Nat)
def PR (e : Env) : PA → Place → Prop
 | .val v, q => ∃ x, q = .val x ∧ VR e v x
 | .var id off, q => ∃ b, e.loc id = some b ∧ q = .var ⟨b, off, none⟩

def followA (P : Program) : List FieldStep → TypeId → PA → Option (TypeId × PA)
 | [], t, x => some (t, x)
 | s :: rest, _, x => match P.underlying s.struct with
  | some (.struct fields) => match fields[s.index]? with
   | some f => match P.info? f.type, Nat.beq (P.cellsOf f.type) 0 with
    | some _, false => match s.deref, x with
     | true, .val (.ptr id off) => followA P rest f.type (.var id (off + f.offset))
     | false, .var id off => followA P rest f.type (.var id (off + f.offset))
     | false, .val (.agg cs) => match partA P f.type cs f.offset with
      | some u => followA P rest f.type (.val u)
      | none => none
     | _, _ => none
    | _, _ => none
   | none => none
  | _ => none

theorem run_fieldPlace {P : Program} {f : Field} {i : TypeInfo} (hi : P.info? f.type = some i) (h0 : P.cellsOf f.type ≠ 0) (a : Addr) (w : World) : (fieldPlace a f).run P w = .ok (a.add f.offset) w := by
 simp only [fieldPlace, Sem.run_bind, run_sizeOf w hi, Result.andThen_ok, h0, if_false, Sem.run_pure]

theorem addr_add (b off k : Nat) : (⟨b, off, none⟩ : Addr).add k = ⟨b, off + k, none⟩ := by
 unfold Addr.add;split
 ·rename_i h; rw [h]; rfl
 ·rfl
theorem followA_run {P : Program} {e : Env} : ∀ (l : List FieldStep) (t : TypeId) (x : PA) (r : TypeId × PA), followA P l t x = some r → ∀ {q : Place}, PR e x q → ∃ q', PR e r.2 q' ∧ ∀ w, (follow l t q).run P w = .ok (r.1, q') w
 | [], t, x, r, h, q, hq => by
  simp only [followA, sme] at h;subst h;exact ⟨q, hq, fun w => by simp [follow]⟩
 | s :: rest, t, x, r, h, q, hq => by
  simp only [followA] at h;split at h
  ·rename_i fields hu;split at h
   ·rename_i f hf;split at h
    ·rename_i i hi hn;have hn := beq_f hn;split at h
     ·rename_i id off hd;obtain ⟨v, rfl, hv⟩ := hq;simp only [VR] at hv;obtain ⟨b, hb, rfl⟩ := hv;obtain ⟨q', g1, g2⟩ := followA_run rest _ _ r h (q := .var ⟨b, off + f.offset, none⟩) ⟨b, hb, rfl⟩;refine ⟨q', g1, fun w => ?_⟩;simp only [follow, Sem.run_bind, run_underlying hu, Result.andThen_ok, hf, hd, if_true, Place.get, Sem.run_pure, asAddr, run_fieldPlace hi hn, addr_add];exact g2 w
     ·rename_i id off hd;obtain ⟨b, hb, rfl⟩ := hq;obtain ⟨q', g1, g2⟩ := followA_run rest _ _ r h (q := .var ⟨b, off + f.offset, none⟩) ⟨b, hb, rfl⟩;refine ⟨q', g1, fun w => ?_⟩;simp only [follow, Sem.run_bind, run_underlying hu, Result.andThen_ok, hf, hd, Bool.false_eq_true, if_false, run_fieldPlace hi hn, addr_add];exact g2 w
     ·rename_i cs hd;obtain ⟨v, rfl, hv⟩ := hq;simp only [VR] at hv;obtain ⟨as, rfl, hs⟩ := hv;split at h
      ·rename_i u hu';obtain ⟨p, hp, hpr⟩ := partA_run (P := P) hu' hs;obtain ⟨q', g1, g2⟩ := followA_run rest _ _ r h (q := .val p) ⟨p, rfl, hp⟩;refine ⟨q', g1, fun w => ?_⟩;simp only [follow, Sem.run_bind, run_underlying hu, Result.andThen_ok, hf, hd, Bool.false_eq_true, if_false, hpr w];exact g2 w
      ·cases h
     ·cases h
    ·cases h
   ·cases h
  ·cases h

def recvA (P : Program) (xt : TypeId) (x : PA) (pr : Bool) : Option AV :=
 match P.underlying xt with
 | some (.pointer _) => match pr, x with
  | true, .val v => some v
  | _, _ => none
 | some _ => match pr, x with
  | true, .var id off => some (.ptr id off)
  | false, .val v => some v
  | _, _ => none
 | none => none
theorem recvA_run {P : Program} {e : Env} {xt : TypeId} {x : PA} {pr : Bool} {v : AV} (h : recvA P xt x pr = some v) {q : Place} (hq : PR e x q) (wr : Option String) : ∃ y, VR e v y ∧ ∀ w, (receiverAt xt q pr wr).run P w = .ok y w := by
 unfold recvA at h;split at h
 ·rename_i el hu;split at h
  ·rename_i v';simp only [sme] at h;subst h;obtain ⟨y, rfl, hv⟩ := hq;exact ⟨y, hv, fun w => by simp [receiverAt, run_underlying hu, Place.get]⟩
  ·cases h
 ·rename_i d hnp hu;split at h
  ·rename_i id off;simp only [sme] at h;subst h;obtain ⟨b, hb, rfl⟩ := hq;refine ⟨_, by simp only [VR]; exact ⟨b, hb, rfl⟩, fun w => ?_⟩;simp only [receiverAt, Sem.run_bind, run_underlying hu, Result.andThen_ok];cases d <;> first
    | exact (hnp _ rfl).elim
    | rfl
  ·rename_i v';simp only [sme] at h;subst h;obtain ⟨y, rfl, hv⟩ := hq;refine ⟨y, hv, fun w => ?_⟩;simp only [receiverAt, Sem.run_bind, run_underlying hu, Result.andThen_ok];cases d <;> first
    | exact (hnp _ rfl).elim
    | rfl
  ·cases h
 ·cases h

def methodA (P : Program) (t : TypeId) (v : AV) (name : String) : Option (FuncId × AV) :=
 match P.info? t with
 | some inf => match inf.methods.find? (·.name == name) with
  | some m => match m.func with
   | some (f, pr) => match followA P m.path.toList t (.val v) with
    | some (xt, x) => match recvA P xt x pr with
     | some u => some (f, u)
     | none => none
    | none => none
   | none => none
  | none => none
 | none => none
theorem methodA_run {P : Program} {e : Env} {t : TypeId} {v : AV} {name : String} {f : FuncId} {u : AV} (h : methodA P t v name = some (f, u)) {x : Value} (hx : VR e v x) (n : Nat) : ∃ y, VR e u y ∧ ∀ w, (method (n + 1) t x name).run P w = .ok (f, y) w := by
 unfold methodA at h;split at h
 ·rename_i inf hi;split at h
  ·rename_i m hm;split at h
   ·rename_i f' pr hf;split at h
    ·rename_i xt xp hfo;split at h
     ·rename_i u' hre;simp only [sme, pme] at h;obtain ⟨rfl, rfl⟩ := h;obtain ⟨q', g1, g2⟩ := followA_run _ _ _ _ hfo (q := .val x) ⟨x, rfl, hx⟩;obtain ⟨y, y1, y2⟩ := recvA_run hre g1 (if m.path.isEmpty then some ((name.splitOn ".").getLastD name) else none)
      refine ⟨y, y1, fun w => ?_⟩;simp only [method, Sem.run_bind, run_typeInfo w hi, Result.andThen_ok, hm, g2 w, hf, y2 w, Sem.run_pure]
     ·cases h
    ·cases h
   ·cases h
  ·cases h
 ·cases h

def actI (P : Program) (call : Caller) (t : T AV) (s : St) (o : Oper) : Option Res :=
 match o.op with
 | .call { callee := .invoke ro name, args := args, argTypes := _ } => match evalO t ro, mapO (evalO t) args.toList with
  | some (.iface ty v), some as => match methodA P ty v name with
   | some (f, u) => match bodied P f with
    | true => match call f (u :: as) s with
     | some (.ret v, s') => some (.val v s')
     | some (.pan c, s') => some (.pan c s')
     | none => none
    | false => none
   | none => none
  | _, _ => none
 | _ => none

theorem actI_run {P : Program} (S : Sound P) {Ω : Om} {w0 : Base} {call : Caller} (hc : CallOK P Ω w0 call) {e : Env} {t : T AV} {a : Act} (h : FT e t a) {s : St} {w : World} (hr : Rel Ω w0 e s w) {o : Oper} {r : Res} (k : actI P call t s o = some r)
  (K : Act → World → Prop) (Q : Exit → Act → World → Prop) (H : ResPost Ω w0 e o a K Q w r) : o.wp P a w K Q := by
 unfold actI at k;split at k
 ·rename_i ro name args tys hop;split at k
  ·rename_i ty v as hro has;split at k
   ·rename_i f u hm;split at k
    ·rename_i hbd;unfold bodied at hbd;split at hbd
     ·rename_i fn hfn;obtain ⟨c, hcb⟩ := Option.isSome_iff_exists.1 hbd;have hrv := evalO_vr h hro;simp only [VR] at hrv;obtain ⟨x, hxe, hxv⟩ := hrv;have hargs := evalL_vr h _ _ has;obtain ⟨n, hn⟩ : ∃ n, P.types.size + Made.depth = n + 1 := ⟨P.types.size + Made.depth - 1, by have h0 : 0 < Made.depth := (by decide); omega⟩
      obtain ⟨y, y1, y2⟩ := methodA_run hm hxv n;have hrun : (execOp a.eval o).run P w = .ok (.enter f (y :: args.toList.map a.eval).toArray) w := by
       simp only [execOp, hop, resolve, Sem.run_bind, Sem.run_pure, Result.andThen_ok, invoke, hxe];have h0 : (#[Value.iface ty x] ++ args.map a.eval)[0]? = some (.iface ty x) := by rw [Array.getElem?_append_left (by simp)]; rfl
       rw [h0];simp only [callMethod, Sem.run_bind, run_program, Result.andThen_ok, hn, y2 w, run_callFunc S hfn hcb];congr 2;apply Array.ext'
       simp
       exact List.take_of_length_le (by simp)
      have key := fun en s' (hk : call f (u :: as) s = some (en, s')) => hc f (u :: as) s en s' hk e w _ hr (VRs_cons y1 hargs)
      split at k
      ·rename_i v s' hcall;simp only [sme] at k;subst k;simp only [Oper.wp, hrun, Oper.upon_enter];refine (key _ _ hcall).mono fun E w' ⟨e', f1, f2, f3⟩ => ?_
       cases E with
       | returned x => exact H e' x w' f1 f3 f2
       | panicked l => exact f3.elim
       | outgrown => exact f3.elim
      ·rename_i cc s' hcall;simp only [sme] at k;subst k;simp only [Oper.wp, hrun, Oper.upon_enter];refine (key _ _ hcall).mono fun E w' ⟨e', f1, f2, f3⟩ => ?_
       cases E with
       | returned x => exact f3.elim
       | panicked l => exact H e' l w' f1 f3 f2
       | outgrown => exact f3.elim
      ·cases k
     ·cases hbd
    ·cases k
   ·cases k
  ·cases k
 ·cases k

def St.setIter (s : St) (id : Nat) (x : ByteArray) (p : Nat) : St := match s with
 | ⟨h, n⟩ => ⟨h.put id (some (.siter x p)), n⟩
def actT (P : Program) (t : T AV) (s : St) (o : Oper) : Option Res :=
 match o.op with
 | .range ty x => match P.underlying ty, evalO t x with
  | some .string, some (.str b) => some (.val (.ptr s.nid 0) (s.newO (.siter b 0)))
  | some (.map _ _), some (.mapv m) => match s.heap.get m with
   | some (.map _ c) => some (.val (.ptr s.nid 0) (s.newO (.miter m c)))
   | _ => none
  | _, _ => none
 | .next it true => match evalO t it with
  | some (.ptr id 0) => match s.heap.get id with
   | some (.siter b p) => match Nat.blt p b.size with
    | true => match Utf8.decode b p with
     | (c, wd) => some (.val (.tuple [.bool true, .int .i64 p, .int .i32 c]) (s.setIter id b (p + wd)))
    | false => some (.val (.tuple [.bool false]) s)
   | _ => none
  | _ => none
 | _ => none

theorem actT_run {P : Program} {Ω : Om} {w0 : Base} {e : Env} {t : T AV} {a : Act} (h : FT e t a) {s : St} {w : World} (hr : Rel Ω w0 e s w) {o : Oper} {r : Res} (k : actT P t s o = some r)
  (K : Act → World → Prop) (Q : Exit → Act → World → Prop) (H : ResPost Ω w0 e o a K Q w r) : o.wp P a w K Q := by
 unfold actT at k;split at k
 ·rename_i ty x hop;split at k
  ·rename_i b hu hx;simp only [sme] at k;subst k;have hxv := evalO_vr h hx;simp only [VR] at hxv;obtain ⟨le1, rel1⟩ := allocM hr (.siter b 0) (.stringIter b 0) ⟨Base.mine_new hr.below, by simp [Env.newB], (show (w.alloc (.stringIter b 0)).heap[w.heap.size]? = some (.stringIter b 0) by rw [← World.alloc_eq]; simp)⟩;have hrun : (execOp a.eval o).run P w = .ok (.value (.pointer (some ⟨w.heap.size, 0, none⟩))) (w.alloc (.stringIter b 0)) := by
    simp only [execOp, hop, Instr.range, hxv, Sem.run_bind, run_underlying hu, Result.andThen_ok, Sem.run_pure, run_newObj_alloc]
   simp only [Oper.wp, hrun, Oper.upon_value];exact H _ _ _ le1 (by simp only [VR]; exact ⟨w.heap.size, by simp [Env.newB], rfl⟩) rel1
  ·rename_i kt et m hu hx;split at k
   ·rename_i es c hrow;simp only [sme] at k;subst k;have hxv := evalO_vr h hx;simp only [VR] at hxv;obtain ⟨b, hb, hxv⟩ := hxv;obtain ⟨kk, h1, h2, h3, arr, h4, h5⟩ := hr.obj m _ hrow;obtain rfl : kk = b := by rw [hb] at h1; exact (Option.some.inj h1).symm
    have hmn : m ≠ s.nid := fun x => by rw [x, show e.loc s.nid = none from hr.fresh s.next (Nat.le_refl _)] at hb; cases hb
    obtain ⟨le1, rel1⟩ := allocM hr (.miter m c) (.mapIter (some kk) c #[] c) ⟨Base.mine_new hr.below, by simp [Env.newB], kk, by simp [Env.newB, hmn, hb], (show (w.alloc (.mapIter (some kk) c #[] c)).heap[w.heap.size]? = some (.mapIter (some kk) c #[] c) by rw [← World.alloc_eq]; simp)⟩;have hget : (getObj kk).run P w = .ok (.map arr c) w := by simp [getObj, Sem.run, h4]
    have hrun : (execOp a.eval o).run P w = .ok (.value (.pointer (some ⟨w.heap.size, 0, none⟩))) (w.alloc (.mapIter (some kk) c #[] c)) := by
     simp only [execOp, hop, Instr.range, hxv, Sem.run_bind, run_underlying hu, hget, Result.andThen_ok, Sem.run_pure, run_newObj_alloc]
    simp only [Oper.wp, hrun, Oper.upon_value];exact H _ _ _ le1 (by simp only [VR]; exact ⟨w.heap.size, by simp [Env.newB], rfl⟩) rel1
   ·cases k
  ·cases k
 ·rename_i it hop;split at k
  ·rename_i id hit;have hiv := evalO_vr h hit;simp only [VR] at hiv;obtain ⟨bk, hb, hiv⟩ := hiv;split at k
   ·rename_i b p hrow;obtain ⟨kk, h1, h2, h3, h4⟩ := hr.obj id _ hrow;obtain rfl : kk = bk := by rw [hb] at h1; exact (Option.some.inj h1).symm
    have hget : (getObj kk).run P w = .ok (.stringIter b p) w := by simp [getObj, Sem.run, h4]
    split at k
    ·rename_i hlt;have hlt : p < b.size := by simpa [Nat.blt_eq] using hlt
     split at k;rename_i c wd hdec;simp only [sme] at k;subst k;have hsz : kk < w.heap.size := (Array.getElem?_eq_some_iff.1 h4).1;have hset : (setObj kk (.stringIter b (p + wd))).run P w = .ok () { w with heap := w.heap.setIfInBounds kk (.stringIter b (p + wd)) } := by simp [setObj, Sem.run, h4]
     have hrun : (execOp a.eval o).run P w = .ok (.value (.tuple #[.bool true, goInt p, .int .i32 c])) { w with heap := w.heap.setIfInBounds kk (.stringIter b (p + wd)) } := by
      simp only [execOp, hop, Instr.next, hiv, Sem.run_bind, hget, Result.andThen_ok, hlt, if_true, hdec, hset, Sem.run_pure]
     simp only [Oper.wp, hrun, Oper.upon_value];refine H e _ _ (Env.le_refl e) ?_ ?_
     ·simp only [VR];exact ⟨_, rfl, VRs_cons (by simp only [VR]) (VRs_cons (goInt_vr p) (VRs_cons (by simp only [VR]) VRs_nil))⟩
     ·have := hr.setO (o' := .siter b (p + wd)) (w' := { w with heap := w.heap.setIfInBounds kk (.stringIter b (p + wd)) }) hrow hb h2 (hr.apart _ _ _ hrow rfl hb) ⟨h2, h3, by simp [hsz]⟩ (fun j hj => by simp [Ne.symm hj]) rfl rfl rfl (by simp);cases s;exact this
    ·rename_i hlt;have hlt : ¬ p < b.size := by intro hc; rw [show Nat.blt p b.size = true by simpa [Nat.blt_eq] using hc] at hlt; cases hlt
     simp only [sme] at k;subst k;have hrun : (execOp a.eval o).run P w = .ok (.value (.tuple #[.bool false])) w := by
      simp only [execOp, hop, Instr.next, hiv, Sem.run_bind, hget, Result.andThen_ok, hlt, if_false, Sem.run_pure]
     simp only [Oper.wp, hrun, Oper.upon_value];exact H e _ w (Env.le_refl e) (by simp only [VR]; exact ⟨_, rfl, VRs_cons (by simp only [VR]) VRs_nil⟩) hr
   ·cases k
  ·cases k
 ·cases k

theorem AB.at_lt' {b : AB} {i : Nat} {v : AV} (h : b.at i = some v) : i < b.size := by
 unfold AB.at at h;split at h
 ·rename_i hb; simpa [Nat.blt_eq] using hb
 ·cases h
theorem row_add : Extern.allRows.lookup "sync/atomic.AddInt64" = some (Extern.Atomic.update (Op.intArith .add) .i64 true) := by kernel_rfl
theorem row_load : Extern.allRows.lookup "sync/atomic.LoadInt64" = some (Extern.Atomic.loadT (.int .i64)) := by kernel_rfl
theorem row_store : Extern.allRows.lookup "sync/atomic.StoreInt64" = some Extern.Atomic.storeT := by kernel_rfl

theorem loadT_eq (T : Extern.Atomic.T) (p : Value) : Extern.Atomic.loadT T [p].toArray = (do let a ← asAddr p; Extern.Atomic.read T a) := rfl
theorem update_eq (op : IntKind → Int → Int → Sem Value) (k : IntKind) (r : Bool) (p y : Value) : Extern.Atomic.update op k r [p, y].toArray = (do let a ← asAddr p; let old ← Extern.Atomic.read (.int k) a; let m ← asInt old; let n ← asInt y; let new ← op k m n; store a new .atomic; pure (if r then new else old)) := rfl
theorem storeT_eq (p y : Value) : Extern.Atomic.storeT [p, y].toArray = (do let a ← asAddr p; store a y .atomic; pure Extern.Atomic.none_) := rfl

def externA (P : Program) (s : St) (f : FuncId) (as : List AV) : Option (AV × St) :=
 match P.funcs[f]? with
 | some fn => match plainRow fn with
  | true => match as with
   | [.ptr id off] => match s.row id, fn.name == "sync/atomic.LoadInt64" with
    | some b, true => match b.at off with
     | some (.int .i64 x) => some (.int .i64 x, s)
     | some (.sint .i64 x) => some (.sint .i64 x, s)
     | _ => none
    | _, _ => none
   | [.ptr id off, .int .i64 y] => match s.row id with
    | some b => match b.at off with
     | some (.int .i64 x) => match fn.name == "sync/atomic.AddInt64" with
      | true => some (.int .i64 (IntKind.i64.wrap (x + y)), s.setRow id (b.set off (.int .i64 (IntKind.i64.wrap (x + y)))))
      | false => match fn.name == "sync/atomic.StoreInt64" with
       | true => some (.tuple [], s.setRow id (b.set off (.int .i64 y)))
       | false => none
     | some (.sint .i64 x) => match fn.name == "sync/atomic.AddInt64" with
      | true => some (.sint .i64 (.bi (.iop .add .i64) x (.int y)), s.setRow id (b.set off (.sint .i64 (.bi (.iop .add .i64) x (.int y)))))
      | false => none
     | _ => none
    | none => none
   | _ => none
  | false => none
 | none => none

theorem externA_run {P : Program} {Ω : Om} {w0 : Base} {e : Env} {s s' : St} {w : World} (h : Rel Ω w0 e s w) {f : FuncId} {as : List AV} {v : AV} (k : externA P s f as = some (v, s')) {xs : List Value} (hx : VRs e as xs) :
  ∃ y w', VR e v y ∧ Rel Ω w0 e s' w' ∧ (callFunc f xs.toArray).run P w = .ok (.value y) w' := by
 unfold externA at k;split at k
 ·rename_i fn hfn;split at k
  ·rename_i hpl;have atom : ∀ (a : Addr) (x v : Value), w.cell? a = some v → (store a x .atomic).run P w = (store a x).run P w := fun a x v hc => by cases x <;> simp [store, Sem.run, hc]
   split at k
   ·rename_i id off;split at k
    ·rename_i b hb hn;have hn : fn.name = "sync/atomic.LoadInt64" := by simpa using hn
     split at k
     ·rename_i x hc;simp only [sme, pme] at k;obtain ⟨rfl, rfl⟩ := k;simp only [VRs, VR] at hx;obtain ⟨p, r, rfl, ⟨bk, hbk, rfl⟩, rfl⟩ := hx;obtain ⟨k', arr, fz, hl, hk0, hr, hR⟩ := h.row id b (St.row_some hb);obtain rfl : k' = bk := by rw [hbk] at hl; exact (Option.some.inj hl).symm
      obtain ⟨y, hy, hvy⟩ := hR.cell off _ hc;simp only [VR] at hvy;subst hvy;have hcell : w.cell? ⟨k', off, none⟩ = some (.int .i64 x) := by rw [cell_row hr]; exact hy
      refine ⟨.int .i64 x, w, by simp only [VR], h, ?_⟩;rw [run_extern hfn hpl hn (by decide) row_load];rw [loadT_eq];simp [Extern.Atomic.read, asAddr, load, Sem.run, hcell]
     ·rename_i x hc;simp only [sme, pme] at k;obtain ⟨rfl, rfl⟩ := k;simp only [VRs, VR] at hx;obtain ⟨p, r, rfl, ⟨bk, hbk, rfl⟩, rfl⟩ := hx;obtain ⟨k', arr, fz, hl, hk0, hr, hR⟩ := h.row id b (St.row_some hb);obtain rfl : k' = bk := by rw [hbk] at hl; exact (Option.some.inj hl).symm
      obtain ⟨y, hy, hvy⟩ := hR.cell off _ hc;have hvy' := hvy;simp only [VR] at hvy;obtain ⟨rfl, hin⟩ := hvy;have hcell : w.cell? ⟨k', off, none⟩ = some (.int .i64 (x.i e.opq)) := by rw [cell_row hr]; exact hy
      refine ⟨.int .i64 (x.i e.opq), w, hvy', h, ?_⟩;rw [run_extern hfn hpl hn (by decide) row_load];rw [loadT_eq];simp [Extern.Atomic.read, asAddr, load, Sem.run, hcell]
     ·cases k
    ·cases k
   ·rename_i id off y;split at k
    ·rename_i b hb;split at k
     ·rename_i x hc;obtain ⟨k', arr, fz, hl, hk0, hr, hR⟩ := h.row id b (St.row_some hb);obtain ⟨yv, hy, hvy⟩ := hR.cell off _ hc;simp only [VR] at hvy;subst hvy;have hcell : w.cell? ⟨k', off, none⟩ = some (.int .i64 x) := by rw [cell_row hr]; exact hy
      have hlt : off < b.size := AB.at_lt' hc;simp only [VRs, VR] at hx;obtain ⟨p, r, rfl, ⟨bk, hbk, rfl⟩, q, r2, rfl, rfl, rfl⟩ := hx;obtain rfl : k' = bk := by rw [hbk] at hl; exact (Option.some.inj hl).symm
      split at k
      ·rename_i hn;have hn : fn.name = "sync/atomic.AddInt64" := by simpa using hn
       simp only [sme, pme] at k;obtain ⟨rfl, rfl⟩ := k;obtain ⟨g1, g2⟩ := h.store (P := P) (v := .int .i64 (IntKind.i64.wrap (x + y))) (x := .int .i64 (IntKind.i64.wrap (x + y))) (St.row_some hb) hbk hlt (by simp only [VR]) rfl;refine ⟨.int .i64 (IntKind.i64.wrap (x + y)), _, by simp only [VR], g2, ?_⟩;rw [run_extern hfn hpl hn (by decide) row_add];have hread : (Extern.Atomic.read (.int .i64) ⟨k', off, none⟩).run P w = .ok (.int .i64 x) w := by simp [Extern.Atomic.read, load, Sem.run, hcell]
       have hadd : ∀ w, (Op.intArith .add .i64 x y).run P w = .ok (.int .i64 (IntKind.i64.wrap (x + y))) w := fun w => by simp [Op.intArith]
       rw [update_eq];simp only [Sem.run_bind, asAddr, Sem.run_pure, Result.andThen_ok, hread, asInt, asIntOf, hadd, atom _ _ _ hcell, g1, if_true]
      ·split at k
       ·rename_i hn;have hn : fn.name = "sync/atomic.StoreInt64" := by simpa using hn
        simp only [sme, pme] at k;obtain ⟨rfl, rfl⟩ := k;obtain ⟨g1, g2⟩ := h.store (P := P) (v := .int .i64 y) (x := .int .i64 y) (St.row_some hb) hbk hlt (by simp only [VR]) rfl;refine ⟨.tuple #[], _, by simp only [VR]; exact ⟨#[], rfl, VRs_nil⟩, g2, ?_⟩;rw [run_extern hfn hpl hn (by decide) row_store];rw [storeT_eq];simp only [Sem.run_bind, asAddr, Sem.run_pure, Result.andThen_ok, atom _ _ _ hcell, g1, Extern.Atomic.none_]
       ·cases k
     ·rename_i x hc;obtain ⟨k', arr, fz, hl, hk0, hr, hR⟩ := h.row id b (St.row_some hb);obtain ⟨yv, hy, hvy⟩ := hR.cell off _ hc;simp only [VR] at hvy;obtain ⟨rfl, hin⟩ := hvy;have hcell : w.cell? ⟨k', off, none⟩ = some (.int .i64 (x.i e.opq)) := by rw [cell_row hr]; exact hy
      have hlt : off < b.size := AB.at_lt' hc;simp only [VRs, VR] at hx;obtain ⟨p, r, rfl, ⟨bk, hbk, rfl⟩, q, r2, rfl, rfl, rfl⟩ := hx;obtain rfl : k' = bk := by rw [hbk] at hl; exact (Option.some.inj hl).symm
      split at k
      ·rename_i hn;have hn : fn.name = "sync/atomic.AddInt64" := by simpa using hn
       simp only [sme, pme] at k;obtain ⟨rfl, rfl⟩ := k;have hv : VR e (.sint .i64 (.bi (.iop .add .i64) x (.int y))) (.int .i64 (IntKind.i64.wrap (x.i e.opq + y))) := by
        simp only [VR]; exact ⟨rfl, wrap_in _ _⟩
       obtain ⟨g1, g2⟩ := h.store (P := P) (v := .sint .i64 (.bi (.iop .add .i64) x (.int y))) (x := .int .i64 (IntKind.i64.wrap (x.i e.opq + y))) (St.row_some hb) hbk hlt hv rfl;refine ⟨_, _, hv, g2, ?_⟩;rw [run_extern hfn hpl hn (by decide) row_add];have hread : (Extern.Atomic.read (.int .i64) ⟨k', off, none⟩).run P w = .ok (.int .i64 (x.i e.opq)) w := by simp [Extern.Atomic.read, load, Sem.run, hcell]
       have hadd : ∀ w, (Op.intArith .add .i64 (x.i e.opq) y).run P w = .ok (.int .i64 (IntKind.i64.wrap (x.i e.opq + y))) w := fun w => by simp [Op.intArith]
       rw [update_eq];simp only [Sem.run_bind, asAddr, Sem.run_pure, Result.andThen_ok, hread, asInt, asIntOf, hadd, atom _ _ _ hcell, g1, if_true]
      ·cases k
     ·cases k
    ·cases k
   ·cases k
  ·cases k
 ·cases k

def actE (P : Program) (t : T AV) (s : St) (o : Oper) : Option Res :=
 match o.op with
 | .call { callee := .value fo, args := args, argTypes := _ } => match evalO t fo, mapO (evalO t) args.toList with
  | some (.func f []), some as => match externA P s f as with
   | some (v, s') => some (.val v s')
   | none => none
  | _, _ => none
 | _ => none
theorem actE_run {P : Program} {Ω : Om} {w0 : Base} {e : Env} {t : T AV} {a : Act} (h : FT e t a) {s : St} {w : World} (hr : Rel Ω w0 e s w) {o : Oper} {r : Res} (k : actE P t s o = some r)
  (K : Act → World → Prop) (Q : Exit → Act → World → Prop) (H : ResPost Ω w0 e o a K Q w r) : o.wp P a w K Q := by
 unfold actE at k;split at k
 ·rename_i fo args tys hop;split at k
  ·rename_i f as hf has;split at k
   ·rename_i v s' hex;simp only [sme] at k;subst k;have hfv := evalO_vr h hf;simp only [VR] at hfv;obtain ⟨xs, hfv, hxs⟩ := hfv;simp only [VRs] at hxs;have hxs : xs = #[] := by cases xs; simp_all
    subst hxs;have hargs := evalL_vr h _ _ has;obtain ⟨y, w', h1, h2, h3⟩ := externA_run hr hex hargs;have hrun : (execOp a.eval o).run P w = .ok (.value y) w' := by
     simp only [execOp, hop, resolve, hfv, Deferred.ofValue, Sem.run_bind, Sem.run_pure, Result.andThen_ok, invoke];rw [show (#[] ++ args.map a.eval ++ #[] : Array Value) = (args.toList.map a.eval).toArray by apply Array.ext'; simp];exact h3
    simp only [Oper.wp, hrun, Oper.upon_value];exact H e y w' (Env.le_refl e) h1 h2
   ·cases k
  ·cases k
 ·cases k

def actG (P : Program) (call : Caller) (t : T AV) (s : St) (o : Oper) : Option Res :=
 match o.op with
 | .call { callee := .value fo, args := args, argTypes := _ } => match evalO t fo, mapO (evalO t) args.toList with
  | some (.bound f fs), some as => match bodied P f with
   | true => match call f (fs ++ as) s with
    | some (.ret v, s') => some (.val v s')
    | some (.pan c, s') => some (.pan c s')
    | none => none
   | false => none
  | _, _ => none
 | .nilCheck x => match evalO t x with
  | some (.bound f fs) => some (.val (.bound f fs) s)
  | _ => none
 | _ => none

theorem actG_run {P : Program} (S : Sound P) {Ω : Om} {w0 : Base} {call : Caller} (hc : CallOK P Ω w0 call) {e : Env} {t : T AV} {a : Act} (h : FT e t a) {s : St} {w : World} (hr : Rel Ω w0 e s w) {o : Oper} {r : Res} (k : actG P call t s o = some r)
  (K : Act → World → Prop) (Q : Exit → Act → World → Prop) (H : ResPost Ω w0 e o a K Q w r) : o.wp P a w K Q := by
 unfold actG at k;split at k
 ·rename_i fo args tys hop;split at k
  ·rename_i f fs as hf has;split at k
   ·rename_i hbd;unfold bodied at hbd;split at hbd
    ·rename_i fn hfn;obtain ⟨c, hcb⟩ := Option.isSome_iff_exists.1 hbd;have hfv := evalO_vr h hf;simp only [VR] at hfv;obtain ⟨xs, hfv, hxs⟩ := hfv;have hargs := evalL_vr h _ _ has;have hrun : (execOp a.eval o).run P w = .ok (.enter f (xs.toList ++ args.toList.map a.eval).toArray) w := by
      simp only [execOp, hop, resolve, hfv, Deferred.ofValue, Sem.run_bind, Sem.run_pure, Result.andThen_ok, invoke, run_callFunc S hfn hcb];congr 2;apply Array.ext'
      simp
     have key := fun en s' (hk : call f (fs ++ as) s = some (en, s')) => hc f (fs ++ as) s en s' hk e w _ hr (hxs.append hargs)
     split at k
     ·rename_i v s' hcall;simp only [sme] at k;subst k;simp only [Oper.wp, hrun, Oper.upon_enter];refine (key _ _ hcall).mono fun E w' ⟨e', f1, f2, f3⟩ => ?_
      cases E with
      | returned x => exact H e' x w' f1 f3 f2
      | panicked l => exact f3.elim
      | outgrown => exact f3.elim
     ·rename_i cc s' hcall;simp only [sme] at k;subst k;simp only [Oper.wp, hrun, Oper.upon_enter];refine (key _ _ hcall).mono fun E w' ⟨e', f1, f2, f3⟩ => ?_
      cases E with
      | returned x => exact f3.elim
      | panicked l => exact H e' l w' f1 f3 f2
      | outgrown => exact f3.elim
     ·cases k
    ·cases hbd
   ·cases k
  ·cases k
 ·rename_i x hop;split at k
  ·rename_i f fs hx;simp only [sme] at k;subst k;have hv := evalO_vr h hx;have := hv;simp only [VR] at this;obtain ⟨xs, hxe, _⟩ := this;have hrun : (execOp a.eval o).run P w = .ok (.value (a.eval x)) w := by simp [execOp, hop, hxe]
   simp only [Oper.wp, hrun, Oper.upon_value];exact H e _ w (Env.le_refl e) hv hr
  ·cases k
 ·cases k

def plainTy (P : Program) (t : TypeId) : Bool := match P.underlying t with
 | some (.interface _) => false
 | some _ => true
 | none => false
def exprA (P : Program) (f : Fn) (x : AV) : Option (FuncId × AV) := match f with
 | .via ty path g pr => match followA P path.toList ty (.val x) with
  | some (xt, q) => (recvA P xt q pr).map fun u => (g, u)
  | none => none
 | .methodOf ty name => match plainTy P ty with
  | true => methodA P ty x name
  | false => none
 | _ => none
theorem exprA_run {P : Program} (S : Sound P) {e : Env} {f : Fn} {x : AV} {g : FuncId} {u : AV} (h : exprA P f x = some (g, u)) {fn : Func} (hfn : P.funcs[g]? = some fn) {c : Code} (hcb : fn.body = some c) {y : Value} (hy : VR e x y) (l : List Value) (cap : Array Value) :
  ∃ z, VR e u z ∧ ∀ w, (invoke (.fn f cap) (y :: l).toArray).run P w = .ok (.enter g (z :: l).toArray) w := by
 have ea : ∀ z : Value, #[z] ++ (y :: l).toArray.extract 1 (y :: l).toArray.size = (z :: l).toArray := fun z => by
  apply Array.ext'
  simp
 have e0 : (y :: l).toArray[0]? = some y := by simp
 unfold exprA at h;split at h
 ·rename_i ty path g' pr;split at h
  ·rename_i xt q hfo;simp only [Option.map_eq_some_iff] at h;obtain ⟨u', hre, h⟩ := h;simp only [pme] at h;obtain ⟨rfl, rfl⟩ := h;obtain ⟨q', g1, g2⟩ := followA_run _ _ _ _ hfo (q := .val y) ⟨y, rfl, hy⟩;obtain ⟨z, z1, z2⟩ := recvA_run hre g1 none;refine ⟨z, z1, fun w => ?_⟩;simp only [invoke, e0, receiverVia, Sem.run_bind, g2 w, z2 w, Result.andThen_ok, ea, run_callFunc S hfn hcb]
  ·cases h
 ·rename_i ty name;split at h
  ·rename_i hpl;unfold plainTy at hpl;split at hpl
   ·cases hpl
   ·rename_i d hni hu;obtain ⟨n, hn⟩ : ∃ n, P.types.size + Made.depth = n + 1 := ⟨P.types.size + Made.depth - 1, by have h0 : 0 < Made.depth := (by decide); omega⟩
    obtain ⟨z, z1, z2⟩ := methodA_run h hy n;refine ⟨z, z1, fun w => ?_⟩;simp only [invoke, e0, Sem.run_bind, run_underlying hu, Result.andThen_ok];simp only [callMethod, Sem.run_bind, run_program, Result.andThen_ok, hn, z2 w, ea, run_callFunc S hfn hcb]
   ·cases hpl
  ·cases h
 ·cases h
def actK (P : Program) (call : Caller) (t : T AV) (s : St) (o : Oper) : Option Res :=
 match o.op with
 | .call { callee := .value fo, args := args, argTypes := _ } => match evalO t fo, mapO (evalO t) args.toList with
  | some (.vfn f), some (x :: as) => match exprA P f x with
   | some (g, u) => match bodied P g with
    | true => match call g (u :: as) s with
     | some (.ret v, s') => some (.val v s')
     | some (.pan c, s') => some (.pan c s')
     | none => none
    | false => none
   | none => none
  | _, _ => none
 | _ => none

theorem actK_run {P : Program} (S : Sound P) {Ω : Om} {w0 : Base} {call : Caller} (hc : CallOK P Ω w0 call) {e : Env} {t : T AV} {a : Act} (h : FT e t a) {s : St} {w : World} (hr : Rel Ω w0 e s w) {o : Oper} {r : Res} (k : actK P call t s o = some r)
  (K : Act → World → Prop) (Q : Exit → Act → World → Prop) (H : ResPost Ω w0 e o a K Q w r) : o.wp P a w K Q := by
 unfold actK at k;split at k
 ·rename_i fo args tys hop;split at k
  ·rename_i f x as hf has;split at k
   ·rename_i g u hx;split at k
    ·rename_i hbd;unfold bodied at hbd;split at hbd
     ·rename_i fn hfn;obtain ⟨c, hcb⟩ := Option.isSome_iff_exists.1 hbd;have hfv := evalO_vr h hf;simp only [VR] at hfv;have hargs := evalL_vr h _ _ has;simp only [VRs] at hargs;obtain ⟨y, l, hl, hy, hls⟩ := hargs;obtain ⟨z, z1, z2⟩ := exprA_run S hx hfn hcb hy l #[];have hrun : (execOp a.eval o).run P w = .ok (.enter g (z :: l).toArray) w := by
       have h0 : #[] ++ (args.map a.eval) = (y :: l).toArray := by
        apply Array.ext';simp only [Array.toList_append, List.nil_append, Array.toList_map];exact hl
       simp only [execOp, hop, resolve, hfv, Deferred.ofValue, Sem.run_bind, Sem.run_pure, Result.andThen_ok, h0, z2 w]
      have key := fun en s' (hk : call g (u :: as) s = some (en, s')) => hc g (u :: as) s en s' hk e w _ hr (VRs_cons z1 hls)
      split at k
      ·rename_i v s' hcall;simp only [sme] at k;subst k;simp only [Oper.wp, hrun, Oper.upon_enter];refine (key _ _ hcall).mono fun E w' ⟨e', f1, f2, f3⟩ => ?_
       cases E with
       | returned x => exact H e' x w' f1 f3 f2
       | panicked l => exact f3.elim
       | outgrown => exact f3.elim
      ·rename_i cc s' hcall;simp only [sme] at k;subst k;simp only [Oper.wp, hrun, Oper.upon_enter];refine (key _ _ hcall).mono fun E w' ⟨e', f1, f2, f3⟩ => ?_
       cases E with
       | returned x => exact f3.elim
       | panicked l => exact H e' l w' f1 f3 f2
       | outgrown => exact f3.elim
      ·cases k
     ·cases hbd
    ·cases k
   ·cases k
  ·cases k
 ·cases k

def actB (P : Program) (A : Ask) (call : Caller) (t : T AV) (s : St) (o : Oper) : Option Res :=
 match actB1 P A call t s o with
 | some r => some r
 | none => match actM P A t s o with
  | some r => some r
  | none => match actI P call t s o with
   | some r => some r
   | none => match actT P t s o with
    | some r => some r
    | none => match actE P t s o with
     | some r => some r
     | none => match actG P call t s o with
      | some r => some r
      | none => actK P call t s o

theorem actB_run {P : Program} (S : Sound P) {Ω : Om} {w0 : Base} {call : Caller} (hc : CallOK P Ω w0 call) {A : Ask} (hA : AskOK Ω A) {e : Env} {t : T AV} {a : Act} (h : FT e t a) {s : St} {w : World} (hr : Rel Ω w0 e s w) {o : Oper} {r : Res} (k : actB P A call t s o = some r)
  (K : Act → World → Prop) (Q : Exit → Act → World → Prop) (H : ResPost Ω w0 e o a K Q w r) : o.wp P a w K Q := by
 unfold actB at k;split at k
 ·rename_i r' hr';simp only [sme] at k;subst k;exact actB1_run S hc hA h hr hr' K Q H
 ·split at k
  ·rename_i r' hr';simp only [sme] at k;subst k;exact actM_run hA h hr hr' K Q H
  ·split at k
   ·rename_i r' hr';simp only [sme] at k;subst k;exact actI_run S hc h hr hr' K Q H
   ·split at k
    ·rename_i r' hr';simp only [sme] at k;subst k;exact actT_run h hr hr' K Q H
    ·split at k
     ·rename_i r' hr';simp only [sme] at k;subst k;exact actE_run h hr hr' K Q H
     ·split at k
      ·rename_i r' hr';simp only [sme] at k;subst k;exact actG_run S hc h hr hr' K Q H
      ·exact actK_run S hc h hr k K Q H

end Go.Ev
