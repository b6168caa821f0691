/- An evaluator of the model's code over abstract states, and its soundness: part 10: calls, deferred calls, recover; what a call comes to. No condition. -/
import Derived.Test.YtidpndnehbhloaaDoorSyi
namespace Go.Ev
open Go.RowKit

inductive Md where
 | ret
 | pan (c : List (AV × Bool))

def MdR (e : Env) : Md → FrameMode → Prop
 | .ret, u => u = .returning
 | .pan c, u => ∃ l, u = .panicking l ∧ ChR e c l

theorem MdR.mono {e e' : Env} (h : e.le e') {m : Md} {u : FrameMode} (k : MdR e m u) : MdR e' m u := by
 cases m with
 | ret => exact k
 | pan c => obtain ⟨l, rfl, hl⟩ := k; exact ⟨l, rfl, hl.mono h⟩

theorem MdR.ne {e : Env} {m : Md} {u : FrameMode} (k : MdR e m u) : u ≠ .run := by
 cases m with
 | ret => simp only [MdR] at k; subst k; simp
 | pan c => obtain ⟨l, rfl, _⟩ := k; simp

def settleA : Md → Md
 | .pan ((_, true) :: _) => .ret
 | m => m

def raisedA : Md → List (AV × Bool) → Md
 | .pan old, c => .pan (c ++ old)
 | .ret, c => .pan c

theorem ChR.noexit {e : Env} : ∀ {c : List (AV × Bool)} {l : List PanicEntry}, ChR e c l → l.dropWhile (!·.goexit) = []
 | [], _, h => by simp only [ChR] at h; subst h; rfl
 | (v, r) :: c, _, h => by
  simp only [ChR] at h;obtain ⟨x, t, rfl, _, h2⟩ := h;simp [List.dropWhile, h2.noexit]

theorem settleA_ok {e : Env} {m : Md} {u : FrameMode} (h : MdR e m u) : MdR e (settleA m) (settle u) := by
 cases m with
 | ret => simp only [MdR] at h; subst h; simp [settleA, settle, MdR]
 | pan c =>
  obtain ⟨l, rfl, hl⟩ := h;cases c with
  | nil => simp only [ChR] at hl; subst hl; exact ⟨[], rfl, rfl⟩
  | cons p c =>
   obtain ⟨v, r⟩ := p;have hl' := hl;simp only [ChR] at hl;obtain ⟨x, t, rfl, h1, h2⟩ := hl;cases r with
   | false => exact ⟨_, rfl, hl'⟩
   | true => simp [settleA, settle, MdR, h2.noexit]

theorem ChR.append {e : Env} : ∀ {c d : List (AV × Bool)} {l k : List PanicEntry}, ChR e c l → ChR e d k → ChR e (c ++ d) (l ++ k)
 | [], _, _, _, h, H => by simp only [ChR] at h; subst h; simpa using H
 | (v, r) :: c, _, _, _, h, H => by
  simp only [ChR] at h;obtain ⟨x, t, rfl, h1, h2⟩ := h;exact ⟨x, _, rfl, h1, h2.append H⟩

theorem raisedA_ok {e : Env} {m : Md} {u : FrameMode} (h : MdR e m u) {c : List (AV × Bool)} {l : List PanicEntry} (hc : ChR e c l) : MdR e (raisedA m c) (raised u l) := by
 cases m with
 | ret => simp only [MdR] at h; subst h; exact ⟨l, rfl, hc⟩
 | pan old => obtain ⟨k, rfl, hk⟩ := h; exact ⟨l ++ k, rfl, hc.append hk⟩

abbrev DCaller := FuncId → List AV → Md → St → Option (En × Md × St)

def DCallOK (P : Program) (Ω : Om) (w0 : Base) (call : DCaller) : Prop :=
 ∀ f args m s en m' s', call f args m s = some (en, m', s') → ∀ e w as u, Rel Ω w0 e s w → VRs e args as → MdR e m u →
  CallsD P f as.toArray u w fun E u' w' => ∃ e', e.le e' ∧ Rel Ω w0 e' s' w' ∧ EnR e' en E ∧ MdR e' m' u'

def resA (P : Program) (m : Mem) (t : T AV) : ResultVar → Option AV
 | .tmp i => t.get i
 | .cell i ty => match t.get i with
  | some (.ptr id off) => loadA P m ty id off
  | _ => none

def resultsA (P : Program) (m : Mem) (fn : Func) (t : T AV) : Option AV :=
 match mapO (resA P m t) fn.results.toList with
 | some [v] => some v
 | some vs => some (.tuple vs)
 | none => none

def resRun (tmps : Array Value) : ResultVar → Sem Value
 | .tmp t => pure (tmps.getD t undef)
 | .cell a t => do loadVar t (← asAddr (tmps.getD a undef))

theorem resA_run {P : Program} {e : Env} {m : Mem} {M : World → Prop} (R : Reads P e m M) {t : T AV} {a : Act} (h : FT e t a) {r : ResultVar} {v : AV} (k : resA P m t r = some v) : ∃ x, VR e v x ∧ ∀ w, M w → (resRun a.tmps r).run P w = .ok x w := by
 cases r with
 | tmp i =>
  obtain ⟨x, hx, hv⟩ := h i v k;exact ⟨x, hv, fun w _ => by simp [resRun, Array.getD_eq_getD_getElem?, hx]⟩
 | cell i ty =>
  simp only [resA] at k;split at k
  ·rename_i id off hi;obtain ⟨x, hx, hv⟩ := h i _ hi;simp only [VR] at hv;obtain ⟨b, hb, rfl⟩ := hv;obtain ⟨y, hy, hr⟩ := loadA_run R k hb;exact ⟨y, hy, fun w hw => by simp [resRun, Array.getD_eq_getD_getElem?, hx, asAddr, hr w hw]⟩
  ·cases k

theorem mapM_res {P : Program} {e : Env} {m : Mem} {M : World → Prop} (R : Reads P e m M) {t : T AV} {a : Act} (h : FT e t a) : ∀ (l : List ResultVar) (vs : List AV), mapO (resA P m t) l = some vs →
  ∃ xs, VRs e vs xs ∧ ∀ w, M w → (l.mapM (resRun a.tmps)).run P w = .ok xs w
 | [], vs, k => by simp only [mapO, sme] at k; subst k; exact ⟨[], VRs_nil, fun w _ => by simp⟩
 | r :: l, vs, k => by
  simp only [mapO] at k;split at k
  ·rename_i v s hv hs;simp only [sme] at k;subst k;obtain ⟨x, hx, hr⟩ := resA_run R h hv;obtain ⟨xs, hxs, hrs⟩ := mapM_res R h l s hs;exact ⟨x :: xs, VRs_cons hx hxs, fun w hw => by simp [List.mapM_cons, hr w hw, hrs w hw]⟩
  ·cases k

theorem resultsA_run {P : Program} {e : Env} {m : Mem} {M : World → Prop} (R : Reads P e m M) {t : T AV} {a : Act} (h : FT e t a) {fn : Func} {v : AV} (k : resultsA P m fn t = some v) : ∃ x, VR e v x ∧ ∀ w, M w → (results fn a.tmps).run P w = .ok x w := by
 have hrun : ∀ (vs : List AV) (xs : List Value) w, (fn.results.toList.mapM (resRun a.tmps)).run P w = .ok xs w → (results fn a.tmps).run P w = .ok (if h : xs.toArray.size = 1 then xs.toArray[0] else .tuple xs.toArray) w := by
  intro vs xs w hx;have e1 : results fn a.tmps = (do
   let vs ← fn.results.mapM (resRun a.tmps)
   pure (if h : vs.size = 1 then vs[0] else .tuple vs)) := by
   unfold results;congr 1
  rw [e1, Array.mapM_eq_mapM_toList];simp only [Sem.run_bind, Sem.run_map, hx, Result.andThen_ok, Sem.run_pure]
 unfold resultsA at k;split at k
 ·rename_i v1 hv;simp only [sme] at k;subst k;obtain ⟨xs, hxs, hr⟩ := mapM_res R h _ _ hv;simp only [VRs] at hxs;obtain ⟨x, r, rfl, hx, rfl⟩ := hxs;exact ⟨x, hx, fun w hw => by rw [hrun [v1] _ w (hr w hw)]; simp⟩
 ·rename_i vs hn hv;simp only [sme] at k;subst k;obtain ⟨xs, hxs, hr⟩ := mapM_res R h _ _ hv;refine ⟨.tuple xs.toArray, by simp only [VR]; exact ⟨_, rfl, by simpa using hxs⟩, fun w hw => ?_⟩;rw [hrun vs _ w (hr w hw)];have : ¬ xs.toArray.size = 1 := by
   intro h1;have hl := hxs.length;simp only [List.size_toArray] at h1;rw [h1] at hl;match vs, hl, hn with
   | [v], _, hn => exact hn v rfl
  simp only [this, dite_false]
 ·cases k

theorem Rel.offBlock {Ω : Om} {w0 : Base} {e : Env} {s : St} {w : World} (h : Rel Ω w0 e s w) {id b : Nat} {o : AObj} (hrow : s.heap.get id = some o) (hl : e.loc id = some b) (hm : w0.mine b) (hnp : e.h b = none) (ob : Obj) : Rel Ω w0 e (s.del id) (w.putObj b ob) := by
 have hget : ∀ j oj, (s.del id).heap.get j = some oj → j ≠ id ∧ s.heap.get j = some oj := by
  intro j oj hj;rw [St.del_eq] at hj;simp only [T.get_put] at hj;split at hj
  ·cases hj
  ·rename_i hne; exact ⟨hne, hj⟩
 refine ⟨h.opq, h.below.step rfl rfl rfl (by simp) fun k hk => World.putObj_heap_other (Base.mine_ne hm hk), fun n hn => h.fresh n (by rw [St.del_eq] at hn; exact hn), ?_, ?_, fun k arr hk => by rw [World.putObj_heap_other (fun x => by subst x; rw [hnp] at hk; cases hk)]; exact h.pool k arr hk, fun i o k hi oo hk => h.apart i o k (hget i o hi).2 oo hk, h.grow, h.hold⟩
 ·intro i j o1 o2 bb hi hj;exact h.inj i j o1 o2 bb (hget i o1 hi).2 (hget j o2 hj).2
 ·intro j oj hj;obtain ⟨hne, hj'⟩ := hget j oj hj;obtain ⟨k, hk, hO⟩ := h.obj j oj hj';refine ⟨k, hk, hO.mono (Env.le_refl e) hk (World.putObj_heap_other fun hkb => ?_)⟩;subst hkb;exact hne (h.inj1 hj' hrow hm hnp hk hl)

def runDefers (P : Program) (call : DCaller) (fn : Func) (t : T AV) : List DF → Md → St → Option (En × St)
 | [], .ret, s => match resultsA P s.mem fn t with
  | some v => some (.ret v, s)
  | none => none
 | [], .pan c, s => some (.pan c, s)
 | .mark _ :: _, _, _ => none
 | .fn f cs as :: ds, m, s => match bodied P f with
  | true => match call f (as ++ cs) m s with
   | some (.ret _, m', s') => runDefers P call fn t ds (settleA m') s'
   | some (.pan c, m', s') => runDefers P call fn t ds (raisedA m' c) s'
   | none => none
  | false => none

def Out (Ω : Om) (w0 : Base) (e : Env) (en : En) (s : St) : Ending → World → Prop := fun E w => ∃ e', e.le e' ∧ Rel Ω w0 e' s w ∧ EnR e' en E

theorem runDefers_ok {P : Program} (S : Sound P) {Ω : Om} {w0 : Base} {call : DCaller} (hc : DCallOK P Ω w0 call) {fn : Func} {t : T AV} {e : Env} {en : En} {s' : St} : ∀ (ds : List DF) (m : Md) (s : St), runDefers P call fn t ds m s = some (en, s') →
  ∀ (e1 : Env) (u : FrameMode) (w : World) (a : Act) (l : List Deferred), e.le e1 → Rel Ω w0 e1 s w → ((∃ c, m = .pan c ∧ ds = []) ∨ FT e1 t a) → DfR e1 ds l → MdR e1 m u → Leaves P fn a.tmps (Out Ω w0 e en s') l u w
 | [], .ret, s, k, e1, u, w, a, l, hle, hr, hf, hd, hm => by
  simp only [DfR] at hd;simp only [MdR] at hm;subst hd hm;have hf : FT e1 t a := by
   rcases hf with ⟨c, h, _⟩ | hf
   ·cases h
   ·exact hf
  simp only [runDefers] at k;split at k
  ·rename_i v hv;simp only [sme, pme] at k;obtain ⟨rfl, rfl⟩ := k;obtain ⟨x, hx, hrun⟩ := resultsA_run (hr.reads (P := P)) hf hv;exact ⟨x, hrun w rfl, e1, hle, hr, hx⟩
  ·cases k
 | [], .pan c, s, k, e1, u, w, a, l, hle, hr, hf, hd, hm => by
  simp only [DfR] at hd;obtain ⟨ch, rfl, hch⟩ := hm;subst hd;simp only [runDefers, sme, pme] at k;obtain ⟨rfl, rfl⟩ := k;exact ⟨e1, hle, hr, hch⟩
 | .mark id :: ds, m, s, k, e1, u, w, a, l, hle, hr, hf, hd, hm => by cases m <;> cases k
 | .fn f cs as :: ds, m, s, k, e1, u, w, a, l, hle, hr, hf, hd, hm => by
  have hf : FT e1 t a := by
   rcases hf with ⟨c, _, h⟩ | hf
   ·cases h
   ·exact hf
  simp only [DfR] at hd;obtain ⟨xs, ys, rest, rfl, h1, h2, h3⟩ := hd;simp only [runDefers] at k;split at k
  ·rename_i hb;unfold bodied at hb;split at hb
   ·rename_i fn' hfn;obtain ⟨c, hcb⟩ := Option.isSome_iff_exists.1 hb;have hinv : (invoke (.fn (.func f) xs) ys).run P w = .ok (.enter f (ys.toList ++ xs.toList).toArray) w := by
     simp only [invoke, run_callFunc S hfn hcb];congr 2;apply Array.ext'
     simp
    refine leaves_cons hm.ne hinv ?_;have key := fun en' m' s1 (hk : call f (as ++ cs) m s = some (en', m', s1)) => hc f (as ++ cs) m s en' m' s1 hk e1 w _ u hr (h2.append h1) hm
    have ft : ∀ e2, e1.le e2 → FT e2 t a := fun e2 g i v hi => let ⟨x, hx, hv⟩ := hf i v hi; ⟨x, hx, hv.mono g⟩
    split at k
    ·rename_i v m' s1 hcall;refine (key _ _ _ hcall).mono fun E u' w' ⟨e2, g1, g2, g3, g4⟩ => ?_
     cases E with
     | returned x => exact runDefers_ok S hc ds _ s1 k e2 _ w' a rest (Env.le_trans hle g1) g2 (.inr (ft e2 g1)) (h3.mono g1) (settleA_ok g4)
     | panicked l => exact g3.elim
     | outgrown => exact g3.elim
    ·rename_i c m' s1 hcall;refine (key _ _ _ hcall).mono fun E u' w' ⟨e2, g1, g2, g3, g4⟩ => ?_
     cases E with
     | returned x => exact g3.elim
     | panicked l => exact runDefers_ok S hc ds _ s1 k e2 _ w' a rest (Env.le_trans hle g1) g2 (.inr (ft e2 g1)) (h3.mono g1) (raisedA_ok g4 g3)
     | outgrown => exact g3.elim
    ·cases k
   ·cases hb
  ·cases k

def runMarks (P : Program) (fn : Func) (t : T AV) : List DF → Md → St → Option (En × St)
 | [], .ret, s => match resultsA P s.mem fn t with
  | some v => some (.ret v, s)
  | none => none
 | [], .pan c, s => some (.pan c, s)
 | .mark id :: ds, m, s => match s.heap.get id with
  | some .defd => runMarks P fn t ds m (s.del id)
  | _ => none
 | .fn _ _ _ :: _, _, _ => none

theorem runMarks_ok {P : Program} {Ω : Om} {w0 : Base} {fn : Func} {t : T AV} {e : Env} {en : En} {s' : St} : ∀ (ds : List DF) (m : Md) (s : St), runMarks P fn t ds m s = some (en, s') →
  ∀ (e1 : Env) (u : FrameMode) (w : World) (a : Act) (l : List Deferred), e.le e1 → Rel Ω w0 e1 s w → ((∃ c, m = .pan c) ∨ FT e1 t a) → DfR e1 ds l → MdR e1 m u → LeavesInM Fence.wide 0 P fn a.tmps (Out Ω w0 e en s') l u w
 | [], .ret, s, k, e1, u, w, a, l, hle, hr, hf, hd, hm => by
  simp only [DfR] at hd;simp only [MdR] at hm;subst hd hm;have hf : FT e1 t a := by
   rcases hf with ⟨c, h⟩ | hf
   ·cases h
   ·exact hf
  simp only [runMarks] at k;split at k
  ·rename_i v hv;simp only [sme, pme] at k;obtain ⟨rfl, rfl⟩ := k;obtain ⟨x, hx, hrun⟩ := resultsA_run (hr.reads (P := P)) hf hv;exact ⟨x, hrun w rfl, e1, hle, hr, hx⟩
  ·cases k
 | [], .pan c, s, k, e1, u, w, a, l, hle, hr, hf, hd, hm => by
  simp only [DfR] at hd;obtain ⟨ch, rfl, hch⟩ := hm;subst hd;simp only [runMarks, sme, pme] at k;obtain ⟨rfl, rfl⟩ := k;exact ⟨e1, hle, hr, hch⟩
 | .mark id :: ds, m, s, k, e1, u, w, a, l, hle, hr, hf, hd, hm => by
  simp only [DfR] at hd;obtain ⟨b, rest, hb, rfl, h3⟩ := hd;have k : (match s.heap.get id with
   | some .defd => runMarks P fn t ds m (s.del id)
   | _ => none) = some (en, s') := by cases m <;> exact k
  split at k
  ·rename_i hrow;obtain ⟨kb, hkb, hm0, h0, hblk⟩ := hr.obj id _ hrow;obtain rfl : kb = b := by rw [hb] at hkb; exact (Option.some.inj hkb).symm
   exact ⟨hm.ne, .inl ⟨kb, _, rfl, run_takeDeferred hblk, runMarks_ok ds m _ k e1 u _ a rest hle (hr.offBlock hrow hb hm0 (hr.apart _ _ _ hrow rfl hb) _) hf h3 hm⟩⟩
  ·cases k
 | .fn f cs as :: ds, m, s, k, e1, u, w, a, l, hle, hr, hf, hd, hm => by cases m <;> cases k

def marked : List DF → Bool
 | .mark _ :: _ => true
 | _ => false

def leaveA (P : Program) (dcall : DCaller) (fn : Func) (fr : Fr) (m : Md) (s : St) : Option (En × St) := match marked fr.defers with
 | true => runMarks P fn fr.t fr.defers m s
 | false => runDefers P dcall fn fr.t fr.defers m s

def modeOf : X → Option Md
 | .normal => some .ret
 | .ret => some .ret
 | .panic c => some (.pan c)
 | .exit _ => none

def enter (P : Program) (F : Facts) (lp : FuncId → Loops) (call : Caller) (rnd : Rounder) (dcall : DCaller) (fuel : Nat) : Caller := fun f args s =>
 match P.funcs[f]? with
 | some fn => match fn.body with
  | some c => match Nat.ble args.length fn.ntmps with
   | true => match execX P F (lp f) call rnd none fuel [] c ⟨T.nil.putL 0 args, fn.ntmps, []⟩ s with
    | some (x, fr, s') => match modeOf x with
     | some m => leaveA P dcall fn fr m s'
     | none => none
    | none => none
   | false => none
  | none => none
 | none => none

theorem frame_start {e : Env} {args : List AV} {as : List Value} (h : VRs e args as) {n : Nat} (hn : args.length ≤ n) : FrR e ⟨T.nil.putL 0 args, n, []⟩ { tmps := as.toArray ++ Array.replicate (n - as.toArray.size) undef, defers := [] } := by
 have hl := h.length;refine ⟨by simp; omega, fun i v hi => ?_, rfl⟩;simp only [T.get_putL, T.get_nil] at hi;split at hi
 ·rename_i hc;simp only [Nat.sub_zero] at hi;obtain ⟨x, hx, hv⟩ := h.at i v hi;refine ⟨x, ?_, hv⟩;have : i < as.length := (List.getElem?_eq_some_iff.1 hx).1;rw [Array.getElem?_append_left (by simpa using this)];simpa using hx
 ·cases hi

theorem enter_ok {P : Program} (S : Sound P) {Ω : Om} {w0 : Base} {call : Caller} {dcall : DCaller} {F : Facts} (hF : FactsOK P Ω w0 F) (hc : CallOK P Ω w0 call) {rnd : Rounder} (hR : RoundOK P Ω w0 rnd) (hd : DCallOK P Ω w0 dcall) {lp : FuncId → Loops} (hlp : ∀ f fn c, P.funcs[f]? = some fn → fn.body = some c → LoopsOK P Ω w0 c (lp f)) (fuel : Nat) : CallOK P Ω w0 (enter P F lp call rnd dcall fuel) := by
 intro f args s en s' k e w as hr ha;unfold enter at k;split at k
 ·rename_i fn hfn;split at k
  ·rename_i c hcb;split at k
   ·rename_i hn;have hn := ble_le hn;have hfr := frame_start ha hn;split at k
    ·rename_i x fr s1 hx;split at k
     ·rename_i m hm;have hexec := (execX_ok S hc hR hF (r := none) (rl := none) (.inl ⟨rfl, hlp f fn c hfn hcb⟩) 0 fuel).1 _ _ _ _ _ _ _ rfl hx e _ w hr hfr trivial
      -- what holds of the frame behind
      have hft : ∀ (e1 : Env) (a : Act) (ex : Exit), XR e1 x ex → FX e1 x fr a → ((∃ cc, m = .pan cc ∧ fr.defers = []) ∨ FT e1 fr.t a) ∧ DfR e1 fr.defers a.defers := by
       intro e1 a ex hxr g4;unfold FX at g4;split at g4
       ·rename_i cc hd;simp only [modeOf, sme] at hm;refine ⟨.inl ⟨cc, hm.symm, hd⟩, ?_⟩;rw [hd, g4]; rfl
       ·exact ⟨.inr (FrR.ft g4), FrR.df g4⟩
      unfold leaveA at k;split at k
      ·rename_i hmk;refine callsIn_Fof.1 (callsIn_of_wp_marks (F := Fof none) (n := 0) hfn hcb trivial ?_);refine wpIn_mono hexec fun ex a w1 ⟨e1, g1, g2, g3, g4⟩ => ?_
       obtain ⟨hf, hdf⟩ := hft e1 a ex g3 g4;have hf : (∃ c, m = .pan c) ∨ FT e1 fr.t a := hf.imp (fun ⟨c, h, _⟩ => ⟨c, h⟩) id;cases x with
       | exit i => cases hm
       | normal =>
        simp only [modeOf, sme] at hm;subst hm;cases ex <;> first | exact g3.elim | exact runMarks_ok _ _ _ k e1 _ w1 a _ g1 g2 hf hdf rfl
       | ret =>
        simp only [modeOf, sme] at hm;subst hm;cases ex <;> first | exact g3.elim | exact runMarks_ok _ _ _ k e1 _ w1 a _ g1 g2 hf hdf rfl
       | panic cc =>
        simp only [modeOf, sme] at hm;subst hm;cases ex <;> first | exact g3.elim | exact runMarks_ok _ _ _ k e1 _ w1 a _ g1 g2 hf hdf ⟨_, rfl, g3⟩
      ·rename_i hmk;refine calls_of_wp_defers hfn hcb ?_;refine wp_mono (wpIn_wide.1 hexec) fun ex a w1 ⟨e1, g1, g2, g3, g4⟩ => ?_
       obtain ⟨hf, hdf⟩ := hft e1 a ex g3 g4;cases x with
       | exit i => cases hm
       | normal =>
        simp only [modeOf, sme] at hm;subst hm;cases ex <;> first | exact g3.elim | exact runDefers_ok S hd _ _ _ k e1 _ w1 a _ g1 g2 hf hdf rfl
       | ret =>
        simp only [modeOf, sme] at hm;subst hm;cases ex <;> first | exact g3.elim | exact runDefers_ok S hd _ _ _ k e1 _ w1 a _ g1 g2 hf hdf rfl
       | panic cc =>
        simp only [modeOf, sme] at hm;subst hm;cases ex <;> first | exact g3.elim | exact runDefers_ok S hd _ _ _ k e1 _ w1 a _ g1 g2 hf hdf ⟨_, rfl, g3⟩
     ·cases k
    ·cases k
   ·cases k
  ·cases k
 ·cases k

end Go.Ev
