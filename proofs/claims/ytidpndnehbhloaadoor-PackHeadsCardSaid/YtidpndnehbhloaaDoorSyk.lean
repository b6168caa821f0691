/- An evaluator of the model's code over abstract states, and its soundness: part 11: recover; a call of a function without parameters. No condition. -/
import Derived.Test.YtidpndnehbhloaaDoorSymp
namespace Go.Ev
open Go.RowKit

def isRecover (o : Oper) : Bool :=
 match o.op with
 | .call { callee := .builtin .recover, .. } => true
 | _ => false

theorem recover_run {P : Program} {o : Oper} (h : isRecover o = true) (a : Act) (w : World) : (execOp a.eval o).run P w = .ok .recover w := by
 unfold isRecover at h;split at h
 ·rename_i args tys hop;simp only [execOp, hop, resolve, invoke, builtin, Sem.run_bind, Sem.run_pure, Result.andThen_ok]
 ·cases h

def recoverA : Md → AV × Md
 | .pan ((v, false) :: old) => (v, .pan ((v, true) :: old))
 | m => (.niliface, m)

def opsRunS (P : Program) (F : Facts) (call : Caller) (ops : Array Oper) : List Nat → Fr → Md → St → Option (X × Fr × Md × St)
 | [], fr, m, s => some (.normal, fr, m, s)
 | i :: rest, fr, m, s => match ops[i]? with
  | none => none
  | some o => match wantedA ops fr.t o with
   | some false => match putA fr o.dst undefA with
    | some fr' => opsRunS P F call ops rest fr' m s
    | none => none
   | some true => match isRecover o with
    | true => match putA fr o.dst (recoverA m).1 with
     | some fr' => opsRunS P F call ops rest fr' (recoverA m).2 s
     | none => none
    | false => match quietA P (s.memF F) fr.t o with
     | some v => match putA fr o.dst v with
      | some fr' => opsRunS P F call ops rest fr' m s
      | none => none
     | none => match actB P F.ask call fr.t s o with
      | some (.val v s') => match putA fr o.dst v with
       | some fr' => opsRunS P F call ops rest fr' m s'
       | none => none
      | some (.skip s') => match putA fr o.dst undefA with
       | some fr' => opsRunS P F call ops rest fr' m s'
       | none => none
      | some (.pan c s') => some (.panic c, fr, m, s')
      | _ => none
   | none => none

def PostS (Ω : Om) (w0 : Base) (e : Env) (x : X) (fr : Fr) (m : Md) (s : St) (c₀ : Frame) (cs : List Frame) : Exit → Act → List Frame → World → Prop :=
 fun ex a cs' w => ∃ e' u', e.le e' ∧ Rel Ω w0 e' s w ∧ XR e' x ex ∧ FX e' x fr a ∧ MdR e' m u' ∧ cs' = { c₀ with mode := u' } :: cs

theorem PostS.trans {Ω : Om} {w0 : Base} {e e1 : Env} {x : X} {fr : Fr} {m : Md} {s : St} {c₀ : Frame} {cs cs' : List Frame} (h : e.le e1) {ex : Exit} {a : Act} {w : World} (k : PostS Ω w0 e1 x fr m s c₀ cs ex a cs' w) : PostS Ω w0 e x fr m s c₀ cs ex a cs' w :=
 let ⟨e', u', g1, g2⟩ := k
 ⟨e', u', Env.le_trans h g1, g2⟩

theorem recoverD_ok {e : Env} {m : Md} {u : FrameMode} (h : MdR e m u) (c₀ : Frame) (cs : List Frame) :
  (∃ x u', recoverD ({ c₀ with mode := u } :: cs) = some (x, { c₀ with mode := u' } :: cs) ∧ VR e (recoverA m).1 x ∧ MdR e (recoverA m).2 u') ∨
  (recoverD ({ c₀ with mode := u } :: cs) = none ∧ VR e (recoverA m).1 .nilIface ∧ MdR e (recoverA m).2 u) := by
 cases m with
 | ret =>
  simp only [MdR] at h;subst h;right;exact ⟨by simp [recoverD], by simp only [recoverA, VR], by simp [recoverA, MdR]⟩
 | pan c =>
  obtain ⟨l, rfl, hl⟩ := h;cases c with
  | nil =>
   simp only [ChR] at hl;subst hl;right;exact ⟨by simp [recoverD], by simp only [recoverA, VR], ⟨[], rfl, rfl⟩⟩
  | cons p c =>
   obtain ⟨v, r⟩ := p;have hl' := hl;simp only [ChR] at hl;obtain ⟨x, t, rfl, h1, h2⟩ := hl;cases r with
   | false =>
    left;refine ⟨x, .panicking ({ v := x, recovered := true } :: t), by simp [recoverD], h1, ⟨_, rfl, ?_⟩⟩;exact ⟨x, t, rfl, h1, h2⟩
   | true =>
    right;exact ⟨by simp [recoverD], by simp only [recoverA, VR], ⟨_, rfl, hl'⟩⟩

theorem opsRunS_ok {P : Program} (S : Sound P) {Ω : Om} {w0 : Base} {call : Caller} (hc : CallOK P Ω w0 call) {F : Facts} (hF : FactsOK P Ω w0 F) (ops : Array Oper) (c₀ : Frame) (cs : List Frame) {x : X} {fr' : Fr} {m' : Md} {s' : St} {e : Env} : ∀ (l : List Nat) (fr : Fr) (m : Md) (s : St), opsRunS P F call ops l fr m s = some (x, fr', m', s') →
  ∀ (e1 : Env) (a : Act) (u : FrameMode) (w : World), e.le e1 → Rel Ω w0 e1 s w → FrR e1 fr a → MdR e1 m u → wpOpsS P ops (PostS Ω w0 e x fr' m' s' c₀ cs) l a ({ c₀ with mode := u } :: cs) w
 | [], fr, m, s, k, e1, a, u, w, hle, hr, hf, hm => by
  simp only [opsRunS, sme, pme] at k;obtain ⟨rfl, rfl, rfl, rfl⟩ := k;exact ⟨e1, u, hle, hr, trivial, hf.fx _, hm, rfl⟩
 | i :: rest, fr, m, s, k, e1, a, u, w, hle, hr, hf, hm => by
  have onward := fun fr1 m1 s1 (k1 : opsRunS P F call ops rest fr1 m1 s1 = some (x, fr', m', s')) => opsRunS_ok S hc hF ops c₀ cs (e := e) rest fr1 m1 s1 k1
  unfold opsRunS at k;unfold wpOpsS;split at k
  ·cases k
  ·rename_i o ho;simp only [ho];split at k
   ·rename_i hw;rw [if_neg (by rw [wantedA_ok hf.ft hw]; simp)];split at k
    ·rename_i fr1 hp; exact onward _ _ _ k e1 _ u w hle hr (hf.put undefA_vr hp) hm
    ·cases k
   ·rename_i hw;rw [if_pos (by rw [wantedA_ok hf.ft hw])];split at k
    ·rename_i hrec;rw [recover_run hrec];simp only;split at k
     ·rename_i fr1 hp;rcases recoverD_ok hm c₀ cs with ⟨y, u', h1, h2, h3⟩ | ⟨h1, h2, h3⟩
      ·rw [h1];exact onward _ _ _ k e1 _ u' w hle hr (hf.put h2 hp) h3
      ·rw [h1];exact onward _ _ _ k e1 _ u w hle hr (hf.put h2 hp) h3
     ·cases k
    ·-- no recover: what 'actA' and 'quietA' say
     have upon : ∀ K : Act → World → Prop, o.wp P a w K (fun ex a' w' => PostS Ω w0 e x fr' m' s' c₀ cs ex a' ({ c₀ with mode := u } :: cs) w') → (∀ a' w', K a' w' → wpOpsS P ops (PostS Ω w0 e x fr' m' s' c₀ cs) rest a' ({ c₀ with mode := u } :: cs) w') →
       (match (execOp a.eval o).run P w with
        | .ok .recover w' => match recoverD ({ c₀ with mode := u } :: cs) with
         | some (v, cs') => wpOpsS P ops (PostS Ω w0 e x fr' m' s' c₀ cs) rest (a.put o.dst v) cs' w'
         | none => wpOpsS P ops (PostS Ω w0 e x fr' m' s' c₀ cs) rest (a.put o.dst .nilIface) ({ c₀ with mode := u } :: cs) w'
        | r => o.upon P a (fun a' w' => wpOpsS P ops (PostS Ω w0 e x fr' m' s' c₀ cs) rest a' ({ c₀ with mode := u } :: cs) w') (fun ex a' w' => PostS Ω w0 e x fr' m' s' c₀ cs ex a' ({ c₀ with mode := u } :: cs) w') r) := by
      intro K h1 h2;have h3 := Oper.wp_mono h2 h1;unfold Oper.wp at h3;split
      ·rename_i w' hrun;rw [hrun] at h3;exact h3.elim
      ·exact h3
     split at k
     ·rename_i v hq;obtain ⟨y, hy, hrun⟩ := quietA_run (hr.readsF hF) hf.ft hq;split at k
      ·rename_i fr1 hp;refine upon (fun a' w' => a' = a.put o.dst y ∧ w' = w) (by simp only [Oper.wp, hrun w rfl, Oper.upon_value]; exact ⟨trivial, trivial⟩) ?_;rintro a' w' ⟨rfl, rfl⟩
       exact onward _ _ _ k e1 _ u _ hle hr (hf.put hy hp) hm
      ·cases k
     ·split at k
      ·rename_i v s1 hact;split at k
       ·rename_i fr1 hp;refine upon (fun a' w' => ∃ e2, e1.le e2 ∧ Rel Ω w0 e2 s1 w' ∧ FrR e2 fr1 a') (actB_run S hc hF.ask hf.ft hr hact _ _ ?_) ?_
        ·intro e2 y w2 g1 g2 g3;exact ⟨e2, g1, g3, (hf.mono g1).put g2 hp⟩
        ·rintro a' w' ⟨e2, g1, g2, g3⟩
         exact onward _ _ _ k e2 _ u w' (Env.le_trans hle g1) g2 g3 (hm.mono g1)
       ·cases k
      ·rename_i s1 hact;split at k
       ·rename_i fr1 hp;refine upon (fun a' w' => ∃ e2, e1.le e2 ∧ Rel Ω w0 e2 s1 w' ∧ FrR e2 fr1 a') (actB_run S hc hF.ask hf.ft hr hact _ _ ?_) ?_
        ·intro e2 w2 g1 g3;exact ⟨e2, g1, g3, (hf.mono g1).put undefA_vr hp⟩
        ·rintro a' w' ⟨e2, g1, g2, g3⟩
         exact onward _ _ _ k e2 _ u w' (Env.le_trans hle g1) g2 g3 (hm.mono g1)
       ·cases k
      ·rename_i c s1 hact;simp only [sme, pme] at k;obtain ⟨rfl, rfl, rfl, rfl⟩ := k;refine upon (fun _ _ => False) (actB_run S hc hF.ask hf.ft hr hact _ _ ?_) (fun _ _ h => h.elim);intro e2 l w2 g1 g2 g3;exact ⟨e2, u, Env.le_trans hle g1, g3, g2, (hf.mono g1).fx _, hm.mono g1, rfl⟩
      ·cases k
   ·cases k

def execS (P : Program) (F : Facts) (call : Caller) : Nat → Code → Fr → Md → St → Option (X × Fr × Md × St)
 | 0, _, _, _, _ => none
 | n + 1, c, fr, m, s => match c with
  | .seq a b => match execS P F call n a fr m s with
   | some (.normal, fr', m', s') => execS P F call n b fr' m' s'
   | r => r
  | .cond c a b => match evalO fr.t c with
   | some (.bool true) => execS P F call n a fr m s
   | some (.bool false) => execS P F call n b fr m s
   | _ => none
  | .region id ops draw => match draw with
   | false => opsRunS P F call ops (List.range ops.size) fr m s
   | true => match execC P F noLoops call n [] (.region id ops true) fr s with
    | some (x, fr', s') => some (x, fr', m, s')
    | none => none
  | c => match execC P F noLoops call n [] c fr s with
   | some (x, fr', s') => some (x, fr', m, s')
   | none => none

theorem wpS_mono {P : Program} {c : Code} {Q Q' : Exit → Act → List Frame → World → Prop} {a : Act} {cs : List Frame} {w : World} (h : c.wpS P Q a cs w) (k : ∀ e a cs w, Q e a cs w → Q' e a cs w) : c.wpS P Q' a cs w :=
 fun b kk hb hr => let ⟨e, a', cs', w', q, r⟩ := h b kk hb hr; ⟨e, a', cs', w', k _ _ _ _ q, r⟩

theorem execS_ok {P : Program} (S : Sound P) {Ω : Om} {w0 : Base} {call : Caller} (hc : CallOK P Ω w0 call) {F : Facts} (hF : FactsOK P Ω w0 F) (c₀ : Frame) (cs : List Frame) : ∀ (n : Nat) (c : Code) (fr : Fr) (m : Md) (s : St) (x : X) (fr' : Fr) (m' : Md) (s' : St), execS P F call n c fr m s = some (x, fr', m', s') →
  ∀ (e : Env) (a : Act) (u : FrameMode) (w : World), Rel Ω w0 e s w → FrR e fr a → MdR e m u → c.wpS P (PostS Ω w0 e x fr' m' s' c₀ cs) a ({ c₀ with mode := u } :: cs) w
 | 0, _, _, _, _, _, _, _, _, k => by cases k
 | n + 1, c, fr, m, s, x, fr', m', s', k => by
  intro e a u w hr hf hm;have plain : (match execC P F noLoops call n [] c fr s with
   | some (x, fr', s') => some (x, fr', m, s')
   | none => none) = some (x, fr', m', s') → c.wpS P (PostS Ω w0 e x fr' m' s' c₀ cs) a ({ c₀ with mode := u } :: cs) w := by
   intro k;split at k
   ·rename_i x1 fr1 s1 hx;simp only [sme, pme] at k;obtain ⟨rfl, rfl, rfl, rfl⟩ := k;refine wpS_of_wp (wp_mono ((execC_ok S hc hF (noLoops_ok P Ω w0 _) n).1 _ _ _ _ _ _ _ rfl hx e a w hr hf) fun ex a1 w1 ⟨e1, g1, g2, g3, g4⟩ => ?_);exact ⟨e1, u, g1, g2, g3, g4, hm.mono g1, rfl⟩
   ·cases k
  unfold execS at k;split at k
  ·rename_i c1 c2;split at k
   ·rename_i fr1 m1 s1 h1;refine wpS_seq (wpS_mono (execS_ok S hc hF c₀ cs n _ _ _ _ _ _ _ _ h1 e a u w hr hf hm) fun ex a1 cs1 w1 ⟨e1, u1, g1, g2, g3, g4, g5, g6⟩ => ?_);cases ex <;> first
     | exact g3.elim
     | skip
    subst g6;exact wpS_mono (execS_ok S hc hF c₀ cs n _ _ _ _ _ _ _ _ k e1 a1 u1 w1 g2 g4 g5) fun ex a cs w h => h.trans g1
   ·rename_i hnn;refine wpS_seq (wpS_mono (execS_ok S hc hF c₀ cs n _ _ _ _ _ _ _ _ k e a u w hr hf hm) fun ex a1 cs1 w1 g => ?_);cases ex with
    | normal =>
     obtain ⟨e1, u1, g1, g2, g3, g4⟩ := g;cases x with
     | normal => exact (hnn _ _ _ k).elim
     | exit i => exact g3.elim
     | ret => exact g3.elim
     | panic c => exact g3.elim
    | _ => exact g
  ·split at k
   ·rename_i hcnd;have := evalO_vr hf.ft hcnd;simp only [VR] at this;exact wpS_cond (t := true) this (execS_ok S hc hF c₀ cs n _ _ _ _ _ _ _ _ k e a u w hr hf hm)
   ·rename_i hcnd;have := evalO_vr hf.ft hcnd;simp only [VR] at this;exact wpS_cond (t := false) this (execS_ok S hc hF c₀ cs n _ _ _ _ _ _ _ _ k e a u w hr hf hm)
   ·cases k
  ·split at k
   ·exact wpS_region (opsRunS_ok S hc hF _ c₀ cs _ _ _ _ k e a u w (Env.le_refl e) hr hf hm)
   ·exact plain k
  ·exact plain k

def enterD (P : Program) (F : Facts) (call : Caller) (fuel : Nat) : DCaller := fun f args m s =>
 match P.funcs[f]? with
 | some fn => match fn.body with
  | some c => match Nat.ble args.length fn.ntmps with
   | true => match execS P F call fuel c ⟨T.nil.putL 0 args, fn.ntmps, []⟩ m s with
    | some (.panic c, fr, m', s') => match fr.defers with
     | [] => some (.pan c, m', s')
     | _ => none
    | some (.exit _, _, _, _) => none
    | some (_, fr, m', s') => match fr.defers with
     | [] => match resultsA P s'.mem fn fr.t with
      | some v => some (.ret v, m', s')
      | none => none
     | _ => none
    | none => none
   | false => none
  | none => none
 | none => none

theorem enterD_ok {P : Program} (S : Sound P) {Ω : Om} {w0 : Base} {call : Caller} (hc : CallOK P Ω w0 call) {F : Facts} (hF : FactsOK P Ω w0 F) (fuel : Nat) : DCallOK P Ω w0 (enterD P F call fuel) := by
 intro f args m s en m' s' k e w as u hr ha hm;unfold enterD at k;split at k
 ·rename_i fn hfn;split at k
  ·rename_i c hcb;split at k
   ·rename_i hn;have hn := ble_le hn;have hfr := frame_start ha hn;refine callsD_of_wpS hfn hcb fun c₀ cs hu => ?_
    have hc0 : c₀ = { c₀ with mode := u } := by subst hu; rfl
    rw [hc0];split at k
    ·rename_i cc fr m1 s1 hx;split at k
     ·rename_i hd;simp only [sme, pme] at k;obtain ⟨rfl, rfl, rfl⟩ := k;refine wpS_mono (execS_ok S hc hF c₀ cs fuel _ _ _ _ _ _ _ _ hx e _ u w hr hfr hm) fun ex a cs1 w1 ⟨e1, u1, g1, g2, g3, g4, g5, g6⟩ => ?_
      cases ex <;> first
       | exact g3.elim
       | skip
      simp only [FX, hd] at g4;exact ⟨g4, u1, g6, e1, g1, g2, g3, g5⟩
     ·cases k
    ·cases k
    ·rename_i x fr m1 s1 hnp hne hx;split at k
     ·rename_i hd;split at k
      ·rename_i v hv;simp only [sme, pme] at k;obtain ⟨rfl, rfl, rfl⟩ := k;refine wpS_mono (execS_ok S hc hF c₀ cs fuel _ _ _ _ _ _ _ _ hx e _ u w hr hfr hm) fun ex a cs1 w1 ⟨e1, u1, g1, g2, g3, g4, g5, g6⟩ => ?_
       have fin : FrR e1 fr a → a.defers = [] ∧ ∃ u', cs1 = { c₀ with mode := u' } :: cs ∧ ∃ y, (results fn a.tmps).run P w1 = .ok y w1 ∧ ∃ e', e.le e' ∧ Rel Ω w0 e' s1 w1 ∧ EnR e' (.ret v) (.returned y) ∧ MdR e' m1 u' := by
        intro g4;obtain ⟨y, hy, hrun⟩ := resultsA_run (g2.reads (P := P)) g4.ft hv;have hdd := g4.df;rw [hd] at hdd;exact ⟨hdd, u1, g6, y, hrun w1 rfl, e1, g1, g2, hy, g5⟩
       cases x with
       | normal => cases ex <;> first | exact g3.elim | exact fin g4
       | ret => cases ex <;> first | exact g3.elim | exact fin g4
       | exit i => exact (hne _ rfl).elim
       | panic cc => exact (hnp _ rfl).elim
      ·cases k
     ·cases k
    ·cases k
   ·cases k
  ·cases k
 ·cases k

structure Known where
 facts : Facts
 loops : FuncId → Loops
 base : Caller

structure KnownOK (P : Program) (Ω : Om) (w0 : Base) (K : Known) : Prop where
 facts : FactsOK P Ω w0 K.facts
 loops : ∀ f fn c, P.funcs[f]? = some fn → fn.body = some c → LoopsOK P Ω w0 c (K.loops f)
 base : CallOK P Ω w0 K.base

def duoN (P : Program) (K : Known) (fuel : Nat) : Nat → Caller × Rounder
 | 0 => (K.base, noRnd)
 | n + 1 => match duoN P K fuel n with
  | (c, r) => (fun f args s => match K.base f args s with
   | some r => some r
   | none => enter P K.facts (withSums P K.facts K.loops) c r (enterD P K.facts c fuel) fuel f args s, roundX P K.facts c r fuel)
def callN (P : Program) (K : Known) (fuel n : Nat) : Caller := (duoN P K fuel n).1

theorem duoN_ok {P : Program} (S : Sound P) {Ω : Om} {w0 : Base} {K : Known} (hK : KnownOK P Ω w0 K) (fuel : Nat) : ∀ n, CallOK P Ω w0 (duoN P K fuel n).1 ∧ RoundOK P Ω w0 (duoN P K fuel n).2
 | 0 => ⟨hK.base, noRnd_ok _ _ _⟩
 | n + 1 => by
  obtain ⟨h1, h2⟩ := duoN_ok S hK fuel n;unfold duoN;generalize duoN P K fuel n = d at h1 h2;obtain ⟨c, r⟩ := d;refine ⟨?_, roundX_ok S h1 h2 hK.facts fuel⟩;intro f args s en s' k;simp only at k;split at k
  ·rename_i r hr;simp only [sme] at k;subst k;exact hK.base f args s _ _ hr
  ·exact enter_ok S hK.facts h1 h2 (enterD_ok S h1 hK.facts fuel) (withSums_ok S hK.facts hK.loops) fuel f args s en s' k

theorem callN_ok {P : Program} (S : Sound P) {Ω : Om} {w0 : Base} {K : Known} (hK : KnownOK P Ω w0 K) (fuel : Nat) (n : Nat) : CallOK P Ω w0 (callN P K fuel n) := (duoN_ok S hK fuel n).1

def yesOf (P : Program) (K : Known) (fuel depth : Nat) (f : FuncId) (args : List AV) (s : St) : Bool :=
 match callN P K fuel depth f args s with
 | some (.ret (.bool true), _) => true
 | _ => false

theorem calls_of_yesOf {P : Program} (S : Sound P) {K : Known} {fuel depth : Nat} {f : FuncId} {args : List AV} {s : St} (h : yesOf P K fuel depth f args s = true) {Ω : Om} {w : World} (hK : KnownOK P Ω (Base.all w) K) {e : Env} (hr : Rel Ω (Base.all w) e s w) {as : List Value} (ha : VRs e args as) :
  Calls P f as.toArray w fun E w' => E = .returned (.bool true) ∧ Below w.heap.size w w' := by
 unfold yesOf at h;split at h
 ·rename_i s' hk;refine (callN_ok S hK fuel depth f args s _ s' hk e w as hr ha).mono fun E w' ⟨e', g1, g2, g3⟩ => ?_
  cases E with
  | returned x =>
   simp only [EnR, VR] at g3;exact ⟨by rw [g3], ⟨g2.below.os, g2.below.tape, g2.below.output, g2.below.size, fun k hk => g2.below.block k hk rfl⟩⟩
  | panicked l => exact g3.elim
  | outgrown => exact g3.elim
 ·cases h

def St.none : St := ⟨.nil, 0⟩
def Env.none (Ω : Om) (W : World) : Env := ⟨fun i => if i % 2 = 0 then some (i / 2) else .none, fun _ => 0, fun _ => 0, Ω, fun g => by simp, poolW W⟩
theorem poolW_cells {W : World} {k : Nat} {arr : Array Value} (h : poolW W k = some arr) : ∃ el fz, W.heap[k]? = some (.cells arr el fz) := by
 unfold poolW at h;split at h
 ·rename_i c el fz hc;cases h;exact ⟨el, fz, hc⟩
 ·cases h
theorem poolW_of {W : World} {k : Nat} {arr : Array Value} {el : TypeId} {fz : Nat × Nat} (h : W.heap[k]? = some (.cells arr el fz)) : poolW W k = some arr := by
 unfold poolW;rw [h]

theorem Rel.none (Ω : Om) (w : World) : Rel Ω (Base.all w) (Env.none Ω w) St.none w where
 opq := rfl
 below := Und.refl _
 fresh n _ := by simp only [Env.none]; rw [if_neg (by omega)]
 inj i j o o' b hi _ _ _ _ _ := by simp [St.none, T.get_nil] at hi
 obj id b hb := by simp [St.none, T.get_nil] at hb
 pool k arr h := poolW_cells h
 apart i o k hi := by simp [St.none, T.get_nil] at hi
 grow k arr h := .inl ⟨arr, h⟩
 hold _ _ h := h

end Go.Ev
