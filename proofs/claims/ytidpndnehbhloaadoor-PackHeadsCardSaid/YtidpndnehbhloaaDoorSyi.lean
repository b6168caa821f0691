/- An evaluator of the model's code over abstract states, and its soundness: part 9: regions, in whatever order the tape gives; statements. No condition. -/
import Derived.Test.YtidpndnehbhloaaDoorSyo
import Derived.Tactics
import Derived.Still
import Derived.RangeFuncRecord
import Derived.LoopNIn
import Derived.TacticsIn
import Derived.OrdersIn
import Derived.Scope
namespace Go.Ev
open Go.RowKit

inductive DF where
 | fn (f : FuncId) (cs as : List AV)
 | mark (id : Nat)

structure Fr where
 t : T AV
 n : Nat
 defers : List DF

def DfR (e : Env) : List DF → List Deferred → Prop
 | [], l => l = []
 | .fn f cs as :: r, l => ∃ xs ys rest, l = { target := .fn (.func f) xs, args := ys } :: rest ∧ VRs e cs xs.toList ∧ VRs e as ys.toList ∧ DfR e r rest
 | .mark id :: r, l => ∃ b rest, e.loc id = some b ∧ l = { target := .collected b, args := #[] } :: rest ∧ DfR e r rest

theorem DfR.mono {e e' : Env} (h : e.le e') : ∀ (d : List DF) (l : List Deferred), DfR e d l → DfR e' d l
 | [], _, H => H
 | .fn f cs as :: r, _, H => by
  simp only [DfR] at H ⊢;obtain ⟨xs, ys, rest, rfl, h1, h2, h3⟩ := H;exact ⟨xs, ys, rest, rfl, h1.mono h, h2.mono h, DfR.mono h r rest h3⟩
 | .mark id :: r, _, H => by
  simp only [DfR] at H ⊢;obtain ⟨b, rest, hb, rfl, h3⟩ := H;exact ⟨b, rest, (h.loc _ _ hb).1, rfl, DfR.mono h r rest h3⟩

structure FrR (e : Env) (fr : Fr) (a : Act) : Prop where
 size : a.tmps.size = fr.n
 ft : FT e fr.t a
 df : DfR e fr.defers a.defers

theorem FrR.mono {e e' : Env} (h : e.le e') {fr : Fr} {a : Act} (H : FrR e fr a) : FrR e' fr a :=
 ⟨H.size, fun i v hi => let ⟨x, hx, hv⟩ := H.ft i v hi; ⟨x, hx, hv.mono h⟩, H.df.mono h⟩

def putA (fr : Fr) (d : Option Tmp) (v : AV) : Option Fr :=
 match d with
 | none => some fr
 | some i => match fr with
  | ⟨t, n, df⟩ => match Nat.blt i n with
   | true => some ⟨t.put i (some v), n, df⟩
   | false => none

theorem FrR.put {e : Env} {fr fr' : Fr} {a : Act} (H : FrR e fr a) {d : Option Tmp} {v : AV} {x : Value} (hv : VR e v x) (k : putA fr d v = some fr') : FrR e fr' (a.put d x) := by
 obtain ⟨ft, fn, fd⟩ := fr;unfold putA at k;split at k
 ·simp only [sme] at k; subst k; exact H
 ·rename_i i;simp only at k;split at k
  ·rename_i hi;have hi : i < fn := by simpa [Nat.blt_eq] using hi
   simp only [sme] at k;subst k;refine ⟨by simpa [Act.put] using H.size, fun j u hj => ?_, H.df⟩;simp only [T.get_put] at hj;simp only [Act.put];split at hj
   ·rename_i hji;subst hji;simp only [sme] at hj;subst hj;have hlt : j < a.tmps.size := by rw [H.size]; exact hi
    exact ⟨x, by rw [Array.getElem?_setIfInBounds_self_of_lt hlt], hv⟩
   ·rename_i hji;obtain ⟨y, hy, hu⟩ := H.ft j u hj;exact ⟨y, by rw [Array.getElem?_setIfInBounds_ne (fun h => hji h.symm)]; exact hy, hu⟩
  ·cases k

def deferA (fr : Fr) (f : FuncId) (cs as : List AV) : Fr := match fr with
 | ⟨t, n, d⟩ => ⟨t, n, .fn f cs as :: d⟩
theorem deferA_eq (fr : Fr) (f : FuncId) (cs as : List AV) : deferA fr f cs as = { fr with defers := .fn f cs as :: fr.defers } := by cases fr; rfl

def undefA : AV := .tuple []
theorem undefA_vr {e : Env} : VR e undefA undef := by simp only [undefA, VR]; exact ⟨#[], rfl, VRs_nil⟩

def wantedA (ops : Array Oper) (t : T AV) (o : Oper) : Option Bool :=
 match o.guard with
 | none => some true
 | some (j, want) => match (ops[j]?).bind (·.dst) with
  | none => some false
  | some d => match t.get d with
   | some (.bool b) => some (match b, want with | true, true => true | false, false => true | _, _ => false)
   | some (.tuple _) => some false
   | _ => none

theorem wantedA_ok {e : Env} {t : T AV} {a : Act} (h : FT e t a) {ops : Array Oper} {o : Oper} {b : Bool} (k : wantedA ops t o = some b) : Region.wanted o (yielded ops a.tmps) = b := by
 unfold wantedA at k;split at k
 ·rename_i hg; simp only [sme] at k; subst k; simp [Region.wanted, hg]
 ·rename_i j want hg;split at k
  ·rename_i hd; simp only [sme] at k; subst k; simp [Region.wanted, hg, yielded, hd]
  ·rename_i d hd;split at k
   ·rename_i c hc;simp only [sme] at k;obtain ⟨x, hx, hv⟩ := h _ _ hc;simp only [VR] at hv;subst hv;subst k;simp only [Region.wanted, hg, yielded, hd, Option.bind_some, hx];cases c <;> cases want <;> rfl
   ·rename_i vs hc;simp only [sme] at k;obtain ⟨x, hx, hv⟩ := h _ _ hc;simp only [VR] at hv;obtain ⟨as, rfl, _⟩ := hv;subst k;simp [Region.wanted, hg, yielded, hd, hx]
   ·cases k

inductive X where
 | normal
 | exit (i : Nat)
 | ret
 | panic (c : List (AV × Bool))

def XR (e : Env) : X → Exit → Prop
 | .normal, .normal => True
 | .exit i, .exit j => i = j
 | .ret, .ret => True
 | .panic c, .panic l => ChR e c l
 | _, _ => False

def FX (e : Env) (x : X) (fr : Fr) (a : Act) : Prop :=
 match x, fr.defers with
 | .panic _, [] => a.defers = []
 | _, _ => FrR e fr a

theorem FrR.fx {e : Env} {fr : Fr} {a : Act} (h : FrR e fr a) (x : X) : FX e x fr a := by
 unfold FX;split
 ·rename_i hd; have := h.df; rw [hd] at this; exact this
 ·exact h

def CodePost (Ω : Om) (w0 : Base) (e : Env) (x : X) (fr : Fr) (s : St) : Exit → Act → World → Prop := fun ex a w => ∃ e', e.le e' ∧ Rel Ω w0 e' s w ∧ XR e' x ex ∧ FX e' x fr a

def Fof (r : Option Nat) : Fence := match r with
 | none => Fence.wide
 | some l => Fence.wide.inRound l
theorem Fof_round (r : Option Nat) : (Fof r).round = r := by cases r <;> rfl
theorem Fof_fn (r : Option Nat) (f : FuncId) : (Fof r).fn f := by cases r <;> exact trivial
theorem Fof_depth (r : Option Nat) : (Fof r).depth = none := by cases r <;> rfl
theorem callsIn_Fof {r : Option Nat} {n : Nat} {P : Program} {f : FuncId} {args : Array Value} {w : World} {R : Ending → World → Prop} : CallsIn (Fof r) n P f args w R ↔ Calls P f args w R := by
 cases r with
 | none => exact callsIn_wide
 | some l => exact (show CallsIn (Fence.wide.inRound l) n P f args w R ↔ CallsIn Fence.wide n P f args w R from Iff.rfl).trans callsIn_wide
theorem rowsIn_Fof {r : Option Nat} {n : Nat} {P : Program} {row : String} {args : Array Value} {w : World} {R : Value → World → Prop} (h : Rows P row args w R) : RowsIn (Fof r) n P row args w R := by
 intro c cs _;obtain ⟨v, w', h1, h2⟩ := h c cs;refine ⟨v, w', h1, ?_⟩;cases r with
 | none => exact stepsIn_wide.2 h2
 | some l => exact stepsIn_wide.2 h2
theorem roundIn_Fof {r : Option Nat} {n : Nat} {P : Program} {l : Nat} {f : FuncId} {tmps : Array Value} {assign body : Code} {w : World} {R : Ending → World → Prop} (h : RoundIn Fence.wide n P l f tmps assign body w R) : RoundIn (Fof r) n P l f tmps assign body w R := by
 cases r with
 | none => exact h
 | some _ => exact h

def notDefer (o : Oper) : Bool := match o.op with
 | .defer _ => false
 | _ => true
theorem notDefer_ne {o : Oper} (h : notDefer o = true) : ∀ c, o.op ≠ .defer c := by
 intro c hc;unfold notDefer at h;rw [hc] at h;cases h

def okIn (r : Option Nat) (o : Oper) : Bool := match r with
 | none => true
 | some _ => notDefer o
theorem okIn_sem {r : Option Nat} {o : Oper} (h : okIn r o = true) (ρ : Operand → Value) : o.semAt (Fof r).round ρ = execOp ρ o := by
 rw [Fof_round];cases r with
 | none => exact Oper.semAt_none _ _
 | some l => exact Oper.semAt_eq _ _ _ (notDefer_ne h)

theorem wpIn_of_wpOp {P : Program} {r : Option Nat} {n : Nat} {o : Oper} {a : Act} {w : World} {K : Act → World → Prop} {Q : Exit → Act → World → Prop} (hd : okIn r o = true) (h : o.wp P a w K Q) : o.wpIn (Fof r) n P a w K Q := by
 refine ⟨fun f _ => Fof_fn r f, ?_⟩;rw [okIn_sem hd];unfold Oper.wp at h;generalize (execOp a.eval o).run P w = x at h;unfold Oper.upon at h;split at h
 ·exact h
 ·exact h
 ·exact h
 ·exact ⟨fun hx => (by rw [Fof_depth] at hx; cases hx), callsIn_Fof.2 h⟩
 ·exact ⟨fun hx => (by rw [Fof_depth] at hx; cases hx), rowsIn_Fof h⟩
 ·exact h
 ·exact h.elim

abbrev Rounder := Nat → List AV → St → Option (Bool × St)
def RoundOK (P : Program) (Ω : Om) (w0 : Base) (rnd : Rounder) : Prop :=
 ∀ id args s b s', rnd id args s = some (b, s') → ∀ e w as, Rel Ω w0 e s w → VRs e args as → ∃ l, e.loc id = some l ∧ ∃ f tmps assign body, (Instr.yield l as.toArray).run P w = .ok (.round l f tmps assign body) w ∧
  ∀ n, RoundIn Fence.wide n P l f tmps assign body w fun E w' => ∃ e', e.le e' ∧ Rel Ω w0 e' s' w' ∧ E = .returned (.bool b)
def noRnd : Rounder := fun _ _ _ => none
theorem noRnd_ok (P : Program) (Ω : Om) (w0 : Base) : RoundOK P Ω w0 noRnd := fun _ _ _ _ _ k => by cases k

def yieldOp (rnd : Rounder) (t : T AV) (s : St) (o : Oper) : Option (Bool × St) :=
 match o.op with
 | .call { callee := .value fo, args := args, argTypes := _ } => match evalO t fo, mapO (evalO t) args.toList with
  | some (.yieldf id), some as => rnd id as s
  | _, _ => none
 | _ => none

theorem yieldOp_run {P : Program} {Ω : Om} {w0 : Base} {rnd : Rounder} (hR : RoundOK P Ω w0 rnd) {e : Env} {t : T AV} {a : Act} (h : FT e t a) {s : St} {w : World} (hr : Rel Ω w0 e s w) {o : Oper} {b : Bool} {s' : St} (k : yieldOp rnd t s o = some (b, s'))
  {r : Option Nat} {n : Nat} (hd : okIn r o = true) (K : Act → World → Prop) (Q : Exit → Act → World → Prop) (H : ∀ e' w', e.le e' → Rel Ω w0 e' s' w' → K (a.put o.dst (.bool b)) w') : o.wpIn (Fof r) n P a w K Q := by
 unfold yieldOp at k;split at k
 ·rename_i fo args tys hop;split at k
  ·rename_i id as hf has;have hfv := evalO_vr h hf;simp only [VR] at hfv;obtain ⟨l, hl, hfv⟩ := hfv;have hargs := evalL_vr h _ _ has;obtain ⟨l', hl', f, tmps, assign, body, hy, hround⟩ := hR id as s b s' k e w _ hr hargs;obtain rfl : l' = l := by rw [hl] at hl'; exact (Option.some.inj hl').symm
   have hrun : (execOp a.eval o).run P w = .ok (.round l' f tmps assign body) w := by
    simp only [execOp, hop, resolve, hfv, Deferred.ofValue, Sem.run_bind, Sem.run_pure, Result.andThen_ok, invoke];rw [show args.map a.eval = (args.toList.map a.eval).toArray by apply Array.ext'; simp];simpa using hy
   refine ⟨fun f _ => Fof_fn r f, ?_⟩;rw [okIn_sem hd, hrun, Oper.uponIn_round];refine ⟨fun hx => (by rw [Fof_depth] at hx; cases hx), (roundIn_Fof (hround _)).mono fun E w' ⟨e', g1, g2, g3⟩ => ?_⟩;subst g3;exact H e' w' g1 g2
  ·cases k
 ·cases k

def opsRun (P : Program) (F : Facts) (call : Caller) (rnd : Rounder) (r : Option Nat) (ops : Array Oper) : List Oper → Fr → St → Option (X × Fr × St)
 | [], fr, s => some (.normal, fr, s)
 | o :: rest, fr, s => match okIn r o with
  | false => none
  | true => match wantedA ops fr.t o with
  | some false => match putA fr o.dst undefA with
   | some fr' => opsRun P F call rnd r ops rest fr' s
   | none => none
  | some true => match quietA P (s.memF F) fr.t o with
   | some v => match putA fr o.dst v with
    | some fr' => opsRun P F call rnd r ops rest fr' s
    | none => none
   | none => match actB P F.ask call fr.t s o with
    | some (.val v s') => match putA fr o.dst v with
     | some fr' => opsRun P F call rnd r ops rest fr' s'
     | none => none
    | some (.skip s') => match putA fr o.dst undefA with
     | some fr' => opsRun P F call rnd r ops rest fr' s'
     | none => none
    | some (.pan c s') => some (.panic c, fr, s')
    | some (.dfr f cs as) => match putA (deferA fr f cs as) o.dst undefA with
     | some fr' => opsRun P F call rnd r ops rest fr' s
     | none => none
    | none => match yieldOp rnd fr.t s o with
     | some (b, s') => match putA fr o.dst (.bool b) with
      | some fr' => opsRun P F call rnd r ops rest fr' s'
      | none => none
     | none => none
  | none => none

theorem opsRun_ok {P : Program} (S : Sound P) {Ω : Om} {w0 : Base} {call : Caller} (hc : CallOK P Ω w0 call) {rnd : Rounder} (hR : RoundOK P Ω w0 rnd) {F : Facts} (hF : FactsOK P Ω w0 F) (r : Option Nat) (rl : Option Nat) (hrl : rl.isSome = r.isSome) (N : Nat) (ops : Array Oper) : ∀ (l : List Oper) (fr : Fr) (s : St) (x : X) (fr' : Fr) (s' : St), opsRun P F call rnd r ops l fr s = some (x, fr', s') →
  ∀ (e : Env) (a : Act) (w : World), Rel Ω w0 e s w → FrR e fr a → ∀ Q : Exit → Act → World → Prop, (∀ ex a' w', CodePost Ω w0 e x fr' s' ex a' w' → Q ex a' w') → wpListIn (Fof rl) N P ops Q l a w
 | [], fr, s, x, fr', s', k, e, a, w, hr, hf, Q, H => by
  simp only [opsRun, sme, pme] at k;obtain ⟨rfl, rfl, rfl⟩ := k;exact H _ _ _ ⟨e, Env.le_refl e, hr, trivial, hf.fx _⟩
 | o :: rest, fr, s, x, fr', s', k, e, a, w, hr, hf, Q, H => by
  have next : ∀ (fr1 : Fr) (s1 : St), opsRun P F call rnd r ops rest fr1 s1 = some (x, fr', s') → ∀ e1 a1 w1, e.le e1 → Rel Ω w0 e1 s1 w1 → FrR e1 fr1 a1 → wpListIn (Fof rl) N P ops Q rest a1 w1 := fun fr1 s1 k1 e1 a1 w1 hle h1 h2 =>
   opsRun_ok S hc hR hF r rl hrl N ops rest fr1 s1 x fr' s' k1 e1 a1 w1 h1 h2 Q fun ex a' w' ⟨e2, g1, g2, g3, g4⟩ => H ex a' w' ⟨e2, Env.le_trans hle g1, g2, g3, g4⟩
  unfold opsRun at k;unfold wpListIn;split at k
  ·cases k
  rename_i hok0;have hok : okIn rl o = true := by
   cases r <;> cases rl <;> simp_all [okIn]
  split at k
  ·rename_i hw;rw [if_neg (by rw [wantedA_ok hf.ft hw]; simp)];split at k
   ·rename_i fr1 hp;exact ⟨fun f _ => Fof_fn rl f, next fr1 s k e _ w (Env.le_refl e) hr (hf.put undefA_vr hp)⟩
   ·cases k
  ·rename_i hw;rw [if_pos (by rw [wantedA_ok hf.ft hw])];split at k
   ·rename_i v hq;obtain ⟨y, hy, hrun⟩ := quietA_run (hr.readsF hF) hf.ft hq;split at k
    ·rename_i fr1 hp;refine wpIn_of_wpOp hok ?_;simp only [Oper.wp, hrun w rfl, Oper.upon_value];exact next fr1 s k e _ w (Env.le_refl e) hr (hf.put hy hp)
    ·cases k
   ·split at k
    ·rename_i v s1 hact;refine wpIn_of_wpOp hok (actB_run S hc hF.ask hf.ft hr hact _ Q ?_);intro e1 y w1 g1 g2 g3;split at k
     ·rename_i fr1 hp;exact next fr1 s1 k e1 _ w1 g1 g3 ((hf.mono g1).put g2 hp)
     ·cases k
    ·rename_i s1 hact;refine wpIn_of_wpOp hok (actB_run S hc hF.ask hf.ft hr hact _ Q ?_);intro e1 w1 g1 g3;split at k
     ·rename_i fr1 hp;exact next fr1 s1 k e1 _ w1 g1 g3 ((hf.mono g1).put undefA_vr hp)
     ·cases k
    ·rename_i c s1 hact;refine wpIn_of_wpOp hok (actB_run S hc hF.ask hf.ft hr hact _ Q ?_);intro e1 l w1 g1 g2 g3;simp only [sme, pme] at k;obtain ⟨rfl, rfl, rfl⟩ := k;exact H _ _ _ ⟨e1, g1, g3, g2, (hf.mono g1).fx _⟩
    ·rename_i f cs as hact;refine wpIn_of_wpOp hok (actB_run S hc hF.ask hf.ft hr hact _ Q ?_);intro xs ys g1 g2;rw [deferA_eq] at k;split at k
     ·rename_i fr1 hp;refine next fr1 s k e _ w (Env.le_refl e) hr (FrR.put (fr := { fr with defers := .fn f cs as :: fr.defers }) (a := { a with defers := { target := .fn (.func f) xs.toArray, args := ys.toArray } :: a.defers }) ⟨hf.size, hf.ft, ?_⟩ undefA_vr hp);exact ⟨xs.toArray, ys.toArray, a.defers, rfl, by simpa using g1, by simpa using g2, hf.df⟩
     ·cases k
    ·split at k
     ·rename_i b s1 hy;split at k
      ·rename_i fr1 hp;exact yieldOp_run hR hf.ft hr hy hok _ Q fun e1 w1 g1 g2 => next fr1 s1 k e1 _ w1 g1 g2 ((hf.mono g1).put (v := .bool b) (by simp only [VR]) hp)
      ·cases k
     ·cases k
  ·cases k

def stillRun (P : Program) (m : Mem) (ops : Array Oper) : List Oper → Fr → Option Fr
 | [], fr => some fr
 | o :: rest, fr => match wantedA ops fr.t o with
  | some false => match putA fr o.dst undefA with
   | some fr' => stillRun P m ops rest fr'
   | none => none
  | some true => match quietA P m fr.t o with
   | some v => match putA fr o.dst v with
    | some fr' => stillRun P m ops rest fr'
    | none => none
   | none => none
  | none => none

theorem stillRun_ok {P : Program} {Ω : Om} {w0 : Base} {F : Facts} (hF : FactsOK P Ω w0 F) {e : Env} {s : St} {w : World} (hr : Rel Ω w0 e s w) (ops : Array Oper) (Q : Act → Prop) : ∀ (l : List Oper) (fr fr' : Fr), stillRun P (s.memF F) ops l fr = some fr' → ∀ a, FrR e fr a → (∀ a', FrR e fr' a' → Q a') → wpStill P ops w Q l a
 | [], fr, fr', k, a, hf, H => by simp only [stillRun, sme] at k; subst k; exact H a hf
 | o :: rest, fr, fr', k, a, hf, H => by
  unfold stillRun at k;unfold wpStill;split at k
  ·rename_i hw;rw [if_neg (by rw [wantedA_ok hf.ft hw]; simp)];split at k
   ·rename_i fr1 hp; exact stillRun_ok hF hr ops Q rest fr1 fr' k _ (hf.put undefA_vr hp) H
   ·cases k
  ·rename_i hw;rw [if_pos (by rw [wantedA_ok hf.ft hw])];split at k
   ·rename_i v hq;obtain ⟨y, hy, hrun⟩ := quietA_run (hr.readsF hF) hf.ft hq;split at k
    ·rename_i fr1 hp;simp only [Oper.still, hrun w rfl, Oper.stillUpon_value];exact stillRun_ok hF hr ops Q rest fr1 fr' k _ (hf.put hy hp) H
    ·cases k
   ·cases k
  ·cases k

mutual
def sameCell : AV → AV → Bool
 | .bool a, .bool b => match a, b with | true, true => true | false, false => true | _, _ => false
 | .int k a, .int l b => decide (k = l) && decide (a = b)
 | .nilptr, .nilptr => true
 | .ptr i o, .ptr j p => Nat.beq i j && Nat.beq o p
 | .nilslice, .nilslice => true
 | .slice i o l c b, .slice i' o' l' c' b' => Nat.beq i i' && Nat.beq o o' && Nat.beq l l' && Nat.beq c c' && (b == b')
 | .str a, .str b => decide (a.data.toList = b.data.toList)
 | .niliface, .niliface => true
 | .nilmap, .nilmap => true
 | .nilfunc, .nilfunc => true
 | .mapv i, .mapv j => Nat.beq i j
 | .opq i, .opq j => Nat.beq i j
 | .byte i, .byte j => Nat.beq i j
 | .sint k x, .sint l y => decide (k = l) && x.beq y
 | .yieldf i, .yieldf j => Nat.beq i j
 | .float k a, .float l b => decide (k = l) && Nat.beq a b
 | .sptr i x, .sptr j y => Nat.beq i j && x.beq y
 | .iface t v, .iface u w => Nat.beq t u && sameCell v w
 | .func f cs, .func f' ds => Nat.beq f f' && sameCells cs ds
 | .agg cs, .agg ds => sameCells cs ds
 | .bound f cs, .bound f' ds => Nat.beq f f' && sameCells cs ds
 | .pw i _ _, .pw j _ _ => Nat.beq i j
 | _, _ => false
def sameCells : List AV → List AV → Bool
 | [], [] => true
 | a :: l, b :: m => sameCell a b && sameCells l m
 | _, _ => false
end

mutual
theorem sameCell_ok {e : Env} : ∀ {u v : AV}, sameCell u v = true → ∀ {x y : Value}, VR e u x → VR e v y → x = y
 | u, v, h, x, y, hx, hy => by
  unfold sameCell at h;split at h <;> (first | (cases h; done) | simp only [VR] at hx hy)
  ·rename_i a b;subst hx hy;cases a <;> cases b <;> simp_all
  ·simp only [bae, decide_eq_true_eq] at h; obtain ⟨rfl, rfl⟩ := h; rw [hx, hy]
  ·rw [hx, hy]
  ·simp only [bae] at h;obtain rfl := beq_t h.1;obtain rfl := beq_t h.2;obtain ⟨b, hb, rfl⟩ := hx;obtain ⟨c, hc, rfl⟩ := hy;rw [hb] at hc; cases hc; rfl
  ·rw [hx, hy]
  ·simp only [bae, beq_iff_eq] at h;obtain ⟨⟨⟨⟨h1, h2⟩, h3⟩, h4⟩, rfl⟩ := h;obtain rfl := beq_t h1;obtain rfl := beq_t h2;obtain rfl := beq_t h3;obtain rfl := beq_t h4;obtain ⟨b, hb, rfl⟩ := hx;obtain ⟨c, hc, rfl⟩ := hy;rw [hb] at hc; cases hc; rfl
  ·rename_i a b;simp only [decide_eq_true_eq] at h;have : a = b := by
    cases a; cases b;simp only at h;rw [Array.toList_inj.1 h]
   rw [hx, hy, this]
  ·rw [hx, hy]
  ·rw [hx, hy]
  ·rw [hx, hy]
  ·obtain rfl := beq_t h;obtain ⟨b, hb, rfl⟩ := hx;obtain ⟨c, hc, rfl⟩ := hy;rw [hb] at hc; cases hc; rfl
  ·obtain rfl := beq_t h;rw [hx.1, hy.1]
  ·obtain rfl := beq_t h;obtain ⟨n, rfl, hn⟩ := hx;obtain ⟨m, rfl, hm⟩ := hy;rw [hn] at hm;exact hm
  ·simp only [bae, decide_eq_true_eq] at h;obtain ⟨rfl, h⟩ := h;obtain rfl := E.beq_eq h;rw [hx.1, hy.1]
  ·obtain rfl := beq_t h;obtain ⟨b, hb, rfl⟩ := hx;obtain ⟨c, hc, rfl⟩ := hy;rw [hb] at hc; cases hc; rfl
  ·simp only [bae, decide_eq_true_eq] at h;obtain ⟨rfl, h⟩ := h;obtain rfl := beq_t h;rw [hx, hy]
  ·simp only [bae] at h;obtain rfl := beq_t h.1;obtain rfl := E.beq_eq h.2;obtain ⟨b, hb, rfl⟩ := hx;obtain ⟨c, hc, rfl⟩ := hy;rw [hb] at hc; cases hc; rfl
  ·simp only [bae] at h;obtain rfl := beq_t h.1;obtain ⟨a, rfl, ha⟩ := hx;obtain ⟨b, rfl, hb⟩ := hy;rw [sameCell_ok h.2 ha hb]
  ·simp only [bae] at h;obtain rfl := beq_t h.1;obtain ⟨a, rfl, ha⟩ := hx;obtain ⟨b, rfl, hb⟩ := hy;have := sameCells_ok h.2 ha hb;rw [Array.toList_inj.1 this]
  ·obtain ⟨a, rfl, ha⟩ := hx;obtain ⟨b, rfl, hb⟩ := hy;have := sameCells_ok h ha hb;rw [Array.toList_inj.1 this]
  ·simp only [bae] at h;obtain rfl := beq_t h.1;obtain ⟨a, rfl, ha⟩ := hx;obtain ⟨b, rfl, hb⟩ := hy;have := sameCells_ok h.2 ha hb;rw [Array.toList_inj.1 this]
  ·obtain rfl := beq_t h;rw [hx.1, hy.1]
theorem sameCells_ok {e : Env} : ∀ {u v : List AV}, sameCells u v = true → ∀ {x y : List Value}, VRs e u x → VRs e v y → x = y
 | [], v, h, x, y, hx, hy => by
  cases v with
  | nil => simp only [VRs] at hx hy; rw [hx, hy]
  | cons => simp [sameCells] at h
 | a :: u, v, h, x, y, hx, hy => by
  cases v with
  | nil => simp [sameCells] at h
  | cons b v =>
   simp only [sameCells, bae] at h;simp only [VRs] at hx hy;obtain ⟨p, r, rfl, h1, h2⟩ := hx;obtain ⟨q, t, rfl, h3, h4⟩ := hy;rw [sameCell_ok h.1 h1 h3, sameCells_ok h.2 h2 h4]
end

def isIn (id off : Nat) : List (Nat × Nat) → Bool
 | [] => false
 | (i, o) :: r => (Nat.beq i id && Nat.beq o off) || isIn id off r

theorem isIn_mem {id off : Nat} : ∀ {H : List (Nat × Nat)}, isIn id off H = true → (id, off) ∈ H
 | [], h => by simp [isIn] at h
 | (i, o) :: r, h => by
  simp only [isIn, Bool.or_eq_true, bae] at h;rcases h with ⟨h1, h2⟩ | h
  ·obtain rfl := beq_t h1;obtain rfl := beq_t h2
   simp
  ·exact List.mem_cons_of_mem _ (isIn_mem h)

def heldMem (A : Ask) (s : St) (H : List (Nat × Nat)) : Mem where
 cell id off := match s.heap.get id with
  | some (.ext b) => b.at off
  | some (.cells b) => match isIn id off H with
   | true => b.at off
   | false => none
  | some (.seq q) => match isIn id 0 H with
   | true => q.at off
   | false => none
  | _ => none
 apart _ _ := false
 fact := none
 ask := A
 z := s.zR
 seq id := match s.heap.get id with
  | some (.eseq q) => some q
  | some (.ext b) => b.nums
  | some (.seq q) => match isIn id 0 H with
   | true => some ⟨q.k, q.n, q.x⟩
   | false => none
  | _ => none
 pl := false
 vseq _ := none

theorem PoolIn.le {e e' : Env} (h : e.le e') {w : World} (k : PoolIn e' w) : PoolIn e w := fun j arr hj => k j arr (h.h _ _ hj)
def Held (w0 : Base) (e : Env) (w1 : World) (s0 : St) (H : List (Nat × Nat)) (w : World) : Prop := (Und w0 w ∧ PoolIn e w) ∧ ∀ p ∈ H, ∀ b, e.loc p.1 = some b → match s0.seqR p.1 with
 | some q => ∀ j n, (q.x.s e.opq)[j]? = some n → w.cell? ⟨b, e.base p.1 + j, none⟩ = some (.int q.k n)
 | none => w.cell? ⟨b, p.2, none⟩ = w1.cell? ⟨b, p.2, none⟩

theorem kept_cell {w0 : Base} {w w1 : World} (h : Und w0 w) (h1 : Und w0 w1) {k : Nat} (hk : w0.kept k) (o : Nat) : w.cell? ⟨k, o, none⟩ = w1.cell? ⟨k, o, none⟩ := by
 have := (h.block k hk.1 hk.2).trans (h1.block k hk.1 hk.2).symm;simp only [World.cell?, this]
theorem held_reads {P : Program} {Ω : Om} {w0 : Base} {e e1 : Env} {s : St} {w1 : World} (hr : Rel Ω w0 e s w1) (hle : e.le e1) {A : Ask} (hA : AskOK Ω A) (H : List (Nat × Nat)) : Reads P e1 (heldMem A s H) (Held w0 e w1 s H) where
 cell id off v k := by
  simp only [heldMem] at k;split at k
  ·rename_i b hb;obtain ⟨kk, x, hl, hv, hc⟩ := (hr.reads (P := P)).cell id off v (by simp only [St.mem, St.cellR, hb]; exact k);obtain ⟨k2, hl2, hO⟩ := hr.obj id _ hb;rw [hl] at hl2;cases hl2;exact ⟨kk, x, (hle.loc _ _ hl).1, hv.mono hle, fun w' hw' => by rw [kept_cell hw'.1.1 hr.below hO.1]; exact hc w1 rfl⟩
  ·rename_i b hb;split at k
   ·rename_i hin;obtain ⟨kk, x, hl, hv, hc⟩ := (hr.reads (P := P)).cell id off v (by simp only [St.mem, St.cellR, hb]; exact k);refine ⟨kk, x, (hle.loc _ _ hl).1, hv.mono hle, fun w' hw' => ?_⟩;have := hw'.2 _ (isIn_mem hin) kk hl;simp only [St.seqR, hb] at this;rw [this]; exact hc w1 rfl
   ·cases k
  ·rename_i q hb;split at k
   ·rename_i hin;obtain ⟨kk, hl, _, h0, arr, fz, hrow, hR⟩ := hr.obj id _ hb;obtain ⟨c, h1, h2⟩ := SB.at_ok k hR.n hR.rng;refine ⟨kk, .int q.k c, (hle.loc _ _ hl).1, h2.mono hle, fun w' hw' => ?_⟩;have := hw'.2 _ (isIn_mem hin) kk hl;simp only [St.seqR, hb] at this;have := this off c h1;rw [h0, Nat.zero_add] at this;exact this
   ·cases k
  ·cases k
 apart i j k := by cases k
 fact G hG := by cases hG
 ask := by rw [hle.opq, hr.opq]; exact hA
 pool k := by cases k
 vseq _ _ k := by cases k
 zero id k := by
  have h0 := (hr.reads (P := P)).zero id k;simp only [heldMem, St.zR] at k;split at k
  ·cases k
  ·cases k
  ·rename_i o ho ho2 hno;obtain ⟨kk, hl, _⟩ := hr.obj id o hno;rw [(hle.loc _ _ hl).2.2]; exact h0
  ·cases k
 seq id q k := by
  simp only [heldMem] at k;split at k
  ·rename_i q' hb;simp only [sme] at k;subst k;obtain ⟨kk, hl, hn, hg, hc⟩ := (hr.reads (P := P)).seq id q' (by simp only [St.mem, St.numsR, hb]);obtain ⟨k2, hl2, hO⟩ := hr.obj id _ hb;rw [hl] at hl2;cases hl2;refine ⟨kk, (hle.loc _ _ hl).1, by rw [hle.opq]; exact hn, by rw [hle.opq]; exact hg, fun w' hw' j n hj => ?_⟩;rw [hle.opq] at hj;rw [(hle.loc _ _ hl).2.2, kept_cell hw'.1.1 hr.below hO.1];exact hc w1 rfl j n hj
  ·rename_i b hb;obtain ⟨kk, hl, hn, hg, hc⟩ := (hr.reads (P := P)).seq id q (by simp only [St.mem, St.numsR, hb]; exact k);obtain ⟨k2, hl2, hO⟩ := hr.obj id _ hb;rw [hl] at hl2;cases hl2;refine ⟨kk, (hle.loc _ _ hl).1, by rw [hle.opq]; exact hn, by rw [hle.opq]; exact hg, fun w' hw' j n hj => ?_⟩;rw [hle.opq] at hj;rw [(hle.loc _ _ hl).2.2, kept_cell hw'.1.1 hr.below hO.1];exact hc w1 rfl j n hj
  ·rename_i q' hb;split at k
   ·rename_i hin;simp only [sme] at k;subst k;obtain ⟨b, hb2, hn, hg, hc⟩ := (hr.reads (P := P)).seq id ⟨q'.k, q'.n, q'.x⟩ (by simp only [St.mem, St.numsR, hb]);refine ⟨b, (hle.loc _ _ hb2).1, by rw [hle.opq]; exact hn, by rw [hle.opq]; exact hg, fun w' hw' j n hj => ?_⟩;have := hw'.2 _ (isIn_mem hin) b hb2;simp only [St.seqR, hb] at this;rw [(hle.loc _ _ hb2).2.2];rw [hle.opq] at hj;exact this j n hj
   ·cases k
  ·cases k

theorem St.seqR_nums {s : St} {id : Nat} {q : SQ} (h : s.seqR id = some q) : s.numsR id = some q := by
 unfold St.seqR at h;unfold St.numsR;split at h
 ·rename_i c hc; rw [hc]; exact h
 ·rename_i c hc; rw [hc]; exact h
 ·cases h

def sameCellA (A : Ask) : AV → AV → Bool
 | .sslice i o l c b, .sslice i' o' l' c' b' => Nat.beq i i' && o.beq o' && l.beq l' && c.beq c' && (b == b') && leB A (.int 1) c
 | u, v => sameCell u v
theorem sameCellA_ok {e : Env} {A : Ask} (hA : AskOK e.opq A) {u v : AV} (h : sameCellA A u v = true) {x y : Value} (hx : VR e u x) (hy : VR e v y) : x = y := by
 unfold sameCellA at h;split at h
 ·simp only [bae, beq_iff_eq] at h;obtain ⟨⟨⟨⟨⟨h1, h2⟩, h3⟩, h4⟩, rfl⟩, h6⟩ := h;obtain rfl := beq_t h1;obtain rfl := E.beq_eq h2;obtain rfl := E.beq_eq h3;obtain rfl := E.beq_eq h4;have h6 := leB_val hA h6;simp only [VR] at hx hy;obtain ⟨b1, p1, l1, rfl, q1, _⟩ := hx;obtain ⟨b2, p2, l2, rfl, q2, _⟩ := hy;rw [l1] at l2;obtain rfl := Option.some.inj l2;rw [q1 (by simp only [E.n, D.nat]; simp only [E.i, E.den, D.toInt_int] at h6; omega), q2 (by simp only [E.n, D.nat]; simp only [E.i, E.den, D.toInt_int] at h6; omega)]
 ·exact sameCell_ok h hx hy

def keeps (A : Ask) (s0 s : St) : List (Nat × Nat) → Bool
 | [] => true
 | (i, o) :: r => match s0.seqR i with
  | some q => match s.seqR i with
   | some q' => decide (q.k = q'.k) && q.x.beq q'.x && keeps A s0 s r
   | none => false
  | none => match s0.mem.cell i o, s.mem.cell i o with
   | some u, some v => sameCellA A u v && keeps A s0 s r
   | _, _ => false

theorem keeps_ok {Ω : Om} {A : Ask} (hA : AskOK Ω A) {w0 : Base} {e e1 : Env} {s0 s : St} {w1 w : World} (h0 : Rel Ω w0 e s0 w1) (h1 : Rel Ω w0 e1 s w) (hle : e.le e1) (H : List (Nat × Nat)) (k : keeps A s0 s H = true) : Held w0 e w1 s0 H w := by
 refine ⟨⟨h1.below, PoolIn.le hle h1.pool⟩, ?_⟩;induction H with
 | nil => intro p hp; cases hp
 | cons q0 r ih =>
  obtain ⟨i, o⟩ := q0;intro p hp b hb;simp only [keeps] at k;split at k
  ·rename_i q hq;split at k
   ·rename_i q' hq';simp only [bae, decide_eq_true_eq] at k;obtain ⟨⟨k1, k2⟩, k3⟩ := k;have k2 := E.beq_eq k2;rcases List.mem_cons.1 hp with rfl | hp
    ·simp only [hq];obtain ⟨b2, l2, _, _, c2⟩ := (h1.reads (P := default)).seq _ _ (St.seqR_nums hq');simp only at hb;obtain rfl : b2 = b := by rw [(hle.loc _ _ hb).1] at l2; exact (Option.some.inj l2).symm
     intro j n hj;have := c2 w rfl j n (by rw [← k2, hle.opq]; exact hj);rw [(hle.loc _ _ hb).2.2] at this;rw [this, k1]
    ·exact ih k3 p hp b hb
   ·cases k
  ·rename_i hq;split at k
   ·rename_i u v hu hv;simp only [bae] at k;rcases List.mem_cons.1 hp with rfl | hp
    ·simp only [hq];obtain ⟨b1, x, l1, v1, c1⟩ := (h0.reads (P := default)).cell _ _ _ hu;obtain ⟨b2, y, l2, v2, c2⟩ := (h1.reads (P := default)).cell _ _ _ hv;simp only at hb;obtain rfl : b1 = b := by rw [hb] at l1; exact (Option.some.inj l1).symm
     obtain rfl : b2 = b1 := by rw [(hle.loc _ _ hb).1] at l2; exact (Option.some.inj l2).symm
     rw [c1 w1 rfl, c2 w rfl, sameCellA_ok (by rw [h1.opq]; exact hA) k.1 (v1.mono hle) v2]
    ·exact ih k.2 p hp b hb
   ·cases k

theorem held_start {Ω : Om} {w0 : Base} {e : Env} {s : St} {w : World} (hr : Rel Ω w0 e s w) (H : List (Nat × Nat)) : Held w0 e w s H w := by
 refine ⟨⟨hr.below, hr.pool⟩, fun p _ b hb => ?_⟩;split
 ·rename_i q hq;obtain ⟨b2, l2, _, _, c2⟩ := (hr.reads (P := default)).seq _ _ (St.seqR_nums hq);obtain rfl : b2 = b := by rw [hb] at l2; exact (Option.some.inj l2).symm
  exact c2 w rfl
 ·rfl

section
variable {P : Program} {ops : Array Oper} {Q : Exit → Act → World → Prop} {S : Array Bool → World → Prop} {N : Nat}

abbrev wpOpW (N : Nat) (P : Program) (ops : Array Oper) (Q : Exit → Act → World → Prop) (i : Nat) (K : Act → World → Prop) (a : Act) (w : World) : Prop := wpOpIn (Fof none) N P ops Q i K a w

theorem yieldsIf_wpOpW {M : World → Prop} {i : Nat} {o : Oper} {v : Value} {a : Act} (hi : ops[i]? = some o) (hy : YieldsIf P ops M o v a)
  {K : Act → World → Prop} {w : World} (hS : M w) (h : K (a.put o.dst v) w) : wpOpW N P ops Q i K a w := by
 unfold wpOpW wpOpIn;simp only [hi];rcases hy with ⟨hw, hv⟩ | ⟨hw, rfl⟩
 ·simp only [hw, if_true];refine ⟨fun f _ => Fof_fn none f, ?_⟩;rw [okIn_sem (r := none) rfl, hv w hS];exact h
 ·simp only [hw, Bool.false_eq_true, if_false]; exact ⟨fun f _ => Fof_fn none f, h⟩

theorem wpOpW_putIf {M : World → Prop} {j : Nat} {oi oj : Oper} {v : Value} (hj : ops[j]? = some oj) (hap : oi.apart ops oj = true)
  (hsi : ∀ cs b, oi.op ≠ .select cs b) (hsj : ∀ cs b, oj.op ≠ .select cs b)
  (hQ : ∀ c a w, Q (.panic c) (a.put oi.dst v) w → Q (.panic c) a w) {K : Act → World → Prop} {a : Act} {w : World}
  (hy : YieldsIf P ops M oi v a) (h : wpOpW N P ops Q j K (a.put oi.dst v) w) :
  wpOpW N P ops Q j (fun a' w' => YieldsIf P ops M oi v a' ∧ K (a'.put oi.dst v) w') a w := by
 obtain ⟨h1, h2, h3⟩ := Oper.apart_spec hap;have keep : ∀ (a : Act), YieldsIf P ops M oi v a → ∀ u, YieldsIf P ops M oi v (a.put oj.dst u) := fun a hy u =>
  hy.of_same (execOp_put oi hsi a oj.dst u h3) (wanted_put oi a oj.dst u h3)
 have keepD : ∀ d, YieldsIf P ops M oi v { a with defers := d :: a.defers } := fun d => hy.of_same rfl rfl
 unfold wpOpW wpOpIn at *;simp only [hj] at *;rw [wanted_put oj a oi.dst v h1] at h;split
 ·rename_i hw;simp only [hw, if_true] at h;unfold Oper.wpIn at *;refine ⟨fun f _ => Fof_fn none f, ?_⟩;have h := h.2;rw [okIn_sem (r := none) rfl, execOp_put oj hsj a oi.dst v h1] at h;rw [okIn_sem (r := none) rfl];generalize (execOp a.eval oj).run P w = r at *;cases r with
  | ok x w' =>
   cases x <;> simp only [Oper.uponIn] at h ⊢
   case value u => exact ⟨keep a hy u, by rw [← Act.put_comm a v u h2]; exact h⟩
   case skip => exact ⟨keep a hy _, by rw [← Act.put_comm a v undef h2]; exact h⟩
   case defer d =>
    refine ⟨keep _ (keepD d) _, ?_⟩;rw [← Act.put_comm _ v undef h2, ← Act.put_defers];exact h
   case enter f args =>
    refine ⟨h.1, CallsIn.mono h.2 fun e w'' he => ?_⟩;cases e with
    | returned u => exact ⟨keep a hy u, by rw [← Act.put_comm a v u h2]; exact he⟩
    | panicked c => exact hQ _ _ _ he
    | outgrown => exact he
   case row row args => exact ⟨h.1, RowsIn.mono h.2 fun u w'' he => ⟨keep a hy u, by rw [← Act.put_comm a v u h2]; exact he⟩⟩
   case round l f tmps assign body =>
    refine ⟨h.1, RoundIn.mono h.2 fun e w'' he => ?_⟩;cases e with
    | returned u => exact ⟨keep a hy u, by rw [← Act.put_comm a v u h2]; exact he⟩
    | panicked c => exact hQ _ _ _ he
    | outgrown => exact he
  | halt x w' =>
   cases x <;> simp only [Oper.uponIn] at h ⊢
   case panic u => exact hQ _ _ _ h
 ·rename_i hw;simp only [hw] at h;exact ⟨fun f _ => Fof_fn none f, keep a hy _, by rw [← Act.put_comm a v undef h2]; exact h.2⟩

def wpAnyD (N : Nat) (P : Program) (ops : Array Oper) (Q : Exit → Act → World → Prop) (S : Array Bool → World → Prop) : Nat → Array Bool → Act → World → Prop
 | 0, listed, a, w => Region.ready .any ops listed = [] ∧ Q .normal a w
 | fuel + 1, listed, a, w =>
  (Region.ready .any ops listed = [] → Q .normal a w) ∧
  ∀ i ∈ Region.ready .any ops listed, wpOpW N P ops Q i (fun a' w' => S (listed.setIfInBounds i true) w' ∧ wpAnyD N P ops Q S fuel (listed.setIfInBounds i true) a' w') a w

theorem wpAny_of_D : ∀ (fuel : Nat) (listed : Array Bool) (a : Act) (w : World), wpAnyD N P ops Q S fuel listed a w → wpAnyIn (Fof none) N P .any ops Q fuel listed a w
 | 0, _, _, _, h => h
 | fuel + 1, _, _, _, h => ⟨h.1, fun i hi => wpOpIn_mono (fun a' w' h' => wpAny_of_D fuel _ a' w' h'.2) (h.2 i hi)⟩

theorem wpAnyD_first {i : Nat} {oi : Oper} {v : Value} (hi : ops[i]? = some oi) (hsel : ∀ (j : Nat) (o : Oper) cs b, ops[j]? = some o → o.op ≠ .select cs b)
  (hQ : ∀ c a w, Q (.panic c) (a.put oi.dst v) w → Q (.panic c) a w) (M : World → Prop) (good : Array Bool → Prop)
  (hstep : ∀ L j, good L → L.getD i true = false → j ∈ Region.ready .any ops L → j ≠ i → good (L.setIfInBounds j true))
  (hM : ∀ L w, good L → S L w → M w) (hup : ∀ L w, S L w → S (L.setIfInBounds i true) w) (hdn : ∀ L w, S (L.setIfInBounds i true) w → S L w) :
  ∀ (fuel : Nat) (listed : Array Bool) (a : Act) (w : World), good listed →
   (∀ j oj, ops[j]? = some oj → j ≠ i → listed.getD j true = false → (∀ e ∈ oj.after, Region.binds .any e = true → e.on ≠ i) → oi.apart ops oj = true) →
   i ∈ Region.ready .any ops listed → YieldsIf P ops M oi v a → S listed w →
   wpAnyD N P ops Q S fuel (listed.setIfInBounds i true) (a.put oi.dst v) w → wpAnyD N P ops Q S (fuel + 1) listed a w := by
 intro fuel;induction fuel with
 | zero =>
  intro listed a w hg _ hr hy hS H;refine ⟨fun h => (by rw [h] at hr; cases hr), fun j hj => ?_⟩;by_cases hji : j = i
  ·subst hji; exact yieldsIf_wpOpW hi hy (hM _ _ hg hS) ⟨hup _ _ hS, H⟩
  ·have := ready_mono hj hji;rw [H.1] at this;cases this
 | succ fuel ih =>
  intro listed a w hg hfree hr hy hS H;refine ⟨fun h => (by rw [h] at hr; cases hr), fun j hj => ?_⟩;by_cases hji : j = i
  ·subst hji; exact yieldsIf_wpOpW hi hy (hM _ _ hg hS) ⟨hup _ _ hS, H⟩
  ·have h1 := H.2 j (ready_mono hj hji);obtain ⟨hjun, oj, hoj, hall⟩ := mem_ready.1 hj;have hnot : ∀ e ∈ oj.after, Region.binds .any e = true → e.on ≠ i := fun e he hb heq => by
    have h1 := hall e he hb;have h0 := (mem_ready.1 hr).1;rw [heq] at h1;rcases Nat.lt_or_ge i listed.size with h' | h'
    ·simp [h'] at h0 h1; rw [h0] at h1; cases h1
    ·simp [Array.getElem?_eq_none h'] at h1
   have h2 := wpOpW_putIf hoj (hfree j oj hoj hji hjun hnot) (fun cs b => hsel i oi cs b hi) (fun cs b => hsel j oj cs b hoj) hQ hy h1;have hfree' : ∀ k ok, ops[k]? = some ok → k ≠ i → (listed.setIfInBounds j true).getD k true = false →
     (∀ e ∈ ok.after, Region.binds .any e = true → e.on ≠ i) → oi.apart ops ok = true := fun k ok hk hki hun hno => by
    refine hfree k ok hk hki ?_ hno;by_cases hjk : j = k
    ·subst hjk; exact hjun
    ·rw [getD_set_ne true hjk] at hun; exact hun
   refine wpOpIn_mono (fun a' w' h3 => ?_) h2;have hcomm := Array.setIfInBounds_comm (xs := listed) true true (Ne.symm hji);have hS' : S (listed.setIfInBounds j true) w' := hdn _ _ (by rw [Array.setIfInBounds_comm _ _ hji]; exact h3.2.1);refine ⟨hS', ih (listed.setIfInBounds j true) a' w' (hstep _ _ hg (mem_ready.1 hr).1 hj hji) hfree' (ready_mono hr (Ne.symm hji)) h3.1 hS' ?_⟩;rw [Array.setIfInBounds_comm _ _ hji];exact h3.2.2

theorem wpAnyD_all {rs : List Nat} {fuel : Nat} {listed : Array Bool} {a : Act} {w : World} (hr : Region.ready .any ops listed = rs) (hne : rs ≠ [])
  (h : ∀ i ∈ rs, wpOpW N P ops Q i (fun a' w' => S (listed.setIfInBounds i true) w' ∧ wpAnyD N P ops Q S fuel (listed.setIfInBounds i true) a' w') a w) : wpAnyD N P ops Q S (fuel + 1) listed a w :=
 ⟨fun h0 => absurd (hr ▸ h0) hne, hr ▸ h⟩

theorem wpAnyD_done {listed : Array Bool} {a : Act} {w : World} (hr : Region.ready .any ops listed = []) (h : Q .normal a w) : ∀ fuel, wpAnyD N P ops Q S fuel listed a w
 | 0 => ⟨hr, h⟩
 | _ + 1 => ⟨fun _ => h, by rw [hr]; simp⟩
end

def isNum (i : Nat) : List Nat → Bool
 | [] => false
 | j :: r => Nat.beq i j || isNum i r

theorem isNum_mem {i : Nat} : ∀ {l : List Nat}, isNum i l = true → i ∈ l
 | [], h => by cases h
 | j :: r, h => by
  simp only [isNum, Bool.or_eq_true] at h;rcases h with h | h
  ·rw [beq_t h]; simp
  ·exact List.mem_cons_of_mem _ (isNum_mem h)

def waiters (ops : Array Oper) (i : Nat) : Nat → Nat → List Nat → List Nat
 | 0, _, acc => acc
 | n + 1, k, acc => waiters ops i n (k + 1) (match ops[k]? with
  | some o => match o.after.any fun e => Region.binds .any e && (Nat.beq e.on i || isNum e.on acc) with
   | true => k :: acc
   | false => acc
  | none => acc)

def blocked (ops : Array Oper) (i : Nat) (E : List Nat) : Bool := E.all fun d => !Nat.beq d i && match ops[d]? with
 | some o => o.after.any fun e => Region.binds .any e && (Nat.beq e.on i || isNum e.on E)
 | none => false

def unlisted (listed : Array Bool) (E : List Nat) : Bool := E.all fun d => !listed.getD d false

theorem unlisted_mem {listed : Array Bool} {E : List Nat} (h : unlisted listed E = true) {d : Nat} (hd : d ∈ E) : listed.getD d false = false := by
 have := List.all_eq_true.1 h d hd;simpa using this

theorem blocked_step {ops : Array Oper} {i : Nat} {E : List Nat} (h : blocked ops i E = true) (L : Array Bool) (j : Nat) (hg : unlisted L E = true) (hi : L.getD i true = false) (hj : j ∈ Region.ready .any ops L) : unlisted (L.setIfInBounds j true) E = true := by
 have hjE : j ∉ E := by
  intro hjE;have hb := List.all_eq_true.1 h j hjE;simp only [bae] at hb;obtain ⟨_, oj, hoj, hall⟩ := mem_ready.1 hj;rw [hoj] at hb;obtain ⟨e, he, hbe⟩ := Array.any_eq_true'.1 hb.2;simp only [bae, Bool.or_eq_true] at hbe;have hl := hall e he hbe.1;rcases hbe.2 with h1 | h1
  ·have h1 := beq_t h1;rw [h1] at hl;rcases Nat.lt_or_ge i L.size with h' | h'
   ·simp [h'] at hi hl; rw [hi] at hl; cases hl
   ·simp [Array.getElem?_eq_none h'] at hl
  ·rw [unlisted_mem hg (isNum_mem h1)] at hl;cases hl
 refine List.all_eq_true.2 fun d hd => ?_
 have hne : j ≠ d := fun x => hjE (x ▸ hd)
 rw [getD_set_ne false hne];have := unlisted_mem hg hd;simp [this]

def noMem (A : Ask) : Mem := ⟨fun _ _ => none, fun _ _ => false, none, A, fun _ => false, fun _ => none, false, fun _ => none⟩
theorem noMem_reads (P : Program) (e : Env) {A : Ask} (hA : AskOK e.opq A) : Reads P e (noMem A) (fun _ => True) where
 cell _ _ _ k := by cases k
 apart _ _ k := by cases k
 fact _ k := by cases k
 ask := hA
 zero _ k := by cases k
 seq _ _ k := by cases k
 pool k := by cases k
 vseq _ _ k := by cases k

def HeldD (w0 : Base) (e : Env) (w1 : World) (s0 : St) (H : List (Nat × Nat)) (D : List Nat) (listed : Array Bool) (w : World) : Prop := (Und w0 w ∧ PoolIn e w) ∧ (unlisted listed D = true → Held w0 e w1 s0 H w)

theorem unlisted_set {listed : Array Bool} {D : List Nat} {i : Nat} (h : isNum i D = false) : unlisted (listed.setIfInBounds i true) D = unlisted listed D := by
 unfold unlisted;induction D with
 | nil => rfl
 | cons d D ih =>
  simp only [isNum, Bool.or_eq_false_iff] at h;simp only [List.all_cons];rw [ih h.2, getD_set_ne false (beq_f h.1)]

theorem unlisted_down {listed : Array Bool} {D : List Nat} {i : Nat} (h : unlisted (listed.setIfInBounds i true) D = true) : unlisted listed D = true := by
 refine List.all_eq_true.2 fun d hd => ?_
 have := unlisted_mem h hd;cases hl : listed.getD d false with
 | false => rfl
 | true => rw [getD_set_true hl] at this; cases this

def takeOne (P : Program) (ops : Array Oper) (m : Mem) (D : List Nat) (fr : Fr) (listed : Array Bool) : List Nat → Option (Nat × Oper × AV)
 | [] => none
 | i :: rs => match ops[i]? with
  | some o => match Region.free .any ops listed i && !isNum i D with
   | true => match wantedA ops fr.t o with
    | some false => some (i, o, undefA)
    | some true => match quietA P (noMem m.ask) fr.t o with
     | some v => some (i, o, v)
     | none => match quietA P m fr.t o with
      | some v => match (let E := waiters ops i ops.size 0 []; blocked ops i E && unlisted listed E && D.all (isNum · E)) with
       | true => some (i, o, v)
       | false => takeOne P ops m D fr listed rs
      | none => takeOne P ops m D fr listed rs
    | none => takeOne P ops m D fr listed rs
   | false => takeOne P ops m D fr listed rs
  | none => takeOne P ops m D fr listed rs

theorem takeOne_ok {P : Program} {ops : Array Oper} {m : Mem} {D : List Nat} {fr : Fr} {listed : Array Bool} {i : Nat} {o : Oper} {v : AV} : ∀ (l : List Nat), takeOne P ops m D fr listed l = some (i, o, v) →
  i ∈ l ∧ ops[i]? = some o ∧ Region.free .any ops listed i = true ∧ isNum i D = false ∧ ((wantedA ops fr.t o = some false ∧ v = undefA) ∨ (wantedA ops fr.t o = some true ∧ quietA P (noMem m.ask) fr.t o = some v) ∨
   (wantedA ops fr.t o = some true ∧ quietA P m fr.t o = some v ∧ ∃ E, blocked ops i E = true ∧ unlisted listed E = true ∧ D.all (isNum · E) = true))
 | [], k => by cases k
 | j :: l, k => by
  have onward : takeOne P ops m D fr listed l = some (i, o, v) → i ∈ j :: l ∧ ops[i]? = some o ∧ Region.free .any ops listed i = true ∧ isNum i D = false ∧ ((wantedA ops fr.t o = some false ∧ v = undefA) ∨ (wantedA ops fr.t o = some true ∧ quietA P (noMem m.ask) fr.t o = some v) ∨
   (wantedA ops fr.t o = some true ∧ quietA P m fr.t o = some v ∧ ∃ E, blocked ops i E = true ∧ unlisted listed E = true ∧ D.all (isNum · E) = true)) :=
   fun k => let ⟨h1, h2⟩ := takeOne_ok l k; ⟨List.mem_cons_of_mem _ h1, h2⟩
  unfold takeOne at k;split at k
  ·rename_i o' ho;split at k
   ·rename_i hfree;simp only [bae, Bool.not_eq_true'] at hfree;split at k
    ·rename_i hw;simp only [sme, pme] at k;obtain ⟨rfl, rfl, rfl⟩ := k;exact ⟨by simp, ho, hfree.1, hfree.2, .inl ⟨hw, rfl⟩⟩
    ·rename_i hw;split at k
     ·rename_i u hu;simp only [sme, pme] at k;obtain ⟨rfl, rfl, rfl⟩ := k;exact ⟨by simp, ho, hfree.1, hfree.2, .inr (.inl ⟨hw, hu⟩)⟩
     ·split at k
      ·rename_i u hu;split at k
       ·rename_i hb;simp only [bae] at hb;simp only [sme, pme] at k;obtain ⟨rfl, rfl, rfl⟩ := k;exact ⟨by simp, ho, hfree.1, hfree.2, .inr (.inr ⟨hw, hu, _, hb.1.1, hb.1.2, hb.2⟩)⟩
       ·exact onward k
      ·exact onward k
    ·exact onward k
   ·exact onward k
  ·exact onward k

def keepsD (A : Ask) (s0 s : St) (H : List (Nat × Nat)) (D : List Nat) (listed : Array Bool) : Bool :=
 match unlisted listed D with
 | true => keeps A s0 s H
 | false => true

def rangeOf (id : Nat) : Nat → Nat → List (Nat × Nat)
 | _, 0 => []
 | off, n + 1 => (id, off) :: rangeOf id (off + 1) n

def dryH (P : Program) (F : Facts) (s : St) (ops : Array Oper) (listed : Array Bool) : Nat → List Oper → T AV → List (Nat × Nat) × List Nat
 | _, [], _ => ([], [])
 | k, o :: rest, t => match listed.getD k false with
  | true => dryH P F s ops listed (k + 1) rest t
  | false => match wantedA ops t o with
  | some false => match o.dst with
   | some d => dryH P F s ops listed (k + 1) rest (t.put d (some undefA))
   | none => dryH P F s ops listed (k + 1) rest t
  | _ => match quietA P (s.memF F) t o with
   | some v =>
    let r := match o.dst with
     | some d => dryH P F s ops listed (k + 1) rest (t.put d (some v))
     | none => dryH P F s ops listed (k + 1) rest t
    match o.op with
    | .load ty x => match evalO t x, P.info? ty with
     | some (.ptr i off), some inf => match s.heap.get i with
      | some (.ext _) => r
      | some (.cells _) => (rangeOf i off inf.size ++ r.1, k :: r.2)
      | _ => ((i, 0) :: r.1, k :: r.2)
     | some (.sptr i _), some inf => match s.heap.get i with
      | some (.ext _) => r
      | some (.eseq _) => r
      | some (.peq _) => r
      | some (.cells b) => (rangeOf i 0 b.size ++ r.1, k :: r.2)
      | _ => ((i, 0) :: r.1, k :: r.2)
     | _, _ => r
    | .convert _ _ x => match evalO t x with
     | some (.slice i off len _ _) => match s.heap.get i with
      | some (.ext _) => r
      | some (.cells _) => (rangeOf i off len ++ r.1, k :: r.2)
      | _ => ((i, 0) :: r.1, k :: r.2)
     | some (.sslice i _ _ _ _) => match s.heap.get i with
      | some (.ext _) => r
      | some (.eseq _) => r
      | some (.peq _) => r
      | _ => ((i, 0) :: r.1, k :: r.2)
     | _ => r
    | _ => r
   | none => match o.dst with
    | some d => dryH P F s ops listed (k + 1) rest (t.put d none)
    | none => dryH P F s ops listed (k + 1) rest t

def allWait (ops : Array Oper) : List Nat → List Nat
 | [] => []
 | [i] => waiters ops i ops.size 0 []
 | i :: r => (allWait ops r).filter (isNum · (waiters ops i ops.size 0 []))

def actsOp : Op → Bool
 | .store .. => true
 | .call .. => true
 | .alloc .. => true
 | .box .. => true
 | .buildSlice .. => true
 | .makeSlice .. => true
 | _ => false

def lateD (ops : Array Oper) (l : List Nat) : List Nat := (allWait ops l).filter fun i => match ops[i]? with
 | some o => actsOp o.op
 | none => false

def overB (H : List (Nat × Nat)) (D : List Nat) (listed : Array Bool) : Bool := (match H with | [] => true | _ => false) || !unlisted listed D

def likeD (g : Nat → Nat) : List DF → List DF → Bool
 | [], [] => true
 | .fn f cs as :: l, .fn f' cs' as' :: m => Nat.beq f f' && AV.likeL g cs cs' && AV.likeL g as as' && likeD g l m
 | .mark i :: l, .mark j :: m => Nat.beq i (g j) && likeD g l m
 | _, _ => false
theorem likeD_ok {g : Nat → Nat} {e e' : Env} (H : LikeE g e e') : ∀ {l m : List DF}, likeD g l m = true → ∀ {ds : List Deferred}, DfR e l ds → DfR e' m ds
 | [], m, h, ds, hd => by
  cases m with
  | nil => exact hd
  | cons => simp [likeD] at h
 | .fn f cs as :: l, m, h, ds, hd => by
  cases m with
  | nil => simp [likeD] at h
  | cons y m =>
   cases y with
   | mark => simp [likeD] at h
   | fn f' cs' as' =>
    simp only [likeD, bae] at h;obtain ⟨xs, ys, rest, rfl, h1, h2, h3⟩ := hd;exact ⟨xs, ys, rest, by rw [beq_t h.1.1.1], likeL_vr H _ _ h.1.1.2 h1, likeL_vr H _ _ h.1.2 h2, likeD_ok H h.2 h3⟩
 | .mark i :: l, m, h, ds, hd => by
  cases m with
  | nil => simp [likeD] at h
  | cons y m =>
   cases y with
   | fn => simp [likeD] at h
   | mark j =>
    simp only [likeD, bae] at h;obtain ⟨b, rest, hb, rfl, h3⟩ := hd;rw [beq_t h.1] at hb;exact ⟨b, rest, H.loc _ _ hb, rfl, likeD_ok H h.2 h3⟩
def likeT (g : Nat → Nat) (tB tA : T AV) : Bool := T.allF (fun i v => match tB.get i with
 | some u => AV.likeG g u v
 | none => false) (fun i => i) tA
def likeR (n : Nat) (tB tA : Trace) (frB frA : Fr) (sB sA : St) : Bool :=
 likeS n tB tA sB sA && Nat.beq frB.n frA.n && likeT (nameG n sA.next tA tB) frB.t frA.t && likeD (nameG n sA.next tA tB) frB.defers frA.defers
theorem likeFr_ok {g : Nat → Nat} {e e' : Env} (H : LikeE g e e') {frB frA : Fr} (h1 : frB.n = frA.n) (h2 : likeT g frB.t frA.t = true) (h3 : likeD g frB.defers frA.defers = true) {a : Act} (hf : FrR e frB a) : FrR e' frA a := by
 refine ⟨by rw [← h1]; exact hf.size, fun i v hv => ?_, likeD_ok H h3 hf.df⟩;have := T.allF_get h2 i v hv;split at this
 ·rename_i u hu;obtain ⟨x, hx, hvr⟩ := hf.ft i u hu;exact ⟨x, hx, likeG_vr H _ _ this hvr⟩
 ·cases this

theorem likeR_ok {n : Nat} {tB tA : Trace} {frB frA : Fr} {sB sA : St} (h : likeR n tB tA frB frA sB sA = true) {Ω : Om} {w0 : Base} {e1 eb : Env} (hbe : eb.le e1) (hfr : ∀ m, n ≤ m → e1.loc (2 * m + 1) = none) {ex : Exit} {a : Act} {w : World} (hp : CodePost Ω w0 e1 .normal frB sB ex a w) : CodePost Ω w0 eb .normal frA sA ex a w := by
 unfold likeR at h;simp only [bae] at h;obtain ⟨⟨⟨h1, h2⟩, h3⟩, h4⟩ := h;obtain ⟨eB, g1, g2, g3, g4⟩ := hp;obtain ⟨q1, q2⟩ := likeS_ok h1 g1 hfr g2;refine ⟨_, Env.le_trans hbe q1, q2, ?_, ?_⟩
 ·cases ex <;> first | exact g3.elim | trivial
 ·exact likeFr_ok (named_like eB n sA.next tA tB) (beq_t h2) h3 h4 g4

inductive AR where
 | go (fr : Fr) (s : St)
 | pan (c : List (AV × Bool)) (s : St)
def actOne (P : Program) (F : Facts) (call : Caller) (rnd : Rounder) (ops : Array Oper) (s0 : St) (H : List (Nat × Nat)) (D : List Nat) (listed : Array Bool) (fr : Fr) (s : St) (i : Nat) : Option AR :=
 match ops[i]? with
 | none => none
 | some o => match wantedA ops fr.t o with
  | some false => match putA fr o.dst undefA with
   | some fr' => some (.go fr' s)
   | none => none
  | some true => match quietA P (s.memF F) fr.t o with
   | some v => match putA fr o.dst v with
    | some fr' => some (.go fr' s)
    | none => none
   | none => match actB P F.ask call fr.t s o with
    | some (.val v s') => match putA fr o.dst v, keepsD F.ask s0 s' H D (listed.setIfInBounds i true) with
     | some fr', true => some (.go fr' s')
     | _, _ => none
    | some (.skip s') => match putA fr o.dst undefA, keepsD F.ask s0 s' H D (listed.setIfInBounds i true) with
     | some fr', true => some (.go fr' s')
     | _, _ => none
    | some (.pan c s') => some (.pan c s')
    | some _ => none
    | none => match yieldOp rnd fr.t s o with
     | some (b, s') => match putA fr o.dst (.bool b), keepsD F.ask s0 s' H D (listed.setIfInBounds i true) with
      | some fr', true => some (.go fr' s')
      | _, _ => none
     | none => none
  | none => none

def traced (i : Nat) (s s' : St) (t : Trace) : Trace := match Nat.beq s.next s'.next with
 | true => t
 | false => (i, s.next, s'.next - s.next) :: t

def anyRun (P : Program) (F : Facts) (call : Caller) (rnd : Rounder) (ops : Array Oper) (s0 : St) (H : List (Nat × Nat)) (D : List Nat) : Nat → Array Bool → Fr → St → Option (X × Fr × St × Trace)
 | n, listed, fr, s => match Region.ready .any ops listed with
  | [] => some (.normal, fr, s, [])
  | i0 :: rs => match n with
   | 0 => none
   | n + 1 => match takeOne P ops (heldMem F.ask s0 H) D fr listed (i0 :: rs) with
    | some (i, o, v) => match putA fr o.dst v with
     | some fr' => anyRun P F call rnd ops s0 H D n (listed.setIfInBounds i true) fr' s
     | none => none
    | none => match rs with
     | [] => match actOne P F call rnd ops s0 H D listed fr s i0 with
      | some (.go fr' s') => match anyRun P F call rnd ops s0 H D n (listed.setIfInBounds i0 true) fr' s' with
       | some (x, frA, sA, tA) => some (x, frA, sA, traced i0 s s' tA)
       | none => none
      | some (.pan c s') => some (.panic c, fr, s', [])
      | none => none
     | _ => match (match overB H D listed with
       | true => match dryH P F s ops listed 0 ops.toList fr.t with
        | (H2, l2) => match takeOne P ops (heldMem F.ask s H2) (lateD ops l2) fr listed (i0 :: rs) with
         | some (i, o, v) => match putA fr o.dst v with
          | some fr' => anyRun P F call rnd ops s H2 (lateD ops l2) n (listed.setIfInBounds i true) fr' s
          | none => none
         | none => none
       | false => none) with
      | some r => some r
      | none => match actOne P F call rnd ops s0 H D listed fr s i0 with
       | some (.go frA0 sA0) => match anyRun P F call rnd ops s0 H D n (listed.setIfInBounds i0 true) frA0 sA0 with
        | some (.normal, frA, sA, tA) => match rs.all fun i => match actOne P F call rnd ops s0 H D listed fr s i with
          | some (.go frB0 sB0) => match anyRun P F call rnd ops s0 H D n (listed.setIfInBounds i true) frB0 sB0 with
           | some (.normal, frB, sB, tB) => likeR s.next (traced i s sB0 tB) (traced i0 s sA0 tA) frB frA sB sA
           | _ => false
          | _ => false with
         | true => some (.normal, frA, sA, traced i0 s sA0 tA)
         | false => none
        | _ => none
       | _ => none

theorem wpOpW_monoQ {P : Program} {N : Nat} {ops : Array Oper} {Q Q' : Exit → Act → World → Prop} (hQ : ∀ ex a w, Q ex a w → Q' ex a w) {i : Nat} {K : Act → World → Prop} {a : Act} {w : World} (h : wpOpW N P ops Q i K a w) : wpOpW N P ops Q' i K a w := by
 unfold wpOpW wpOpIn at *;cases ho : ops[i]? with
 | none => simp only [ho] at h ⊢; exact h
 | some o =>
  simp only [ho] at h ⊢;split at h
  ·rename_i hw;rw [if_pos hw];refine ⟨h.1, ?_⟩;have h := h.2;generalize (o.semAt (Fof none).round a.eval).run P w = r at h ⊢;cases r with
   | ok x w' =>
    cases x <;> simp only [Oper.uponIn] at h ⊢ <;> first
     | exact h
     | exact ⟨h.1, CallsIn.mono h.2 (fun e w'' he => by
       cases e with
       | returned u => exact he
       | panicked c => exact hQ _ _ _ he
       | outgrown => obtain ⟨a2, w2, h2⟩ := he; exact ⟨a2, w2, hQ _ _ _ h2⟩)⟩
     | exact ⟨h.1, RoundIn.mono h.2 (fun e w'' he => by
       cases e with
       | returned u => exact he
       | panicked c => exact hQ _ _ _ he
       | outgrown => obtain ⟨a2, w2, h2⟩ := he; exact ⟨a2, w2, hQ _ _ _ h2⟩)⟩
   | halt x w' => cases x <;> simp only [Oper.uponIn] at h ⊢ <;> first | exact h | exact hQ _ _ _ h
  ·rename_i hw;rw [if_neg hw];exact h
theorem wpAnyD_monoQ {P : Program} {N : Nat} {ops : Array Oper} {Q Q' : Exit → Act → World → Prop} (hQ : ∀ ex a w, Q ex a w → Q' ex a w) {S : Array Bool → World → Prop} : ∀ (fuel : Nat) (listed : Array Bool) (a : Act) (w : World), wpAnyD N P ops Q S fuel listed a w → wpAnyD N P ops Q' S fuel listed a w
 | 0, _, _, _, h => ⟨h.1, hQ _ _ _ h.2⟩
 | fuel + 1, listed, _, _, h => ⟨fun hr => hQ _ _ _ (h.1 hr), fun i hi => wpOpW_monoQ hQ (wpOpIn_mono (fun a' w' h' => ⟨h'.1, wpAnyD_monoQ hQ fuel _ a' w' h'.2⟩) (h.2 i hi))⟩

theorem wpAnyD_mono {P : Program} {N : Nat} {ops : Array Oper} {Q : Exit → Act → World → Prop} {S S' : Array Bool → World → Prop} : ∀ (fuel : Nat) (listed : Array Bool) (a : Act) (w : World),
  (∀ L w, (∀ j, listed.getD j false = true → L.getD j false = true) → S L w → S' L w) → wpAnyD N P ops Q S fuel listed a w → wpAnyD N P ops Q S' fuel listed a w
 | 0, _, _, _, _, h => h
 | fuel + 1, listed, _, _, hS, h => ⟨h.1, fun i hi => wpOpIn_mono (fun a' w' h' => ⟨hS _ _ (fun j hj => getD_set_true hj) h'.1, wpAnyD_mono fuel _ a' w' (fun L w hL => hS L w fun j hj => hL j (getD_set_true hj)) h'.2⟩) (h.2 i hi)⟩

theorem unlisted_grow {listed L : Array Bool} {D : List Nat} (hL : ∀ j, listed.getD j false = true → L.getD j false = true) (h : unlisted listed D = false) : unlisted L D = false := by
 cases hu : unlisted L D with
 | false => rfl
 | true =>
  rw [← h];symm;refine List.all_eq_true.2 fun d hd => ?_
  have := unlisted_mem hu hd;cases hl : listed.getD d false with
  | false => rfl
  | true => rw [hL d hl] at this; cases this

theorem codePost_trans {Ω : Om} {w0 : Base} {e e1 : Env} {x : X} {fr : Fr} {s : St} (h : e.le e1) {ex : Exit} {a : Act} {w : World} (k : CodePost Ω w0 e1 x fr s ex a w) : CodePost Ω w0 e x fr s ex a w :=
 let ⟨e', g1, g2, g3, g4⟩ := k
 ⟨e', Env.le_trans h g1, g2, g3, g4⟩

theorem anyRun_ok {P : Program} (S : Sound P) {Ω : Om} {w0 : Base} {call : Caller} (hc : CallOK P Ω w0 call) {rnd : Rounder} (hR : RoundOK P Ω w0 rnd) {N : Nat} {F : Facts} (hF : FactsOK P Ω w0 F) {ops : Array Oper} (hns : Region.noSelect ops = true) : ∀ (n : Nat) (x : X) (fr' : Fr) (s' : St) (tr : Trace), (∀ c, x = .panic c → fr'.defers = []) →
  ∀ (s0 : St) (H : List (Nat × Nat)) (D : List Nat) (e : Env) (w1 : World), Rel Ω w0 e s0 w1 → ∀ (listed : Array Bool) (fr : Fr) (s : St), anyRun P F call rnd ops s0 H D n listed fr s = some (x, fr', s', tr) →
  ∀ (e1 : Env) (a : Act) (w : World), e.le e1 → Rel Ω w0 e1 s w → FrR e1 fr a → HeldD w0 e w1 s0 H D listed w → wpAnyD N P ops (CodePost Ω w0 e1 x fr' s') (HeldD w0 e w1 s0 H D) n listed a w := by
 have hQ : ∀ (eb : Env) (x : X) (fr' : Fr) (s' : St), (∀ c, x = .panic c → fr'.defers = []) → ∀ (d : Option Tmp) (v : Value) c a w, CodePost Ω w0 eb x fr' s' (.panic c) (a.put d v) w → CodePost Ω w0 eb x fr' s' (.panic c) a w := by
  intro eb x fr' s' hx d v c a w ⟨e', g1, g2, g3, g4⟩;refine ⟨e', g1, g2, g3, ?_⟩;cases x with
  | panic cc =>
   have hd := hx cc rfl;simp only [FX, hd] at g4 ⊢;cases d <;> exact g4
  | normal => exact g3.elim
  | exit i => exact g3.elim
  | ret => exact g3.elim
 -- one operation, where it may come up
 have one : ∀ (s0 : St) (H : List (Nat × Nat)) (D : List Nat) (e : Env) (w1 : World), Rel Ω w0 e s0 w1 → ∀ (listed : Array Bool) (fr : Fr) (s : St) (i : Nat) (r : AR), actOne P F call rnd ops s0 H D listed fr s i = some r →
   ∀ (e1 : Env) (a : Act) (w : World), e.le e1 → Rel Ω w0 e1 s w → FrR e1 fr a → HeldD w0 e w1 s0 H D listed w → ∀ (Q : Exit → Act → World → Prop) (K : Act → World → Prop),
   (∀ fr2 s2, r = .go fr2 s2 → ∀ e2 a2 w2, e1.le e2 → Rel Ω w0 e2 s2 w2 → FrR e2 fr2 a2 → HeldD w0 e w1 s0 H D (listed.setIfInBounds i true) w2 → K a2 w2) →
   (∀ c s2, r = .pan c s2 → ∀ e2 l w2, e1.le e2 → ChR e2 c l → Rel Ω w0 e2 s2 w2 → Q (.panic l) a w2) → wpOpW N P ops Q i K a w := by
  intro s0 H D e w1 h0 listed fr s i r k e1 a w hle hr hf hh Q K hgo hpan;have keepD : ∀ (L : Array Bool) (e1 : Env) (s : St) (w : World), e.le e1 → Rel Ω w0 e1 s w → keepsD F.ask s0 s H D L = true → HeldD w0 e w1 s0 H D L w := by
   intro L e1 s w hle hr hk;refine ⟨⟨hr.below, PoolIn.le hle hr.pool⟩, fun hu => ?_⟩;unfold keepsD at hk;rw [hu] at hk;exact keeps_ok hF.ask h0 hr hle H hk
  have hdown : HeldD w0 e w1 s0 H D (listed.setIfInBounds i true) w := ⟨hh.1, fun hu => hh.2 (unlisted_down hu)⟩
  unfold actOne at k;split at k
  ·cases k
  ·rename_i o ho;unfold wpOpW wpOpIn;simp only [ho];split at k
   ·rename_i hw;rw [if_neg (by rw [wantedA_ok hf.ft hw]; simp)];split at k
    ·rename_i fr1 hp;simp only [sme] at k;exact ⟨fun f _ => Fof_fn none f, hgo _ _ k.symm e1 _ w (Env.le_refl e1) hr (hf.put undefA_vr hp) hdown⟩
    ·cases k
   ·rename_i hw;rw [if_pos (by rw [wantedA_ok hf.ft hw])];split at k
    ·rename_i v hq;obtain ⟨y, hy, hrun⟩ := quietA_run (hr.readsF hF) hf.ft hq;split at k
     ·rename_i fr1 hp;simp only [sme] at k;refine wpIn_of_wpOp (r := none) rfl ?_;simp only [Oper.wp, hrun w rfl, Oper.upon_value];exact hgo _ _ k.symm e1 _ w (Env.le_refl e1) hr (hf.put hy hp) hdown
     ·cases k
    ·split at k
     ·rename_i v s1 hact;refine wpIn_of_wpOp (r := none) rfl (actB_run S hc hF.ask hf.ft hr hact _ _ ?_);intro e2 y w2 g1 g2 g3;split at k
      ·rename_i fr1 hp hk;simp only [sme] at k;exact hgo _ _ k.symm e2 _ w2 g1 g3 ((hf.mono g1).put g2 hp) (keepD _ e2 s1 w2 (Env.le_trans hle g1) g3 hk)
      ·cases k
     ·rename_i s1 hact;refine wpIn_of_wpOp (r := none) rfl (actB_run S hc hF.ask hf.ft hr hact _ _ ?_);intro e2 w2 g1 g3;split at k
      ·rename_i fr1 hp hk;simp only [sme] at k;exact hgo _ _ k.symm e2 _ w2 g1 g3 ((hf.mono g1).put undefA_vr hp) (keepD _ e2 s1 w2 (Env.le_trans hle g1) g3 hk)
      ·cases k
     ·rename_i c s1 hact;refine wpIn_of_wpOp (r := none) rfl (actB_run S hc hF.ask hf.ft hr hact _ _ ?_);intro e2 l w2 g1 g2 g3;simp only [sme] at k;exact hpan _ _ k.symm e2 l w2 g1 g2 g3
     ·cases k
     ·split at k
      ·rename_i b s1 hy;split at k
       ·rename_i fr1 hp hk;simp only [sme] at k;refine yieldOp_run (r := none) hR hf.ft hr hy rfl _ _ fun e2 w2 g1 g2 => ?_
        exact hgo _ _ k.symm e2 _ w2 g1 g2 ((hf.mono g1).put (v := .bool b) (by simp only [VR]) hp) (keepD _ e2 s1 w2 (Env.le_trans hle g1) g2 hk)
       ·cases k
      ·cases k
   ·cases k
 intro n;induction n with
 | zero =>
  intro x fr' s' tr hx s0 H D e w1 h0 listed fr s k e1 a w hle hr hf hh;unfold anyRun at k;split at k
  ·rename_i hready;simp only [sme, pme] at k;obtain ⟨rfl, rfl, rfl, _⟩ := k;exact wpAnyD_done hready ⟨e1, Env.le_refl e1, hr, trivial, hf.fx _⟩ _
  ·cases k
 | succ n ih =>
  -- an operation taken first
  have take : ∀ (x : X) (fr' : Fr) (s' : St) (tr : Trace), (∀ c, x = .panic c → fr'.defers = []) → ∀ (s0 : St) (H : List (Nat × Nat)) (D : List Nat) (e : Env) (w1 : World), Rel Ω w0 e s0 w1 → ∀ (listed : Array Bool) (fr fr1 : Fr) (s : St) (l : List Nat) (i : Nat) (o : Oper) (v : AV), Region.ready .any ops listed = l →
    takeOne P ops (heldMem F.ask s0 H) D fr listed l = some (i, o, v) → putA fr o.dst v = some fr1 → anyRun P F call rnd ops s0 H D n (listed.setIfInBounds i true) fr1 s = some (x, fr', s', tr) →
    ∀ (e1 : Env) (a : Act) (w : World), e.le e1 → Rel Ω w0 e1 s w → FrR e1 fr a → HeldD w0 e w1 s0 H D listed w → wpAnyD N P ops (CodePost Ω w0 e1 x fr' s') (HeldD w0 e w1 s0 H D) (n + 1) listed a w := by
   intro x fr' s' tr hx s0 H D e w1 h0 listed fr fr1 s l i o v hready htake hp k e1 a w hle hr hf hh;have hQ := hQ e1 x fr' s' hx;have down : ∀ (L : Array Bool) (i : Nat) (w : World), HeldD w0 e w1 s0 H D L w → HeldD w0 e w1 s0 H D (L.setIfInBounds i true) w := fun L i w h => ⟨h.1, fun hu => h.2 (unlisted_down hu)⟩
   have up : ∀ (L : Array Bool) (i : Nat) (w : World), isNum i D = false → HeldD w0 e w1 s0 H D (L.setIfInBounds i true) w → HeldD w0 e w1 s0 H D L w := fun L i w hi h => ⟨h.1, fun hu => h.2 (by rw [unlisted_set hi]; exact hu)⟩
   obtain ⟨hmem, ho, hfree, hnD, hv⟩ := takeOne_ok _ htake;have hin : i ∈ Region.ready .any ops listed := by rw [hready]; exact hmem
   have hdown := down listed i w hh;rcases hv with ⟨hw, rfl⟩ | ⟨hw, hq⟩ | ⟨hw, hq, E, hE1, hE2, hE3⟩
   ·exact wpAnyD_first ho (Region.noSelect_spec hns) (hQ _ _) (fun _ => True) (fun _ => True) (fun _ _ _ _ _ _ => trivial) (fun _ _ _ _ => trivial) (fun L w => down L i w) (fun L w => up L i w hnD) n listed a w trivial
     (Region.free_spec ho hfree) hin (.inr ⟨wantedA_ok hf.ft hw, rfl⟩) hh (ih _ _ _ _ hx _ _ _ _ _ h0 _ _ _ k e1 _ w hle hr (hf.put undefA_vr hp) hdown)
   ·obtain ⟨y, hy, hrun⟩ := quietA_run (noMem_reads P e1 (by rw [hle.opq, h0.opq]; exact hF.ask)) hf.ft hq;exact wpAnyD_first ho (Region.noSelect_spec hns) (hQ _ _) (fun _ => True) (fun _ => True) (fun _ _ _ _ _ _ => trivial) (fun _ _ _ _ => trivial) (fun L w => down L i w) (fun L w => up L i w hnD) n listed a w trivial
     (Region.free_spec ho hfree) hin (.inl ⟨wantedA_ok hf.ft hw, fun w _ => hrun w trivial⟩) hh (ih _ _ _ _ hx _ _ _ _ _ h0 _ _ _ k e1 _ w hle hr (hf.put hy hp) hdown)
   ·obtain ⟨y, hy, hrun⟩ := quietA_run (held_reads h0 hle hF.ask H) hf.ft hq;exact wpAnyD_first ho (Region.noSelect_spec hns) (hQ _ _) (Held w0 e w1 s0 H) (fun L => unlisted L E = true) (fun L j hg hi hj _ => blocked_step hE1 L j hg hi hj)
     (fun L w hg hS => hS.2 (List.all_eq_true.2 fun d hd => by have := unlisted_mem hg (isNum_mem (List.all_eq_true.1 hE3 d hd)); simp [this])) (fun L w => down L i w) (fun L w => up L i w hnD) n listed a w hE2
     (Region.free_spec ho hfree) hin (.inl ⟨wantedA_ok hf.ft hw, hrun⟩) hh (ih _ _ _ _ hx _ _ _ _ _ h0 _ _ _ k e1 _ w hle hr (hf.put hy hp) hdown)
  intro x fr' s' tr hx s0 H D e w1 h0 listed fr s k e1 a w hle hr hf hh;unfold anyRun at k;split at k
  ·rename_i hready;simp only [sme, pme] at k;obtain ⟨rfl, rfl, rfl, _⟩ := k;exact wpAnyD_done hready ⟨e1, Env.le_refl e1, hr, trivial, hf.fx _⟩ _
  ·rename_i i0 rs hready;simp only at k;split at k
   ·rename_i i o v htake;split at k
    ·rename_i fr1 hp;exact take x fr' s' tr hx s0 H D e w1 h0 listed fr fr1 s _ i o v hready htake hp k e1 a w hle hr hf hh
    ·cases k
   ·split at k
    ·-- one may come up
     refine wpAnyD_all hready (by simp) ?_;intro i hi;obtain rfl : i = i0 := by simpa using hi
     split at k
     ·rename_i fr1 s1 hone;split at k
      ·rename_i xA frA sA tA hA;simp only [sme, pme] at k;obtain ⟨rfl, rfl, rfl, _⟩ := k;refine one s0 H D e w1 h0 listed fr s i _ hone e1 a w hle hr hf hh _ _ (fun fr2 s2 hg e2 a2 w2 g1 g2 g3 g4 => ?_) (fun c s2 hg => by cases hg);cases hg;exact ⟨g4, wpAnyD_monoQ (fun ex a w h => codePost_trans g1 h) _ _ _ _ (ih _ _ _ _ hx _ _ _ _ _ h0 _ _ _ hA e2 a2 w2 (Env.le_trans hle g1) g2 g3 g4)⟩
      ·cases k
     ·rename_i c s1 hone;simp only [sme, pme] at k;obtain ⟨rfl, rfl, rfl, _⟩ := k;refine one s0 H D e w1 h0 listed fr s i _ hone e1 a w hle hr hf hh _ _ (fun fr2 s2 hg => by cases hg) (fun c' s2 hg e2 l w2 g1 g2 g3 => ?_);cases hg;exact ⟨e2, g1, g3, g2, (hf.mono g1).fx _⟩
     ·cases k
    ·split at k
     ·-- looked at anew
      rename_i r hre;simp only [sme] at k;subst k;split at hre
      ·rename_i hover;split at hre
       ·rename_i i' o' v' htake;split at hre
        ·rename_i fr1 hp;have k := hre;refine wpAnyD_mono (n + 1) listed a w ?_ (take x fr' s' tr hx s _ _ e1 w hr listed fr fr1 s _ _ _ _ hready htake hp k e1 a w (Env.le_refl e1) hr hf ⟨⟨hr.below, hr.pool⟩, fun _ => held_start hr _⟩);intro L w' hL hS;refine ⟨⟨hS.1.1, PoolIn.le hle hS.1.2⟩, fun hu => ?_⟩;unfold overB at hover;simp only [Bool.or_eq_true, Bool.not_eq_true'] at hover;rcases hover with h1 | h1
         ·split at h1
          ·exact ⟨⟨hS.1.1, PoolIn.le hle hS.1.2⟩, fun p hp => by cases hp⟩
          ·cases h1
         ·rw [unlisted_grow hL h1] at hu; cases hu
        ·cases hre
       ·cases hre
      ·cases hre
     ·-- whichever comes up
      split at k
      ·rename_i frA0 sA0 honeA;split at k
       ·rename_i frA sA tA hA;split at k
        ·rename_i hall;simp only [sme, pme] at k;obtain ⟨rfl, rfl, rfl, _⟩ := k;refine wpAnyD_all hready (by simp) fun i hi => ?_
         rcases List.mem_cons.1 hi with rfl | hi
         ·refine one s0 H D e w1 h0 listed fr s i _ honeA e1 a w hle hr hf hh _ _ (fun fr2 s2 hg e2 a2 w2 g1 g2 g3 g4 => ?_) (fun c s2 hg => by cases hg);cases hg;exact ⟨g4, wpAnyD_monoQ (fun ex a w h => codePost_trans g1 h) _ _ _ _ (ih _ _ _ _ hx _ _ _ _ _ h0 _ _ _ hA e2 a2 w2 (Env.le_trans hle g1) g2 g3 g4)⟩
         ·have hlike := List.all_eq_true.1 hall i hi;split at hlike
          ·rename_i frB0 sB0 honeB;split at hlike
           ·rename_i frB sB tB hB;refine one s0 H D e w1 h0 listed fr s i _ honeB e1 a w hle hr hf hh _ _ (fun fr2 s2 hg e2 a2 w2 g1 g2 g3 g4 => ?_) (fun c s2 hg => by cases hg);cases hg;refine ⟨g4, wpAnyD_monoQ (fun ex a w h => likeR_ok hlike (Env.le_refl e1) hr.fresh (codePost_trans g1 h)) _ _ _ _ (ih _ _ _ _ (fun _ h => by cases h) _ _ _ _ _ h0 _ _ _ hB e2 a2 w2 (Env.le_trans hle g1) g2 g3 g4)⟩
           ·cases hlike
          ·cases hlike
        ·cases k
       ·cases k
      ·cases k

theorem Rel.less {Ω : Om} {w0 : Base} {e : Env} {s : St} {w : World} (h : Rel Ω w0 e s w) {t : T AObj} (H : ∀ i o, t.get i = some o → s.heap.get i = some o) : Rel Ω w0 e ⟨t, s.next⟩ w :=
 ⟨h.opq, h.below, h.fresh, fun i j o o' b hi hj => h.inj i j o o' b (H _ _ hi) (H _ _ hj), fun i o ho => h.obj i o (H _ _ ho), h.pool, fun i o k ho => h.apart i o k (H _ _ ho), h.grow, h.hold⟩
def dropDone (s : St) : Nat → T AObj → T AObj
 | 0, t => t
 | n + 1, t => match s.heap.get (2 * n + 1) with
  | some (.loop r) => match r.st with
   | .done => dropDone s n (t.put (2 * n + 1) none)
   | .exhausted => dropDone s n (t.put (2 * n + 1) none)
   | _ => dropDone s n t
  | _ => dropDone s n t
theorem dropDone_get (s : St) : ∀ (n : Nat) (t : T AObj) (i : Nat) (o : AObj), (dropDone s n t).get i = some o → t.get i = some o
 | 0, _, _, _, h => h
 | n + 1, t, i, o, h => by
  simp only [dropDone] at h;split at h
  ·split at h
   ·have := dropDone_get s n _ i o h;rw [T.get_put] at this;split at this
    ·cases this
    ·exact this
   ·have := dropDone_get s n _ i o h;rw [T.get_put] at this;split at this
    ·cases this
    ·exact this
   ·exact dropDone_get s n _ i o h
  ·exact dropDone_get s n _ i o h
def anyTry (P : Program) (F : Facts) (call : Caller) (rnd : Rounder) (ops : Array Oper) (fr : Fr) (s : St) : Option (X × Fr × St × Trace) :=
 match anyRun P F call rnd ops s (dryH P F s ops #[] 0 ops.toList fr.t).1 (lateD ops (dryH P F s ops #[] 0 ops.toList fr.t).2) ops.size (Array.replicate ops.size false) fr s with
 | some r => some r
 | none => anyRun P F call rnd ops ⟨dropDone s s.next s.heap, s.next⟩ [] [] ops.size (Array.replicate ops.size false) fr ⟨dropDone s s.next s.heap, s.next⟩
def drawnRun (P : Program) (F : Facts) (call : Caller) (rnd : Rounder) (ops : Array Oper) (fr : Fr) (s : St) : Option (X × Fr × St) :=
 match Region.noSelect ops with
 | true => match anyTry P F call rnd ops fr s with
  | some (.panic c, fr', s', _) => match fr'.defers with
   | [] => some (.panic c, fr', s')
   | _ => none
  | some (x, fr', s', _) => some (x, fr', s')
  | none => none
 | false => none

theorem post_notOut {Ω : Om} {w0 : Base} {e : Env} {x : X} {fr : Fr} {s : St} : ¬ LetsOut (CodePost Ω w0 e x fr s) := by
 intro ⟨a, w, e', _, _, h, _⟩;cases x <;> exact h

theorem wpIn_lift {P : Program} {r : Option Nat} {n : Nat} {o : Oper} {a : Act} {w : World} {K : Act → World → Prop} {Q : Exit → Act → World → Prop} (hd : okIn r o = true) (h : o.wpIn (Fof none) n P a w K Q) : o.wpIn (Fof r) n P a w K Q := by
 refine ⟨fun f _ => Fof_fn r f, ?_⟩;have h := h.2;rw [okIn_sem (r := none) rfl] at h;rw [okIn_sem hd];generalize (execOp a.eval o).run P w = x at h;cases r with
 | none => exact h
 | some l =>
  cases x with
  | ok x w' => cases x <;> exact h
  | halt x w' => cases x <;> exact h

theorem opIn_of_op {P : Program} {rl : Option Nat} {N : Nat} {ops : Array Oper} {Q : Exit → Act → World → Prop} (hall : ops.all (okIn rl) = true) {i : Nat} {K K' : Act → World → Prop} (hK : ∀ a w, K a w → K' a w) {a : Act} {w : World} (h : wpOpIn (Fof none) N P ops Q i K a w) : wpOpIn (Fof rl) N P ops Q i K' a w := by
 unfold wpOpIn at h ⊢;cases ho : ops[i]? with
 | none => simp only [ho] at h ⊢; exact hK _ _ h
 | some o =>
  simp only [ho] at h ⊢;have hok : okIn rl o = true := Array.all_eq_true_iff_forall_mem.1 hall o (Array.mem_of_getElem? ho);split at h
  ·rename_i hw;rw [if_pos hw];exact wpIn_lift hok (Oper.wpIn_mono hK h)
  ·rename_i hw;rw [if_neg hw];exact ⟨fun f _ => Fof_fn rl f, hK _ _ h.2⟩

theorem anyIn_of_any {P : Program} {rl : Option Nat} {N : Nat} {ops : Array Oper} {Q : Exit → Act → World → Prop} (hall : ops.all (okIn rl) = true) : ∀ (fuel : Nat) (listed : Array Bool) (a : Act) (w : World), wpAnyIn (Fof none) N P .any ops Q fuel listed a w → wpAnyIn (Fof rl) N P .any ops Q fuel listed a w
 | 0, _, _, _, h => h
 | fuel + 1, _, _, _, h => ⟨h.1, fun i hi => opIn_of_op hall (fun a' w' h' => anyIn_of_any hall fuel _ a' w' h') (h.2 i hi)⟩

theorem anyW_of_any {P : Program} {N : Nat} {ops : Array Oper} {Q : Exit → Act → World → Prop} (hq : ¬ LetsOut Q) : ∀ (fuel : Nat) (listed : Array Bool) (a : Act) (w : World), wpAny P .any ops Q fuel listed a w → wpAnyIn (Fof none) N P .any ops Q fuel listed a w
 | 0, _, _, _, h => h
 | fuel + 1, _, a, w, h => ⟨h.1, fun i hi => by
  have h := h.2 i hi;unfold wpOp at h;unfold wpOpIn;cases ho : ops[i]? with
  | none => simp only [ho] at h ⊢; exact anyW_of_any hq fuel _ _ _ h
  | some o =>
   simp only [ho] at h ⊢;split at h
   ·rename_i hw;rw [if_pos hw];rcases h with h | h
    ·exact wpIn_of_wpOp (r := none) rfl (Oper.wp_mono (fun a' w' h' => anyW_of_any hq fuel _ a' w' h') h)
    ·exact absurd h.2 hq
   ·rename_i hw;rw [if_neg hw];exact ⟨fun f _ => Fof_fn none f, anyW_of_any hq fuel _ _ _ h⟩⟩

def regionRun (P : Program) (F : Facts) (call : Caller) (rnd : Rounder) (r : Option Nat) (ops : Array Oper) (draw : Bool) (fr : Fr) (s : St) : Option (X × Fr × St) :=
 match draw with
 | false => opsRun P F call rnd r ops ops.toList fr s
 | true => match ops.all (okIn r) with
  | false => none
  | true => match Region.lexB .any ops with
   | true => match stillRun P (s.memF F) ops ops.toList fr with
    | some fr' => some (.normal, fr', s)
    | none => drawnRun P F call rnd ops fr s
   | false => drawnRun P F call rnd ops fr s

theorem regionRun_ok {P : Program} (S : Sound P) {Ω : Om} {w0 : Base} {call : Caller} (hc : CallOK P Ω w0 call) {rnd : Rounder} (hR : RoundOK P Ω w0 rnd) {F : Facts} (hF : FactsOK P Ω w0 F) {r rl : Option Nat} (hrl : rl.isSome = r.isSome) (N : Nat) {id : Nat} {ops : Array Oper} {draw : Bool} {fr : Fr} {s : St} {x : X} {fr' : Fr} {s' : St} (k : regionRun P F call rnd r ops draw fr s = some (x, fr', s'))
  {e : Env} {a : Act} {w : World} (hr : Rel Ω w0 e s w) (hf : FrR e fr a) : (Code.region id ops draw).wpIn (Fof rl) N P (CodePost Ω w0 e x fr' s') a w := by
 have toIn : ops.all (okIn r) = true → wpAnyIn (Fof none) N P .any ops (CodePost Ω w0 e x fr' s') ops.size (Array.replicate ops.size false) a { w with drawn := w.drawn + 1 } → (Code.region id ops true).wpIn (Fof rl) N P (CodePost Ω w0 e x fr' s') a w := by
  intro hall h;refine wpIn_region_any S.mixed (anyIn_of_any ?_ _ _ _ _ h);have : okIn rl = okIn r := by cases r <;> cases rl <;> simp_all <;> rfl
  rw [this]; exact hall
 have later : ops.all (okIn r) = true → drawnRun P F call rnd ops fr s = some (x, fr', s') → (Code.region id ops true).wpIn (Fof rl) N P (CodePost Ω w0 e x fr' s') a w := by
  intro hall k;unfold drawnRun at k;split at k
  ·rename_i hns;have base1 : ∀ s, Rel Ω w0 e s w → ∀ H D tr, anyRun P F call rnd ops s H D ops.size (Array.replicate ops.size false) fr s = some (x, fr', s', tr) → (∀ c, x = .panic c → fr'.defers = []) → (Code.region id ops true).wpIn (Fof rl) N P (CodePost Ω w0 e x fr' s') a w := fun s hr H D tr hk hx =>
    toIn hall (wpAny_of_D _ _ _ _ (anyRun_ok S hc hR hF hns _ x fr' s' tr hx s _ _ e _ hr.drew _ _ _ hk e a _ (Env.le_refl e) hr.drew hf ⟨⟨hr.drew.below, hr.drew.pool⟩, fun _ => held_start hr.drew _⟩))
   have base : ∀ tr, anyTry P F call rnd ops fr s = some (x, fr', s', tr) → (∀ c, x = .panic c → fr'.defers = []) → (Code.region id ops true).wpIn (Fof rl) N P (CodePost Ω w0 e x fr' s') a w := fun tr hk hx => by
    unfold anyTry at hk;split at hk
    ·rename_i r hr1;simp only [sme] at hk;subst hk;exact base1 _ hr _ _ _ hr1 hx
    ·exact base1 _ (hr.less fun i o h => dropDone_get s _ _ i o h) _ _ _ hk hx
   split at k
   ·rename_i c fr2 s2 tr hany;split at k
    ·rename_i hd;simp only [sme, pme] at k;obtain ⟨rfl, rfl, rfl⟩ := k;exact base _ hany (fun _ _ => hd)
    ·cases k
   ·rename_i x2 fr2 s2 tr hnp hany;simp only [sme, pme] at k;obtain ⟨rfl, rfl, rfl⟩ := k;refine base _ hany fun c hx => ?_
    subst hx;exact (hnp c rfl).elim
   ·cases k
  ·cases k
 unfold regionRun at k;split at k
 ·refine wpIn_region ?_;rw [List.range_eq_range', ← Array.length_toList, wpOpsIn_eq_wpListIn ops.toList 0 (by simp)];exact opsRun_ok S hc hR hF r rl hrl N ops _ fr s x fr' s' k e a w hr hf _ fun _ _ _ h => h
 ·split at k
  ·cases k
  ·rename_i hall;split at k
   ·rename_i hlex;split at k
    ·rename_i fr1 hst;simp only [sme, pme] at k;obtain ⟨rfl, rfl, rfl⟩ := k;refine toIn hall ?_;have h := stillRun_ok hF hr.drew ops (fun a' => CodePost Ω w0 e .normal fr1 s .normal a' { w with drawn := w.drawn + 1 }) _ _ _ hst a hf fun a' h => ⟨e, Env.le_refl e, hr.drew, trivial, h.fx _⟩
     simp only [Region.lexB, bae] at hlex;refine anyW_of_any post_notOut _ _ _ _ (wpAny_of_still (Q := fun a' => CodePost Ω w0 e .normal fr1 s .normal a' { w with drawn := w.drawn + 1 }) (fun _ h => h) _ _ _ ?_);have := wpAnyS_lex (md := .any) hlex.1 ops.toList 0 (Array.replicate ops.size false) a (by simp) (by simpa using hlex.2) h;simpa using this
    ·exact later hall k
   ·exact later hall k

def Code.child (d : Nat) : Code → Option Code
 | .seq a b => match d with
  | 0 => some a
  | 1 => some b
  | _ => none
 | .cond _ a b => match d with
  | 2 => some a
  | 3 => some b
  | _ => none
 | .block _ b => match d with
  | 4 => some b
  | _ => none
 | .loop b => match d with
  | 5 => some b
  | _ => none
 | .scope b => match d with
  | 8 => some b
  | _ => none
 | _ => none

def codeAt (root : Code) : List Nat → Option Code
 | [] => some root
 | d :: p => (codeAt root p).bind (Code.child d)

abbrev Loops := List Nat → Fr → St → Option (X × Fr × St)
def LoopsOK (P : Program) (Ω : Om) (w0 : Base) (root : Code) (L : Loops) : Prop := ∀ p b fr s x fr' s', codeAt root p = some (.loop b) → L p fr s = some (x, fr', s') →
 ∃ m, ∀ e a w, Rel Ω w0 e s w → FrR e fr a → ∀ Q : Exit → Act → World → Prop, (∀ ex a w, CodePost Ω w0 e x fr' s' ex a w → Q ex a w) → Code.rounds P b Q m a w

def jumpOf : X → Option (Option Code)
 | .normal => some none
 | .ret => some (some .ret)
 | .exit i => some (some (.exit i))
 | .panic _ => none

def rangeA (call : Caller) (f : FuncId) (cs : List AV) (id : Nat) (fr : Fr) (s : St) : Option (X × Fr × St) :=
 match call f (.yieldf id :: cs) s with
 | some (.ret _, s3) => match s3.heap.get id with
  | some (.loop r3) => match r3.st with
   | .busy => none
   | _ => match r3.pending with
    | none => some (.normal, fr, s3.setO id (.loop { r3 with st := .exhausted }))
    | some .ret => some (.ret, fr, s3.setO id (.loop { r3 with st := .exhausted }))
    | some (.exit i) => some (.exit i, fr, s3.setO id (.loop { r3 with st := .exhausted }))
    | _ => none
  | _ => none
 | _ => none

def execX (P : Program) (F : Facts) (L : Loops) (call : Caller) (rnd : Rounder) (r : Option Nat) : Nat → List Nat → Code → Fr → St → Option (X × Fr × St)
 | 0, _, _, _, _ => none
 | n + 1, p, c, fr, s => match c with
  | .skip => some (.normal, fr, s)
  | .label _ => some (.normal, fr, s)
  | .region _ ops draw => regionRun P F call rnd r ops draw fr s
  | .seq a b => match execX P F L call rnd r n (0 :: p) a fr s with
   | some (.normal, fr', s') => execX P F L call rnd r n (1 :: p) b fr' s'
   | r => r
  | .cond c a b => match evalO fr.t c with
   | some (.bool true) => execX P F L call rnd r n (2 :: p) a fr s
   | some (.bool false) => execX P F L call rnd r n (3 :: p) b fr s
   | _ => none
  | .block id b => match execX P F L call rnd r n (4 :: p) b fr s with
   | some (.exit j, fr', s') => match Nat.beq j id with
    | true => some (.normal, fr', s')
    | false => some (.exit j, fr', s')
   | r => r
  | .loop b => match L p fr s with
   | some r => some r
   | none => match execX P F L call rnd r n (5 :: p) b fr s with
    | some (.normal, fr', s') => execX P F L call rnd r n p (.loop b) fr' s'
    | r => r
  | .exit id => some (.exit id, fr, s)
  | .scope b => match r with
   | none => execX P F L call rnd r n (8 :: p) b fr s
   | some _ => none
  | .ret => some (.ret, fr, s)
  | .rangeFunc g ps assign body => match evalO fr.t g with
   | some (.func f cs) => match bodied P f, r with
    | true, none => rangeA call f cs (s.newO .defd).nid ⟨fr.t, fr.n, .mark s.nid :: fr.defers⟩ ((s.newO .defd).newO (.loop ⟨.ready, none, fr.t, fr.n, ps, assign, body⟩))
    | true, some l0 => match s.heap.get l0 with
     | some (.loop _) => rangeA call f cs s.nid fr (s.newO (.loop ⟨.ready, none, fr.t, fr.n, ps, assign, body⟩))
     | _ => none
    | _, _ => none
   | _ => none
  | _ => none

theorem CodePost.trans {Ω : Om} {w0 : Base} {e e1 : Env} {x : X} {fr : Fr} {s : St} (h : e.le e1) {ex : Exit} {a : Act} {w : World} (k : CodePost Ω w0 e1 x fr s ex a w) : CodePost Ω w0 e x fr s ex a w :=
 let ⟨e', g1, g2, g3, g4⟩ := k
 ⟨e', Env.le_trans h g1, g2, g3, g4⟩

def RL (e : Env) : Option Nat → Option Nat → Prop
 | none, none => True
 | some id, some l => e.loc id = some l
 | _, _ => False
theorem RL.mono {e e' : Env} (h : e.le e') {r rl : Option Nat} (k : RL e r rl) : RL e' r rl := by
 cases r <;> cases rl <;> simp only [RL] at k ⊢
 exact (h.loc _ _ k).1
theorem RL.same {e : Env} {r rl : Option Nat} (k : RL e r rl) : rl.isSome = r.isSome := by
 cases r <;> cases rl <;> simp only [RL] at k <;> rfl

theorem roundsIn_of_rounds {P : Program} {N : Nat} {b : Code} {Q : Exit → Act → World → Prop} : ∀ (m : Nat) (a : Act) (w : World), Code.rounds P b Q m a w → Code.roundsIn (Fof none) N P b Q m a w
 | 0, _, _, h => h
 | m + 1, a, w, h => by
  rw [roundsIn_succ];rw [rounds_succ] at h;refine wpIn_wide.2 (wp_mono h fun ex a1 w1 g => ?_);cases ex <;> first
   | exact roundsIn_of_rounds m a1 w1 g
   | exact g
theorem rounds_of_roundsIn {P : Program} {N : Nat} {b : Code} {Q : Exit → Act → World → Prop} : ∀ (m : Nat) (a : Act) (w : World), Code.roundsIn (Fof none) N P b Q m a w → Code.rounds P b Q m a w
 | 0, _, _, h => h
 | m + 1, a, w, h => by
  rw [rounds_succ];rw [roundsIn_succ] at h;refine wp_mono (wpIn_wide.1 h) fun ex a1 w1 g => ?_
  cases ex <;> first
   | exact rounds_of_roundsIn m a1 w1 g
   | exact g

theorem Rel.allocN {Ω : Om} {w0 : Base} {e : Env} {s : St} {w : World} (h : Rel Ω w0 e s w) (ob : AObj) (o : Obj) (hR : ObjR w0 (e.newB s w.heap.size 0 0) s.nid w.heap.size (w.alloc o) ob) :
  e.le (e.newB s w.heap.size 0 0) ∧ Rel Ω w0 (e.newB s w.heap.size 0 0) (s.newO ob) (w.alloc o) :=
 h.newO ob w.heap.size 0 0 (h.below.alloc o) hR (fun id q hq j hj => by
  have hlt := h.loc_lt hq hj;exact ⟨by omega, Below.heap_alloc _ _ _ hlt⟩) (fun j _ hj => Below.heap_alloc _ _ _ (h.pool_lt hj)) (fun _ => h.pool_new (Nat.le_refl _))

theorem Rel.setLoop {Ω : Om} {w0 : Base} {e : Env} {s : St} {w : World} (h : Rel Ω w0 e s w) {id l : Nat} {r : LB} (hr : s.heap.get id = some (.loop r)) (hl : e.loc id = some l) :
  ∃ q : Loop, w.heap[l]? = some (.loop q) ∧ q.state = r.st ∧ q.pending = r.pending ∧ q.params = r.params ∧ q.assign = r.assign ∧ q.body = r.body ∧ q.tmps.size = r.n ∧ (∀ i v, r.t.get i = some v → ∃ x, q.tmps[i]? = some x ∧ VR e v x) ∧
   ∀ (st : LoopState) (pe : Option Code), Rel Ω w0 e (s.setO id (.loop { r with st := st, pending := pe })) (w.putObj l (.loop { q with state := st, pending := pe })) := by
 obtain ⟨k, hk, hO⟩ := h.obj id _ hr;obtain rfl : k = l := by rw [hl] at hk; exact (Option.some.inj hk).symm
 obtain ⟨hm, h0, f, tmps, d, hq, hn, ht⟩ := hO;refine ⟨_, hq, rfl, rfl, rfl, rfl, rfl, hn, ht, fun st pe => ?_⟩;have hlt : k < w.heap.size := (Array.getElem?_eq_some_iff.1 hq).1;rw [St.setO_eq];exact h.setO hr hk hm (h.apart _ _ _ hr rfl hk) ⟨hm, h0, f, tmps, d, World.putObj_heap_same hlt, hn, ht⟩ (fun j hj => World.putObj_heap_other hj) rfl rfl rfl (by simp)

theorem rangeA_ok {P : Program} (S : Sound P) {Ω : Om} {w0 : Base} {call : Caller} (hc : CallOK P Ω w0 call) {f : FuncId} {cs : List AV} {id : Nat} {fr : Fr} {s : St} {x : X} {fr' : Fr} {s' : St} (k : rangeA call f cs id fr s = some (x, fr', s'))
  {e : Env} {a : Act} {w : World} (hr : Rel Ω w0 e s w) (hf : FrR e fr a) {l : Nat} (hl : e.loc id = some l) {xs : List Value} (hxs : VRs e cs xs) {rl : Option Nat} {M N : Nat} {e0 : Env} (hle : e0.le e) :
  CallsIn (Fof rl) M P f (.func (.yield l) #[] #[] :: xs).toArray w (rangePost (Fof rl) N P l (CodePost Ω w0 e0 x fr' s') a) := by
 unfold rangeA at k;split at k
 ·rename_i v s3 hcall;refine callsIn_Fof.2 ((hc _ _ _ _ _ hcall e w _ hr (VRs_cons (by simp only [VR]; exact ⟨l, hl, rfl⟩) hxs)).mono fun E w3 ⟨e3, g1, g2, g3⟩ => ?_);cases E with
  | panicked c => exact g3.elim
  | outgrown => exact g3.elim
  | returned y =>
   split at k
   ·rename_i r3 h3;obtain ⟨q, hq, q1, q2, _, _, _, _, _, hset⟩ := g2.setLoop h3 (g1.loc _ _ hl).1;have hfr := (hf.mono g1)
    have go : ∀ (hb : r3.st ≠ .busy) (post : (match r3.pending with
      | none => CodePost Ω w0 e0 x fr' s' .normal a (w3.putObj l (.loop { q with state := .exhausted, pending := r3.pending }))
      | some c => c.wpIn (Fof rl) N P (CodePost Ω w0 e0 x fr' s') a (w3.putObj l (.loop { q with state := .exhausted, pending := r3.pending })))),
      rangePost (Fof rl) N P l (CodePost Ω w0 e0 x fr' s') a (.returned y) w3 := by
     intro hb post;refine ⟨r3.pending, _, ?_, post⟩;have := run_endLoop (P := P) hq (by rw [q1]; exact hb);rw [q2] at this;rw [this]
    have hrel := hset .exhausted r3.pending;have he : ({ r3 with st := .exhausted, pending := r3.pending } : LB) = { r3 with st := .exhausted } := rfl;rw [he] at hrel;split at k
    ·cases k
    ·rename_i hnb;have hb : r3.st ≠ .busy := fun h => hnb h
     split at k
     ·rename_i hp;simp only [sme, pme] at k;obtain ⟨rfl, rfl, rfl⟩ := k;refine go hb ?_;rw [hp] at hrel ⊢;exact ⟨e3, Env.le_trans hle g1, hrel, trivial, hfr.fx _⟩
     ·rename_i hp;simp only [sme, pme] at k;obtain ⟨rfl, rfl, rfl⟩ := k;refine go hb ?_;rw [hp] at hrel ⊢;exact wpIn_ret ⟨e3, Env.le_trans hle g1, hrel, trivial, hfr.fx _⟩
     ·rename_i i hp;simp only [sme, pme] at k;obtain ⟨rfl, rfl, rfl⟩ := k;refine go hb ?_;rw [hp] at hrel ⊢;exact wpIn_exit ⟨e3, Env.le_trans hle g1, hrel, rfl, hfr.fx _⟩
     ·cases k
   ·cases k
 ·cases k

theorem execX_ok {P : Program} (S : Sound P) {Ω : Om} {w0 : Base} {call : Caller} (hc : CallOK P Ω w0 call) {rnd : Rounder} (hR : RoundOK P Ω w0 rnd) {F : Facts} (hF : FactsOK P Ω w0 F) {root : Code} {L : Loops} {r rl : Option Nat} (hL : (rl = none ∧ LoopsOK P Ω w0 root L) ∨ ∀ p fr s, L p fr s = none) (N : Nat) : ∀ n : Nat,
  (∀ (p : List Nat) (c : Code) (fr : Fr) (s : St) (x : X) (fr' : Fr) (s' : St), codeAt root p = some c → execX P F L call rnd r n p c fr s = some (x, fr', s') → ∀ (e : Env) (a : Act) (w : World), Rel Ω w0 e s w → FrR e fr a → RL e r rl → c.wpIn (Fof rl) N P (CodePost Ω w0 e x fr' s') a w) ∧
  (∀ (p : List Nat) (b : Code) (fr : Fr) (s : St) (x : X) (fr' : Fr) (s' : St), codeAt root p = some (.loop b) → execX P F L call rnd r n p (.loop b) fr s = some (x, fr', s') → ∃ m, ∀ (e : Env) (a : Act) (w : World), Rel Ω w0 e s w → FrR e fr a → RL e r rl →
   ∀ Q : Exit → Act → World → Prop, (∀ ex a w, CodePost Ω w0 e x fr' s' ex a w → Q ex a w) → Code.roundsIn (Fof rl) N P b Q m a w)
 | 0 => ⟨fun _ _ _ _ _ _ _ _ k => (by cases k), fun _ _ _ _ _ _ _ _ k => (by cases k)⟩
 | n + 1 => by
  obtain ⟨ih, ihl⟩ := execX_ok S hc hR hF hL N n;have loops : ∀ (p : List Nat) (b : Code) (fr : Fr) (s : St) (x : X) (fr' : Fr) (s' : St), codeAt root p = some (.loop b) → execX P F L call rnd r (n + 1) p (.loop b) fr s = some (x, fr', s') → ∃ m, ∀ (e : Env) (a : Act) (w : World), Rel Ω w0 e s w → FrR e fr a → RL e r rl →
    ∀ Q : Exit → Act → World → Prop, (∀ ex a w, CodePost Ω w0 e x fr' s' ex a w → Q ex a w) → Code.roundsIn (Fof rl) N P b Q m a w := by
   intro p b fr s x fr' s' hp k;have hp5 : codeAt root (5 :: p) = some b := by simp [codeAt, hp, Code.child]
   unfold execX at k;simp only at k;split at k
   ·rename_i r1 hr1;simp only [sme] at k;subst k;rcases hL with ⟨rfl, hL⟩ | hL
    ·obtain ⟨m, hm⟩ := hL p b fr s x fr' s' hp hr1;exact ⟨m, fun e a w hr hf _ Q H => roundsIn_of_rounds m a w (hm e a w hr hf Q H)⟩
    ·rw [hL] at hr1; cases hr1
   ·split at k
    ·rename_i fr1 s1 h1;obtain ⟨m, hm⟩ := ihl p b fr1 s1 x fr' s' hp k;refine ⟨m + 1, fun e a w hr hf hl Q H => ?_⟩;rw [roundsIn_succ];refine wpIn_mono (ih _ _ _ _ _ _ _ hp5 h1 e a w hr hf hl) fun ex a1 w1 ⟨e1, g1, g2, g3, g4⟩ => ?_
     cases ex <;> first
      | exact g3.elim
      | exact hm e1 a1 w1 g2 g4 (hl.mono g1) Q fun ex a w h => H ex a w (h.trans g1)
    ·rename_i hnn;refine ⟨1, fun e a w hr hf hl Q H => ?_⟩;rw [roundsIn_succ];refine wpIn_mono (ih _ _ _ _ _ _ _ hp5 k e a w hr hf hl) fun ex a1 w1 g => ?_
     have := H ex a1 w1 g;cases ex with
     | normal =>
      obtain ⟨e1, g1, g2, g3, g4⟩ := g;cases x with
      | normal => exact (hnn _ _ k).elim
      | exit i => exact g3.elim
      | ret => exact g3.elim
      | panic c => exact g3.elim
     | _ => exact this
  refine ⟨fun p c fr s x fr' s' hp k e a w hr hf hl => ?_, loops⟩;have hk := k;unfold execX at k;cases c <;> simp only [reduceCtorEq] at k
  ·simp only [sme, pme] at k;obtain ⟨rfl, rfl, rfl⟩ := k;exact wpIn_skip ⟨e, Env.le_refl e, hr, trivial, hf.fx _⟩
  ·exact regionRun_ok S hc hR hF hl.same N k hr hf
  ·rename_i ca cb;have hp0 : codeAt root (0 :: p) = some ca := by simp [codeAt, hp, Code.child]
   have hp1 : codeAt root (1 :: p) = some cb := by simp [codeAt, hp, Code.child]
   split at k
   ·rename_i fr1 s1 h1;refine wpIn_seq (wpIn_mono (ih _ _ _ _ _ _ _ hp0 h1 e a w hr hf hl) fun ex a1 w1 ⟨e1, g1, g2, g3, g4⟩ => ?_);cases ex <;> first
     | exact g3.elim
     | exact wpIn_mono (ih _ _ _ _ _ _ _ hp1 k e1 a1 w1 g2 g4 (hl.mono g1)) fun ex a w h => h.trans g1
   ·rename_i hnn;refine wpIn_seq (wpIn_mono (ih _ _ _ _ _ _ _ hp0 k e a w hr hf hl) fun ex a1 w1 g => ?_);cases ex with
    | normal =>
     obtain ⟨e1, g1, g2, g3, g4⟩ := g;cases x with
     | normal => exact (hnn _ _ k).elim
     | exit i => exact g3.elim
     | ret => exact g3.elim
     | panic c => exact g3.elim
    | _ => exact g
  ·rename_i cc ca cb;have hp2 : codeAt root (2 :: p) = some ca := by simp [codeAt, hp, Code.child]
   have hp3 : codeAt root (3 :: p) = some cb := by simp [codeAt, hp, Code.child]
   split at k
   ·rename_i hcnd;have := evalO_vr hf.ft hcnd;simp only [VR] at this;exact wpIn_cond_true this (ih _ _ _ _ _ _ _ hp2 k e a w hr hf hl)
   ·rename_i hcnd;have := evalO_vr hf.ft hcnd;simp only [VR] at this;exact wpIn_cond_false this (ih _ _ _ _ _ _ _ hp3 k e a w hr hf hl)
   ·cases k
  ·rename_i id b;have hp4 : codeAt root (4 :: p) = some b := by simp [codeAt, hp, Code.child]
   split at k
   ·rename_i j fr1 s1 h1;refine wpIn_block (wpIn_mono (ih _ _ _ _ _ _ _ hp4 h1 e a w hr hf hl) fun ex a1 w1 ⟨e1, g1, g2, g3, g4⟩ => ?_);cases ex <;> simp only [XR] at g3
    rename_i j';subst g3;simp only [Exit.inBlock];split at k
    ·rename_i hj;have hj := beq_t hj;simp only [sme, pme] at k;obtain ⟨rfl, rfl, rfl⟩ := k;rw [if_pos hj];exact ⟨e1, g1, g2, trivial, g4⟩
    ·rename_i hj;have hj := beq_f hj;simp only [sme, pme] at k;obtain ⟨rfl, rfl, rfl⟩ := k;rw [if_neg hj];exact ⟨e1, g1, g2, rfl, g4⟩
   ·rename_i hnn;refine wpIn_block (wpIn_mono (ih _ _ _ _ _ _ _ hp4 k e a w hr hf hl) fun ex a1 w1 g => ?_);cases ex with
    | exit j =>
     obtain ⟨e1, g1, g2, g3, g4⟩ := g;cases x with
     | exit i => exact (hnn _ _ _ k).elim
     | normal => exact g3.elim
     | ret => exact g3.elim
     | panic c => exact g3.elim
    | _ => exact g
  ·obtain ⟨m, hm⟩ := loops _ _ _ _ _ _ _ hp hk;exact wpIn_loop_rounds _ (hm e a w hr hf hl _ fun _ _ _ h => h)
  ·rename_i g ps assign body;split at k
   ·rename_i f cs hg;have hgv := evalO_vr hf.ft hg;simp only [VR] at hgv;obtain ⟨xs, hgv, hxs⟩ := hgv;have enterf : bodied P f = true → ∀ (l : Nat) (w1 : World), (resolve a.eval (rangeCall g l) 0).run P w1 = .ok { target := .fn (.func f) xs, args := #[.func (.yield l) #[] #[]] } w1 ∧ (invoke (.fn (.func f) xs) #[.func (.yield l) #[] #[]]).run P w1 = .ok (.enter f (.func (.yield l) #[] #[] :: xs.toList).toArray) w1 := by
     intro hbd l w1;unfold bodied at hbd;split at hbd
     ·rename_i fn hfn;obtain ⟨c, hcb⟩ := Option.isSome_iff_exists.1 hbd;refine ⟨?_, ?_⟩
      ·have hconst : ∀ v, a.eval (.const v) = v := fun _ => rfl
       simp [resolve, rangeCall, hgv, Deferred.ofValue, hconst]
      ·simp only [invoke, run_callFunc S hfn hcb];congr 2;apply Array.ext'
       simp
     ·cases hbd
    split at k
    ·rename_i hbd;have hl0 : rl = none := by cases rl <;> simp only [RL] at hl <;> rfl
     subst hl0;refine wpIn_rangeFunc fun fn _ => ?_
     obtain ⟨h1, h2⟩ := enterf hbd (w.heap.size + 1) ((w.alloc (.deferred (some []))).alloc (.loop { state := .ready, pending := none, fn, tmps := a.tmps, params := ps, assign, body, defers := w.heap.size }));obtain ⟨le1, rel1⟩ := hr.allocN .defd (.deferred (some [])) ⟨Base.mine_new hr.below, by simp [Env.newB], World.alloc_heap_new _ _⟩;have hsz : (w.alloc (.deferred (some []))).heap.size = w.heap.size + 1 := by simp
     have hf1 := hf.mono le1;obtain ⟨le2, rel2⟩ := rel1.allocN (.loop ⟨.ready, none, fr.t, fr.n, ps, assign, body⟩) (.loop { state := .ready, pending := none, fn, tmps := a.tmps, params := ps, assign, body, defers := w.heap.size })
      ⟨Base.mine_new rel1.below, by simp [Env.newB], fn, a.tmps, w.heap.size, World.alloc_heap_new _ _, hf.size, (hf1.mono (Env.le_newB (rel1.fresh _ (Nat.le_refl _)) _ _ _)).ft⟩
     have hle := Env.le_trans le1 le2;have hid : ((e.newB s w.heap.size 0 0).newB (s.newO .defd) (w.alloc (.deferred (some []))).heap.size 0 0).loc (s.newO .defd).nid = some (w.heap.size + 1) := by
      rw [hsz]; simp [Env.newB]
     have hmark : ((e.newB s w.heap.size 0 0).newB (s.newO .defd) (w.alloc (.deferred (some []))).heap.size 0 0).loc s.nid = some w.heap.size := (le2.loc _ _ (by simp [Env.newB])).1;refine ⟨_, _, _, _, _, f, _, _, run_enterLoop_outer fn a.tmps ps assign body, h1, fun f' _ => Fof_fn none f', h2, fun hx => (by rw [Fof_depth] at hx; cases hx), ?_⟩;have hfr : FrR ((e.newB s w.heap.size 0 0).newB (s.newO .defd) (w.alloc (.deferred (some []))).heap.size 0 0) ⟨fr.t, fr.n, .mark s.nid :: fr.defers⟩ { a with defers := [{ target := .collected w.heap.size, args := #[] }] ++ a.defers } :=
      ⟨hf.size, (hf.mono hle).ft, ⟨w.heap.size, a.defers, hmark, rfl, (hf.mono hle).df⟩⟩
     exact rangeA_ok S hc k rel2 hfr hid (hxs.mono hle) hle
    ·rename_i l0 hbd;split at k
     ·rename_i r0 hr0;obtain ⟨l1, rfl⟩ : ∃ l1, rl = some l1 := by cases rl <;> simp only [RL] at hl; exact ⟨_, rfl⟩
      have hl : e.loc l0 = some l1 := hl;obtain ⟨q, hq, _⟩ := hr.setLoop hr0 hl;refine wpIn_rangeFunc fun fn _ => ?_
      obtain ⟨h1, h2⟩ := enterf hbd w.heap.size (w.alloc (.loop { state := .ready, pending := none, fn, tmps := a.tmps, params := ps, assign, body, defers := q.defers }));obtain ⟨le2, rel2⟩ := hr.allocN (.loop ⟨.ready, none, fr.t, fr.n, ps, assign, body⟩) (.loop { state := .ready, pending := none, fn, tmps := a.tmps, params := ps, assign, body, defers := q.defers })
       ⟨Base.mine_new hr.below, by simp [Env.newB], fn, a.tmps, q.defers, World.alloc_heap_new _ _, hf.size, (hf.mono (Env.le_newB (hr.fresh _ (Nat.le_refl _)) _ _ _)).ft⟩
      have hid : (e.newB s w.heap.size 0 0).loc s.nid = some w.heap.size := by simp [Env.newB]
      have henter : (Instr.enterLoop fn a.tmps ps assign body (Fof (some l1)).round).run P w = .ok (w.heap.size, []) (w.alloc (.loop { state := .ready, pending := none, fn, tmps := a.tmps, params := ps, assign, body, defers := q.defers })) := by
       rw [Fof_round];unfold Instr.enterLoop;simp only [Sem.run_bind, run_getLoop hq, run_newObj_alloc, Result.andThen, Sem.run_pure]
      refine ⟨_, _, _, _, _, f, _, _, henter, h1, fun f' _ => Fof_fn _ f', h2, fun hx => (by rw [Fof_depth] at hx; cases hx), ?_⟩;exact rangeA_ok S hc k rel2 (hf.mono le2) hid (hxs.mono le2) le2
     ·cases k
    ·cases k
   ·cases k
  ·simp only [sme, pme] at k;obtain ⟨rfl, rfl, rfl⟩ := k;exact wpIn_exit ⟨e, Env.le_refl e, hr, rfl, hf.fx _⟩
  ·rename_i b;have hp8 : codeAt root (8 :: p) = some b := by simp [codeAt, hp, Code.child]
   split at k
   ·have hl0 : rl = none := by cases rl <;> simp only [RL] at hl <;> rfl
    subst hl0;refine wpIn_wide.2 (wp_scope_straight (wpIn_wide.1 (wpIn_mono (ih _ _ _ _ _ _ _ hp8 k e a w hr hf hl) fun ex a1 w1 g => ?_)));cases ex with
    | goto l =>
     obtain ⟨e1, g1, g2, g3, g4⟩ := g;cases x <;> exact g3.elim
    | _ => exact g
   ·cases k
  ·simp only [sme, pme] at k;obtain ⟨rfl, rfl, rfl⟩ := k;exact wpIn_label ⟨e, Env.le_refl e, hr, trivial, hf.fx _⟩
  ·simp only [sme, pme] at k;obtain ⟨rfl, rfl, rfl⟩ := k;exact wpIn_ret ⟨e, Env.le_refl e, hr, trivial, hf.fx _⟩

def putsT : T AV → Nat → List Tmp → List AV → Option (T AV)
 | t, _, [], [] => some t
 | t, n, p :: ps, v :: vs => match Nat.blt p n with
  | true => putsT (t.put p (some v)) n ps vs
  | false => none
 | _, _, _, _ => none

theorem putsT_ok {e : Env} {n : Nat} : ∀ (ps : List Tmp) (vs : List AV) (as : List Value) (t t' : T AV) (tmps : Array Value), putsT t n ps vs = some t' → VRs e vs as → tmps.size = n → (∀ i v, t.get i = some v → ∃ x, tmps[i]? = some x ∧ VR e v x) →
  ((ps.zip as).foldl (fun tmps (p : Tmp × Value) => tmps.setIfInBounds p.1 p.2) tmps).size = n ∧ ∀ i v, t'.get i = some v → ∃ x, ((ps.zip as).foldl (fun tmps (p : Tmp × Value) => tmps.setIfInBounds p.1 p.2) tmps)[i]? = some x ∧ VR e v x
 | [], [], as, t, t', tmps, k, h, hn, ht => by
  simp only [putsT, sme] at k;subst k;simp only [VRs] at h;subst h;exact ⟨hn, ht⟩
 | [], v :: vs, as, t, t', tmps, k, h, hn, ht => by cases k
 | p :: ps, [], as, t, t', tmps, k, h, hn, ht => by cases k
 | p :: ps, v :: vs, as, t, t', tmps, k, h, hn, ht => by
  simp only [putsT] at k;split at k
  ·rename_i hp;have hp : p < n := by simpa [Nat.blt_eq] using hp
   simp only [VRs] at h;obtain ⟨x, rest, rfl, h1, h2⟩ := h;refine putsT_ok ps vs rest _ t' (tmps.setIfInBounds p x) k h2 (by simpa using hn) fun i u hi => ?_
   rw [T.get_put] at hi;split at hi
   ·rename_i hip;subst hip;simp only [sme] at hi;subst hi;have hlt : i < tmps.size := by rw [hn]; exact hp
    exact ⟨x, by rw [Array.getElem?_setIfInBounds_self_of_lt hlt], h1⟩
   ·rename_i hip;obtain ⟨y, hy, hu⟩ := ht i u hi;exact ⟨y, by rw [Array.getElem?_setIfInBounds_ne (fun h => hip h.symm)]; exact hy, hu⟩
  ·cases k

def noLoops : Loops := fun _ _ _ => none
theorem noLoops_ok (P : Program) (Ω : Om) (w0 : Base) (root : Code) : LoopsOK P Ω w0 root noLoops := fun _ _ _ _ _ _ _ _ k => by cases k

def roundX (P : Program) (F : Facts) (call : Caller) (rnd : Rounder) (fuel : Nat) : Rounder := fun id args s =>
 match s.heap.get id with
 | some (.loop r0) => match r0.st, putsT r0.t r0.n r0.params.toList args with
  | .ready, some t0 => match execX P F noLoops call rnd (some id) fuel [] r0.assign ⟨t0, r0.n, []⟩ s with
   | some (.normal, fr1, s1) => match s1.heap.get id with
    | some (.loop r1) => match r1.st with
     | .ready => match execX P F noLoops call rnd (some id) fuel [] r0.body fr1 (s1.setO id (.loop { r1 with st := .busy })) with
      | some (x, _, s2) => match jumpOf x, s2.heap.get id with
       | some j, some (.loop r2) => some (j.isNone, s2.setO id (.loop { r2 with st := if j.isNone then .ready else .done, pending := j }))
       | _, _ => none
      | none => none
     | _ => none
    | _ => none
   | _ => none
  | _, _ => none
 | _ => none

theorem roundX_ok {P : Program} (S : Sound P) {Ω : Om} {w0 : Base} {call : Caller} (hc : CallOK P Ω w0 call) {rnd : Rounder} (hR : RoundOK P Ω w0 rnd) {F : Facts} (hF : FactsOK P Ω w0 F) (fuel : Nat) : RoundOK P Ω w0 (roundX P F call rnd fuel) := by
 intro id args s b s' k e w as hr ha;unfold roundX at k;split at k
 ·rename_i r0 h0;split at k
  ·rename_i t0 hst ht0;split at k
   ·rename_i fr1 s1 hx1;split at k
    ·rename_i r1 h1;split at k
     ·rename_i hst1;split at k
      ·rename_i x fr2 s2 hx2;split at k
       ·rename_i j r2 hj h2;simp only [sme, pme] at k;obtain ⟨rfl, rfl⟩ := k;obtain ⟨l, hl, _⟩ := hr.obj id _ h0;obtain ⟨q, hq, q1, q2, q3, q4, q5, q6, q7, _⟩ := hr.setLoop h0 hl;have hlen : as.toArray.size = q.params.size := by
         have hpl : ∀ (ps : List Tmp) (vs : List AV) (n : Nat) (t t' : T AV), putsT t n ps vs = some t' → vs.length = ps.length := by
          intro ps;induction ps with
          | nil => intro vs n t t' k; cases vs with
           | nil => rfl
           | cons v vs => cases k
          | cons p ps ih =>
           intro vs n t t' k;cases vs with
           | nil => cases k
           | cons v vs =>
            simp only [putsT] at k;split at k
            ·simp [ih _ _ _ _ k]
            ·cases k
         have := hpl _ _ _ _ _ ht0;have h3 := ha.length;rw [q3];simp only [List.size_toArray];rw [h3, this]
         simp
        obtain ⟨hn, hft⟩ := putsT_ok (e := e) (n := r0.n) r0.params.toList args as r0.t t0 q.tmps ht0 ha q6 q7;have hfold : (r0.params.zip as.toArray).foldl (fun tmps (p : Tmp × Value) => tmps.setIfInBounds p.1 p.2) q.tmps = (r0.params.toList.zip as).foldl (fun tmps (p : Tmp × Value) => tmps.setIfInBounds p.1 p.2) q.tmps := by
         rw [← Array.foldl_toList];congr 1
         simp
        refine ⟨l, hl, q.fn, (r0.params.toList.zip as).foldl (fun tmps (p : Tmp × Value) => tmps.setIfInBounds p.1 p.2) q.tmps, r0.assign, r0.body, ?_, fun n => ?_⟩
        ·rw [run_yield hq hlen, q3, q4, q5];congr 2
        ·have hLn : ((some l : Option Nat) = none ∧ LoopsOK P Ω w0 r0.assign noLoops) ∨ ∀ p fr s, noLoops p fr s = none := .inr fun _ _ _ => rfl
         have hLb : ((some l : Option Nat) = none ∧ LoopsOK P Ω w0 r0.body noLoops) ∨ ∀ p fr s, noLoops p fr s = none := .inr fun _ _ _ => rfl
         refine roundIn_of_wpIn trivial ?_;rw [show Fence.wide.inRound l = Fof (some l) from rfl];refine wpIn_mono ((execX_ok S hc hR hF (rl := some l) hLn n fuel).1 _ _ _ _ _ _ _ rfl hx1 e _ w hr ⟨hn, hft, rfl⟩ hl) fun ex a1 w1 ⟨e1, g1, g2, g3, g4⟩ => ?_
         cases ex <;> first
          | exact g3.elim
          | skip
         obtain ⟨u, hu, u1, u2, u3, u4, u5, u6, u7, hset⟩ := g2.setLoop h1 (g1.loc _ _ hl).1;refine ⟨_, run_beginRound hu (by rw [u1]; exact hst1), ?_⟩;have hrel2 := hset .busy u.pending;have hrec : ({ r1 with st := .busy, pending := u.pending } : LB) = { r1 with st := .busy } := by rw [u2]
         rw [hrec] at hrel2;refine wpIn_mono ((execX_ok S hc hR hF (rl := some l) hLb n fuel).1 _ _ _ _ _ _ _ rfl hx2 e1 a1 _ hrel2 g4 (g1.loc _ _ hl).1) fun ex2 a2 w2 ⟨e2, k1, k2, k3, k4⟩ => ?_
         obtain ⟨v, hv, _, _, _, _, _, _, _, hset2⟩ := k2.setLoop h2 ((Env.le_trans g1 k1).loc _ _ hl).1;have fin : ∀ jj : Option Code, j = jj → ∃ y w3, (Instr.endRound l jj).run P w2 = .ok y w3 ∧ ∃ e', e.le e' ∧ Rel Ω w0 e' (s2.setO id (.loop { r2 with st := if j.isNone then .ready else .done, pending := j })) w3 ∧ Ending.returned y = .returned (.bool j.isNone) := by
          intro jj hjj;subst hjj;exact ⟨_, _, run_endRound j hv, e2, Env.le_trans g1 k1, hset2 _ _, rfl⟩
         cases x with
         | normal => cases ex2 <;> first | exact k3.elim | exact fin none (by simpa [jumpOf] using hj.symm)
         | ret => cases ex2 <;> first | exact k3.elim | exact fin (some .ret) (by simpa [jumpOf] using hj.symm)
         | exit i =>
          cases ex2 with
          | exit i' =>
           have k3 : i = i' := k3;subst k3;exact fin (some (.exit i)) (by simpa [jumpOf] using hj.symm)
          | normal => exact k3.elim
          | ret => exact k3.elim
          | goto _ => exact k3.elim
          | panic _ => exact k3.elim
          | outgrown => exact k3.elim
         | panic c => cases hj
       ·cases k
      ·cases k
     ·cases k
    ·cases k
   ·cases k
  ·cases k
 ·cases k

def execR (P : Program) (F : Facts) (L : Loops) (call : Caller) (rnd : Rounder) (n : Nat) (p : List Nat) (c : Code) (fr : Fr) (s : St) : Option (X × Fr × St) := execX P F L call rnd none n p c fr s
theorem execR_ok {P : Program} (S : Sound P) {Ω : Om} {w0 : Base} {call : Caller} (hc : CallOK P Ω w0 call) {rnd : Rounder} (hR : RoundOK P Ω w0 rnd) {F : Facts} (hF : FactsOK P Ω w0 F) {root : Code} {L : Loops} (hL : LoopsOK P Ω w0 root L) (n : Nat) :
  (∀ (p : List Nat) (c : Code) (fr : Fr) (s : St) (x : X) (fr' : Fr) (s' : St), codeAt root p = some c → execR P F L call rnd n p c fr s = some (x, fr', s') → ∀ (e : Env) (a : Act) (w : World), Rel Ω w0 e s w → FrR e fr a → c.wp P (CodePost Ω w0 e x fr' s') a w) ∧
  (∀ (p : List Nat) (b : Code) (fr : Fr) (s : St) (x : X) (fr' : Fr) (s' : St), codeAt root p = some (.loop b) → execR P F L call rnd n p (.loop b) fr s = some (x, fr', s') → ∃ m, ∀ (e : Env) (a : Act) (w : World), Rel Ω w0 e s w → FrR e fr a →
   ∀ Q : Exit → Act → World → Prop, (∀ ex a w, CodePost Ω w0 e x fr' s' ex a w → Q ex a w) → Code.rounds P b Q m a w) := by
 obtain ⟨h1, h2⟩ := execX_ok S hc hR hF (r := none) (rl := none) (.inl ⟨rfl, hL⟩) 0 n;refine ⟨fun p c fr s x fr' s' hp k e a w hr hf => wpIn_wide.1 (h1 p c fr s x fr' s' hp k e a w hr hf trivial), fun p b fr s x fr' s' hp k => ?_⟩;obtain ⟨m, hm⟩ := h2 p b fr s x fr' s' hp k;exact ⟨m, fun e a w hr hf Q H => rounds_of_roundsIn m a w (hm e a w hr hf trivial Q H)⟩
def execC (P : Program) (F : Facts) (L : Loops) (call : Caller) (n : Nat) (p : List Nat) (c : Code) (fr : Fr) (s : St) : Option (X × Fr × St) := execR P F L call noRnd n p c fr s

theorem execC_ok {P : Program} (S : Sound P) {Ω : Om} {w0 : Base} {call : Caller} (hc : CallOK P Ω w0 call) {F : Facts} (hF : FactsOK P Ω w0 F) {root : Code} {L : Loops} (hL : LoopsOK P Ω w0 root L) (n : Nat) :
  (∀ (p : List Nat) (c : Code) (fr : Fr) (s : St) (x : X) (fr' : Fr) (s' : St), codeAt root p = some c → execC P F L call n p c fr s = some (x, fr', s') → ∀ (e : Env) (a : Act) (w : World), Rel Ω w0 e s w → FrR e fr a → c.wp P (CodePost Ω w0 e x fr' s') a w) ∧
  (∀ (p : List Nat) (b : Code) (fr : Fr) (s : St) (x : X) (fr' : Fr) (s' : St), codeAt root p = some (.loop b) → execC P F L call n p (.loop b) fr s = some (x, fr', s') → ∃ m, ∀ (e : Env) (a : Act) (w : World), Rel Ω w0 e s w → FrR e fr a →
   ∀ Q : Exit → Act → World → Prop, (∀ ex a w, CodePost Ω w0 e x fr' s' ex a w → Q ex a w) → Code.rounds P b Q m a w) := by
 exact execR_ok S hc (noRnd_ok P Ω w0) hF hL n

end Go.Ev
