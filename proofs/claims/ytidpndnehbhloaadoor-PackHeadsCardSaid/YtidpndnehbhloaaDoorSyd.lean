/- An evaluator of the model's code over abstract states, and its soundness: part 4: reading operations together; the state of memory. No condition. -/
import Derived.Test.YtidpndnehbhloaaDoorSyfl
namespace Go.Ev
open Go.RowKit

def evalParts (t : T AV) : List (Nat × Operand) → Option (List (Nat × AV))
 | [] => some []
 | (i, x) :: r => match evalO t x, evalParts t r with
  | some v, some s => some ((i, v) :: s)
  | _, _ => none

theorem evalParts_vr {e : Env} {t : T AV} {a : Act} (h : FT e t a) : ∀ (ps : List (Nat × Operand)) (l : List (Nat × AV)), evalParts t ps = some l →
  VRs e (l.map (·.2)) ((ps.map fun p => (p.1, a.eval p.2)).map (·.2)) ∧ l.map (·.1) = (ps.map fun p => (p.1, a.eval p.2)).map (·.1)
 | [], l, k => by simp only [evalParts, sme] at k; subst k; exact ⟨VRs_nil, rfl⟩
 | (i, x) :: r, l, k => by
  simp only [evalParts] at k;split at k
  ·rename_i v s hv hs;simp only [sme] at k;subst k;obtain ⟨h1, h2⟩ := evalParts_vr h r s hs;exact ⟨VRs_cons (evalO_vr h hv) h1, by simp only [List.map_cons, h2]⟩
  ·cases k

theorem evalL_vr {e : Env} {t : T AV} {a : Act} (h : FT e t a) : ∀ (ps : List Operand) (l : List AV), mapO (evalO t) ps = some l → VRs e l (ps.map a.eval)
 | [], l, k => by simp only [mapO, sme] at k; subst k; exact VRs_nil
 | x :: r, l, k => by
  simp only [mapO] at k;split at k
  ·rename_i v s hv hs;simp only [sme] at k;subst k;exact VRs_cons (evalO_vr h hv) (evalL_vr h r s hs)
  ·cases k

def lenOfA : AV → Option Nat
 | .slice _ _ len _ _ => some len
 | .hollow => some 0
 | .empty => some 0
 | .nilslice => some 0
 | _ => none

def quietB (P : Program) (m : Mem) (t : T AV) (o : Oper) : Option AV :=
 match o.op with
 | .move x | .assign x => evalO t x
 | .pick c a b => match evalO t c with
  | some (.bool true) => evalO t a
  | some (.bool false) => evalO t b
  | _ => none
 | .load ty x => match evalO t x with
  | some (.ptr i off) => loadA P m ty i off
  | _ => none
 | .nilCheck x => match evalO t x with
  | some (.ptr i off) => some (.ptr i off)
  | some (.func f cs) => some (.func f cs)
  | some (.iface ty v) => some (.iface ty v)
  | _ => none
 | .fieldAddr s x f => match evalO t x with
  | some (.ptr i off) => (fieldA P s f off).map (.ptr i)
  | _ => none
 | .indexAddr ty x ix => match evalO t x, evalO t ix with
  | some a, some b => indexA P ty a b
  | _, _ => none
 | .slice ty x lo hi mx => match evalO t x, optO t lo, optO t hi, optO t mx with
  | some a, some l, some h, some c => match sliceA P ty a l h c with
   | some v => some v
   | none => pureOp P t o
  | _, _, _, _ => none
 | .binOp op ty x y _ => match evalO t x, evalO t y with
  | some a, some b => match eqA P m ty a b with
   | some r => match op with
    | .eql => some (.bool r)
    | .neq => some (.bool (!r))
    | _ => none
   | none => pureOp P t o
  | _, _ => none
 | .makeInterface ty x => match P.underlying ty with
  | some (.interface _) => none
  | some _ => (evalO t x).map (.iface ty)
  | none => none
 | .makeFunc (.func f) first captured => match first.toList with
  | [] => (mapO (evalO t) captured.toList).map (.func f)
  | x :: r => match captured.toList with
   | [] => (mapO (evalO t) (x :: r)).map (.bound f)
   | _ => none
 | .build ty parts => match evalParts t parts.toList with
  | some ps => buildA P ty ps
  | none => none
 | .extract x i => match evalO t x with
  | some (.tuple vs) => vs[i]?
  | _ => none
 | .field xT x f => match evalO t x with
  | some (.agg cs) => match P.underlying xT with
   | some (.struct fs) => match fs[f]? with
    | some fd => partA P fd.type cs fd.offset
    | none => none
   | _ => none
  | _ => none
 | .index xT x ix => match evalO t x, evalO t ix with
  | some (.agg cs), some (.int _ n) => match P.underlying xT with
   | some (.array len el) => match P.info? el with
    | some inf => match decide (0 ≤ n ∧ n < len) with
     | true => partA P el cs (n.toNat * inf.size)
     | false => none
    | none => none
   | _ => none
  | _, _ => pureOp P t o
 | .typeAssert x _ asserted ok => match evalO t x with
  | some v => assertA P v asserted ok
  | none => none
 | .convert src dst x => match evalO t x with
  | some v => match convA P m src dst v with
   | some r => some r
   | none => pureOp P t o
  | none => none
 | .makeFunc f first captured => match first.toList, captured.toList with
  | [], [] => some (.vfn f)
  | _, _ => none
 | .call { callee := .builtin .len, args := args, argTypes := tys } => match args.toList, tys.toList with
  | [x], [ty] => match evalO t x with
   | some v => match lenOfA v with
    | some n => match P.underlying ty with
     | some (.slice _) => some (.int .i64 n)
     | _ => none
    | none => pureOp P t o
   | none => none
  | _, _ => none
 | _ => pureOp P t o

theorem toList_nil {α : Type} {a : Array α} (h : a.toList = []) : a = #[] := by cases a; simp_all
theorem toList_one {α : Type} {a : Array α} {x : α} (h : a.toList = [x]) : a = #[x] := by cases a; simp_all
theorem toList_two {α : Type} {a : Array α} {x y : α} (h : a.toList = [x, y]) : a = #[x, y] := by cases a; simp_all

theorem quietB_run {P : Program} {e : Env} {m : Mem} {M : World → Prop} (R : Reads P e m M) {t : T AV} {a : Act} (h : FT e t a) {o : Oper} {v : AV} (k : quietB P m t o = some v) :
  ∃ x, VR e v x ∧ ∀ w, M w → (execOp a.eval o).run P w = .ok (.value x) w := by
 have pure : pureOp P t o = some v → ∃ x, VR e v x ∧ ∀ w, M w → (execOp a.eval o).run P w = .ok (.value x) w := fun k =>
  let ⟨x, h1, h2⟩ := pureOp_run h k
  ⟨x, h1, fun w _ => h2 w⟩
 unfold quietB at k;split at k;case h_1 x hop => exact ⟨_, evalO_vr h k, fun w _ => by simp [execOp, hop]⟩
 case h_2 x hop => exact ⟨_, evalO_vr h k, fun w _ => by simp [execOp, hop]⟩
 case h_3 c x y hop =>
  split at k
  ·rename_i hc;have := evalO_vr h hc;simp only [VR] at this;exact ⟨_, evalO_vr h k, fun w _ => by simp [execOp, hop, this, asBool]⟩
  ·rename_i hc;have := evalO_vr h hc;simp only [VR] at this;exact ⟨_, evalO_vr h k, fun w _ => by simp [execOp, hop, this, asBool]⟩
  ·cases k
 case h_4 ty x hop =>
  split at k
  ·rename_i i off hx;have := evalO_vr h hx;simp only [VR] at this;obtain ⟨b, hb, hx⟩ := this;obtain ⟨z, hz, hr⟩ := loadA_run R k hb;exact ⟨z, hz, fun w hw => by simp [execOp, hop, hx, Instr.loadAt, Instr.sureAddr, hr w hw]⟩
  ·cases k
 case h_5 x hop =>
  split at k
  ·rename_i hx;simp only [sme] at k;subst k;have hv := evalO_vr h hx;have := hv;simp only [VR] at this;obtain ⟨b, hb, hx⟩ := this;exact ⟨_, hv, fun w _ => by simp [execOp, hop, hx]⟩
  ·rename_i hx;simp only [sme] at k;subst k;have hv := evalO_vr h hx;have := hv;simp only [VR] at this;obtain ⟨b, hx, hb⟩ := this;exact ⟨_, hv, fun w _ => by simp [execOp, hop, hx]⟩
  ·rename_i hx;simp only [sme] at k;subst k;have hv := evalO_vr h hx;have := hv;simp only [VR] at this;obtain ⟨b, hx, hb⟩ := this;exact ⟨_, hv, fun w _ => by simp [execOp, hop, hx]⟩
  ·cases k
 case h_6 s x f hop =>
  split at k
  ·rename_i i off hx;simp only [Option.map_eq_some_iff] at k;obtain ⟨off', hf, rfl⟩ := k;have := evalO_vr h hx;simp only [VR] at this;obtain ⟨b, hb, hx⟩ := this;exact ⟨_, by simp only [VR]; exact ⟨b, hb, rfl⟩, fun w _ => by simp [execOp, hop, hx, fieldA_run hf b w]⟩
  ·cases k
 case h_7 ty x ix hop =>
  split at k
  ·rename_i u v' hx hi;obtain ⟨y, hy, hr⟩ := indexA_run (P := P) k (evalO_vr h hx) (evalO_vr h hi);exact ⟨y, hy, fun w _ => by simp [execOp, hop, hr w]⟩
  ·cases k
 case h_8 ty x lo hi mx hop =>
  split at k
  ·rename_i u l hh c hx hl hhi hc;split at k
   ·rename_i v' hs;simp only [sme] at k;subst k;obtain ⟨y, hy, hr⟩ := sliceA_run (P := P) hs (evalO_vr h hx) (optO_or h hl) (optO_or h hhi) (optO_or h hc);exact ⟨y, hy, fun w _ => by simp [execOp, hop, hr w]⟩
   ·exact pure k
  ·cases k
 case h_9 op ty x y yt hop =>
  split at k
  ·rename_i u v' hx hy;split at k
   ·rename_i r hr;obtain ⟨h1, h2, h3, h4⟩ := eqA_run R hr (evalO_vr h hx) (evalO_vr h hy);split at k
    ·simp only [sme] at k;subst k;exact ⟨.bool r, by simp only [VR], fun w hw => by simp only [execOp, hop, Sem.run_bind, h2, Result.andThen_ok, h3, h1 w hw, Sem.run_pure]⟩
    ·simp only [sme] at k;subst k;exact ⟨.bool !r, by simp only [VR], fun w hw => by simp only [execOp, hop, Sem.run_bind, h2, Result.andThen_ok, h4, h1 w hw, Sem.run_pure]⟩
    ·cases k
   ·exact pure k
  ·cases k
 case h_10 ty x hop =>
  split at k
  ·cases k
  ·rename_i d hni hu;simp only [Option.map_eq_some_iff] at k;obtain ⟨u, hx, rfl⟩ := k;refine ⟨_, by simp only [VR]; exact ⟨_, rfl, evalO_vr h hx⟩, fun w _ => ?_⟩;cases d <;> first
    | exact (hni _ rfl).elim
    | simp [execOp, hop, Instr.makeInterface, run_underlying hu]
  ·cases k
 case h_11 f first captured hop =>
  split at k
  ·rename_i hfirst;simp only [Option.map_eq_some_iff] at k;obtain ⟨cs, hcs, rfl⟩ := k;have := evalL_vr h _ _ hcs;refine ⟨.func (.func f) #[] (captured.map a.eval), by simp only [VR]; exact ⟨_, rfl, by simpa using this⟩, fun w _ => ?_⟩;have := toList_nil hfirst;subst this;simp [execOp, hop, Instr.makeFunc]
  ·rename_i x r hfirst;split at k
   ·rename_i hcap;simp only [Option.map_eq_some_iff] at k;obtain ⟨cs, hcs, rfl⟩ := k;have := evalL_vr h _ _ hcs;refine ⟨.func (.func f) (first.map a.eval) #[], by simp only [VR]; exact ⟨_, rfl, by rw [Array.toList_map, hfirst]; exact this⟩, fun w _ => ?_⟩;have := toList_nil hcap;subst this;simp [execOp, hop, Instr.makeFunc]
   ·cases k
 case h_12 ty parts hop =>
  split at k
  ·rename_i ps hps;obtain ⟨h1, h2⟩ := evalParts_vr h _ _ hps;obtain ⟨y, hy, hr⟩ := buildA_run (P := P) (qs := parts.map fun (i, x) => (i, a.eval x)) k (by simpa using h1) (by simpa using h2);exact ⟨y, hy, fun w _ => by simp [execOp, hop, hr w]⟩
  ·cases k
 case h_13 x i hop =>
  split at k
  ·rename_i vs hx;have := evalO_vr h hx;simp only [VR] at this;obtain ⟨as, hx, hs⟩ := this;obtain ⟨y, hy, hv⟩ := hs.at _ _ k;have hy : as[i]? = some y := by simpa using hy
   exact ⟨y, hv, fun w _ => by simp [execOp, hop, hx, Instr.extract, hy]⟩
  ·cases k
 case h_14 xT x f hop =>
  split at k
  ·rename_i cs hx;split at k
   ·rename_i fs hu;split at k
    ·rename_i fd hf;have := evalO_vr h hx;simp only [VR] at this;obtain ⟨as, hx, hs⟩ := this;obtain ⟨y, hy, hr⟩ := partA_run (P := P) k hs;exact ⟨y, hy, fun w _ => by simp [execOp, hop, hx, Instr.field, run_underlying hu, hf, asAgg, hr w]⟩
    ·cases k
   ·cases k
  ·cases k
 case h_15 xT x ix hop =>
  split at k
  ·rename_i cs kk n hx hi;split at k
   ·rename_i len el hu;split at k
    ·rename_i inf hinf;split at k
     ·rename_i hd;have hd := of_decide_eq_true hd;have hx' := evalO_vr h hx;have hi' := evalO_vr h hi;simp only [VR] at hx' hi';obtain ⟨as, hx, hs⟩ := hx';obtain ⟨y, hy, hr⟩ := partA_run (P := P) k hs;exact ⟨y, hy, fun w _ => by simp [execOp, hop, hx, hi', Instr.index, asIntOf, run_underlying hu, hd, sizeOf, typeInfo, hinf, hr w]⟩
     ·cases k
    ·cases k
   ·cases k
  ·exact pure k
 case h_16 x xT asserted ok hop =>
  split at k
  ·rename_i u hx;obtain ⟨y, hy, hr⟩ := assertA_run (P := P) (xT := xT) k (evalO_vr h hx);exact ⟨y, hy, fun w _ => by simp [execOp, hop, hr w]⟩
  ·cases k
 case h_17 src dst x hop =>
  split at k
  ·rename_i u hx;split at k
   ·rename_i r hr;simp only [sme] at k;subst k;obtain ⟨y, hy, hr⟩ := convA_run R hr (evalO_vr h hx);exact ⟨y, hy, fun w hw => by simp [execOp, hop, hr w hw]⟩
   ·exact pure k
  ·cases k
 case h_18 f first captured _ hop =>
  split at k
  ·rename_i hf hc;simp only [sme] at k;subst k;have hf := toList_nil hf;have hc := toList_nil hc;subst hf hc;exact ⟨.func f #[] #[], by simp only [VR], fun w _ => by simp [execOp, hop, Instr.makeFunc]⟩
  ·cases k
 case h_19 args tys hop =>
  split at k
  ·rename_i x ty ha ht;split at k
   ·rename_i u hx;split at k
    ·rename_i n hn;split at k
     ·rename_i el hu;simp only [sme] at k;subst k;have hx' := evalO_vr h hx;obtain ⟨b, c, hx''⟩ : ∃ b c, a.eval x = .slice b n c := by
       unfold lenOfA at hn;split at hn <;> simp only [sme, reduceCtorEq] at hn
       ·subst hn; simp only [VR] at hx'; obtain ⟨b, _, hx'⟩ := hx'; exact ⟨_, _, hx'⟩
       ·subst hn; simp only [VR] at hx'; obtain ⟨b, _, hx'⟩ := hx'; exact ⟨_, _, hx'⟩
       ·subst hn; simp only [VR] at hx'; rcases hx' with hx' | ⟨b, _, hx'⟩ <;> exact ⟨_, _, hx'⟩
       ·subst hn; simp only [VR] at hx'; exact ⟨_, _, hx'⟩
      refine ⟨.int .i64 n, by simp only [VR], fun w _ => ?_⟩;have := toList_one ha;subst this;have := toList_one ht;subst this;simp [execOp, hop, resolve, invoke, builtin, Builtin.len_, hx'', run_underlying hu, goInt]
     ·cases k
    ·exact pure k
   ·cases k
  ·cases k
 case h_20 => exact pure k

def factA (F : Op → List AV → Option AV) (t : T AV) (o : Oper) : Option AV :=
 match mapO (evalO t) o.op.operands.toList with
 | some avs => F o.op avs
 | none => none

def quietM (P : Program) (m : Mem) (t : T AV) (o : Oper) : Option AV :=
 match m.fact with
 | none => quietB P m t o
 | some F => match factA F t o with
  | some v => some v
  | none => quietB P m t o

theorem quietM_run {P : Program} {e : Env} {m : Mem} {M : World → Prop} (R : Reads P e m M) {t : T AV} {a : Act} (h : FT e t a) {o : Oper} {v : AV} (k : quietM P m t o = some v) :
  ∃ x, VR e v x ∧ ∀ w, M w → (execOp a.eval o).run P w = .ok (.value x) w := by
 unfold quietM at k;split at k
 ·exact quietB_run R h k
 ·rename_i F hF;split at k
  ·rename_i u hu;simp only [sme] at k;subst k;unfold factA at hu;split at hu
   ·rename_i avs havs;exact R.fact F hF o a avs _ hu (evalL_vr h _ _ havs)
   ·cases hu
  ·exact quietB_run R h k


def sameKind : FloatKind → FloatKind → Bool
 | .f32, .f32 => true
 | .f64, .f64 => true
 | _, _ => false
theorem sameKind_eq {k l : FloatKind} (h : sameKind k l = true) : k = l := by cases k <;> cases l <;> simp_all [sameKind]

def cmpNan : BinOp → Option AV
 | .neq => some (.bool true)
 | .eql => some (.bool false)
 | .lss => some (.bool false)
 | .leq => some (.bool false)
 | .gtr => some (.bool false)
 | .geq => some (.bool false)
 | _ => none

def nanCmp (op : BinOp) : AV → AV → Option AV
 | .nan k, .nan l => match sameKind k l with
  | true => cmpNan op
  | false => none
 | .nan k, .float l _ => match sameKind k l with
  | true => cmpNan op
  | false => none
 | .float k _, .nan l => match sameKind k l with
  | true => cmpNan op
  | false => none
 | _, _ => none

theorem nan_read {f : Ieee.Format} {x : Nat} (h : (f.read x).isNaN = true) : ∃ s t, f.read x = .nan s t := by
 revert h;cases f.read x <;> simp [Ieee.Datum.isNaN]

theorem order_nan {f : Ieee.Format} {x y : Nat} (h : (f.read x).isNaN = true ∨ (f.read y).isNaN = true) : f.order x y = none := by
 unfold Ieee.Format.order;rcases h with h | h
 ·obtain ⟨s, t, hs⟩ := nan_read h;rw [hs]; simp [Ieee.Datum.order]
 ·obtain ⟨s, t, hs⟩ := nan_read h;rw [hs]; cases f.read x <;> simp [Ieee.Datum.order]

theorem cmpNan_run {P : Program} {op : BinOp} {v : AV} (k : cmpNan op = some v) {kd : FloatKind} {x y : Nat} (h : (kd.format.read x).isNaN = true ∨ (kd.format.read y).isNaN = true)
  {e : Env} (xT : TypeId) (a b : Operand) :
  ∃ z, VR e v z ∧ ∀ w, (do eqGuard op xT a b (.float kd x) (.float kd y); binOp op xT (.float kd x) (.float kd y) : Sem Value).run P w = .ok z w := by
 have ho := order_nan h;cases op <;> simp only [cmpNan, reduceCtorEq, sme] at k <;> subst k <;>
  exact ⟨_, by simp only [VR]; rfl, fun w => by simp [eqGuard, binOp, Op.floatCmp, ho]⟩

theorem nanCmp_run {P : Program} {op : BinOp} {v u r : AV} (k : nanCmp op v u = some r) {e : Env} {x y : Value} (hx : VR e v x) (hy : VR e u y) (xT : TypeId) (a b : Operand) :
  ∃ z, VR e r z ∧ ∀ w, (do eqGuard op xT a b x y; binOp op xT x y : Sem Value).run P w = .ok z w := by
 unfold nanCmp at k;split at k;all_goals first
  | cases k; done
  | skip
 all_goals
  split at k;case h_2 => cases k
  rename_i hk;have hk := sameKind_eq hk;subst hk;simp only [VR] at hx hy
 ·obtain ⟨p, rfl, hp⟩ := hx;obtain ⟨q, rfl, hq⟩ := hy;exact cmpNan_run k (.inl hp) xT a b
 ·obtain ⟨p, rfl, hp⟩ := hx;subst hy;exact cmpNan_run k (.inl hp) xT a b
 ·obtain ⟨q, rfl, hq⟩ := hy;subst hx;exact cmpNan_run k (.inr hq) xT a b

def quietN (t : T AV) (o : Oper) : Option AV :=
 match o.op with
 | .binOp op _ x y _ => match evalO t x, evalO t y with
  | some a, some b => nanCmp op a b
  | _, _ => none
 | _ => none

theorem quietN_run {P : Program} {e : Env} {t : T AV} {a : Act} (h : FT e t a) {o : Oper} {v : AV} (k : quietN t o = some v) :
  ∃ x, VR e v x ∧ ∀ w, (execOp a.eval o).run P w = .ok (.value x) w := by
 unfold quietN at k;split at k
 ·rename_i op xT x y yT hop;split at k
  ·rename_i a' b' hx hy;obtain ⟨z, h1, h2⟩ := nanCmp_run (P := P) k (evalO_vr h hx) (evalO_vr h hy) xT x y;refine ⟨z, h1, fun w => ?_⟩;have := h2 w;simp only [execOp, hop];rw [Sem.run_bind, this];rfl
  ·cases k
 ·cases k

def quietX (P : Program) (t : T AV) (o : Oper) : Option AV :=
 match o.op with
 | .call { callee := .value fo, args := args, argTypes := _ } => match evalO t fo with
  | some (.func f []) => match P.funcs[f]? with
   | some fn => match fn.body.isNone && args.all fun x => (valOf t x).isSome with
    | true => match pureRun P (callFunc f (args.map fun x => (valOf t x).getD undef)) with
     | some (.value v) => ofVal 8 v
     | _ => none
    | false => none
   | none => none
  | _ => none
 | _ => none

theorem quietX_run {P : Program} {e : Env} {t : T AV} {a : Act} (h : FT e t a) {o : Oper} {v : AV} (k : quietX P t o = some v) :
  ∃ x, VR e v x ∧ ∀ w, (execOp a.eval o).run P w = .ok (.value x) w := by
 unfold quietX at k;split at k
 ·rename_i fo args tys hop;split at k
  ·rename_i f hf;split at k
   ·split at k
    ·rename_i hall;split at k
     ·rename_i x hx;refine ⟨x, ofVal_vr _ _ _ k, fun w => ?_⟩;have hfv := evalO_vr h hf;simp only [VR] at hfv;obtain ⟨as, hfv, has⟩ := hfv;simp only [VRs] at has;have has : as = #[] := by cases as; simp_all
      subst has;simp only [bae] at hall;have hargs : args.map a.eval = args.map fun x => (valOf t x).getD undef := by
       apply Array.map_congr_left;intro y hy;have := Array.all_eq_true_iff_forall_mem.1 hall.2 y hy;obtain ⟨z, hz⟩ := Option.isSome_iff_exists.1 this;rw [hz];simp only [valOf, Option.bind_eq_some_iff] at hz;obtain ⟨u, hu, hz⟩ := hz;exact VR.toVal u _ _ (evalO_vr h hu) hz
      have hrun := pureRun_run _ _ hx w;rw [← hargs] at hrun;simp only [execOp, hop, resolve, hfv, Deferred.ofValue, Sem.run_bind, Sem.run_pure, Result.andThen_ok, invoke];rw [show (#[] ++ args.map a.eval ++ #[] : Array Value) = args.map a.eval by apply Array.ext'; simp];exact hrun
     ·cases k
    ·cases k
   ·cases k
  ·cases k
 ·cases k

def quietR (P : Program) (m : Mem) (t : T AV) (o : Oper) : Option AV :=
 match quietM P m t o with
 | some v => some v
 | none => match quietN t o with
  | some v => some v
  | none => match quietX P t o with
   | some v => some v
   | none => match quietS P m t o with
    | some v => some v
    | none => match quietF P m t o with
     | some v => some v
     | none => quietV P m t o

def quietA (P : Program) (m : Mem) (t : T AV) (o : Oper) : Option AV :=
 match quietQ P m t o with
 | some v => some v
 | none => quietR P m t o

theorem quietA_run {P : Program} {e : Env} {m : Mem} {M : World → Prop} (R : Reads P e m M) {t : T AV} {a : Act} (h : FT e t a) {o : Oper} {v : AV} (k : quietA P m t o = some v) :
  ∃ x, VR e v x ∧ ∀ w, M w → (execOp a.eval o).run P w = .ok (.value x) w := by
 unfold quietA at k;split at k
 ·rename_i u hu;simp only [sme] at k;subst k;exact quietQ_run R h hu
 unfold quietR at k;split at k
 ·rename_i u hu;simp only [sme] at k;subst k;exact quietM_run R h hu
 ·split at k
  ·rename_i u hu;simp only [sme] at k;subst k;obtain ⟨x, h1, h2⟩ := quietN_run (P := P) h hu;exact ⟨x, h1, fun w _ => h2 w⟩
  ·split at k
   ·rename_i u hu;simp only [sme] at k;subst k;obtain ⟨x, h1, h2⟩ := quietX_run (P := P) h hu;exact ⟨x, h1, fun w _ => h2 w⟩
   ·split at k
    ·rename_i u hu;simp only [sme] at k;subst k;exact quietS_run R h hu
    ·split at k
     ·rename_i u hu;simp only [sme] at k;subst k;exact quietF_run R h hu
     ·exact quietV_run R h k

end Go.Ev
