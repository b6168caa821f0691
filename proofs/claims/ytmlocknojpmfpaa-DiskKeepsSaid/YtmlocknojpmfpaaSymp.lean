/- A range over a map whose rounds add up what a function that only reads answers. No condition. -/
import Derived.Test.YtmlocknojpmfpaaSyj
import Derived.Maps.RangeRun
namespace Go.Ev
open Go.RowKit Go.ChangeMaps Go.MapKept

structure Still (w w' : World) : Prop where
 heap : w'.heap = w.heap
 os : w'.os = w.os
 tape : w'.tape = w.tape
 output : w'.output = w.output
theorem Still.refl (w : World) : Still w w := ⟨rfl, rfl, rfl, rfl⟩
theorem Still.trans {a b c : World} (h : Still a b) (k : Still b c) : Still a c := ⟨k.heap.trans h.heap, k.os.trans h.os, k.tape.trans h.tape, k.output.trans h.output⟩
theorem Rel.still {Ω : Om} {w0 : Base} {e : Env} {s : St} {w w' : World} (h : Rel Ω w0 e s w) (k : Still w w') : Rel Ω w0 e s w' :=
 ⟨h.opq, h.below.step k.os k.tape k.output (by rw [k.heap]; exact Nat.le_refl _) (fun _ _ => by rw [k.heap]), h.fresh, h.inj,
  fun id o ho => let ⟨j, h1, h2⟩ := h.obj id o ho; ⟨j, h1, h2.mono (Env.le_refl e) h1 (by rw [k.heap])⟩, fun j arr hj => by rw [k.heap]; exact h.pool j arr hj, h.apart, h.grow, h.hold⟩

abbrev QC := FuncId → List AV → Option AV
def QCOK (P : Program) (Ω : Om) (w0 : Base) (s : St) (qc : QC) : Prop :=
 ∀ f args v, qc f args = some v → ∀ e w as, Rel Ω w0 e s w → VRs e args as → Calls P f as.toArray w fun E w' => ∃ y, E = .returned y ∧ VR e v y ∧ Still w w'

def quietCall (P : Program) (qc : QC) (t : T AV) (o : Oper) : Option AV := match o.op with
 | .call { callee := .value fo, args := args, argTypes := _ } => match evalO t fo, mapO (evalO t) args.toList with
  | some (.func f cs), some as => match bodied P f with
   | true => qc f (as ++ cs)
   | false => none
  | _, _ => none
 | _ => none

def quietOps (P : Program) (m : Mem) (qc : QC) (ops : Array Oper) : List Oper → Fr → Option Fr
 | [], fr => some fr
 | o :: rest, fr => match wantedA ops fr.t o with
  | some true => match quietA P m fr.t o with
   | some v => match putA fr o.dst v with
    | some fr' => quietOps P m qc ops rest fr'
    | none => none
   | none => match quietCall P qc fr.t o with
    | some v => match putA fr o.dst v with
     | some fr' => quietOps P m qc ops rest fr'
     | none => none
    | none => none
  | some false => match putA fr o.dst undefA with
   | some fr' => quietOps P m qc ops rest fr'
   | none => none
  | none => none

def dsts (l : List Oper) : List Nat := l.filterMap (·.dst)
structure Same (W : List Nat) (a a' : Act) : Prop where
 get : ∀ i, i ∉ W → a'.tmps[i]? = a.tmps[i]?
 size : a'.tmps.size = a.tmps.size
 defers : a'.defers = a.defers
theorem Same.refl (W : List Nat) (a : Act) : Same W a a := ⟨fun _ _ => rfl, rfl, rfl⟩
theorem Same.trans {W : List Nat} {a b c : Act} (h : Same W a b) (k : Same W b c) : Same W a c := ⟨fun i hi => (k.get i hi).trans (h.get i hi), k.size.trans h.size, k.defers.trans h.defers⟩
theorem Same.mono {V W : List Nat} {a b : Act} (h : Same V a b) (k : ∀ i, i ∈ V → i ∈ W) : Same W a b := ⟨fun i hi => h.get i fun x => hi (k i x), h.size, h.defers⟩
theorem Same.put (a : Act) (d : Option Tmp) (x : Value) {W : List Nat} (h : ∀ i, d = some i → i ∈ W) : Same W a (a.put d x) := by
 cases d with
 | none => exact Same.refl W a
 | some i =>
  refine ⟨fun j hj => ?_, by simp [Act.put], rfl⟩;simp only [Act.put];rw [Array.getElem?_setIfInBounds_ne (fun hji => hj (by rw [← hji]; exact h i rfl))]
theorem put_self {a : Act} {i : Nat} (x : Value) (h : i < a.tmps.size) : (a.put (some i) x).tmps[i]? = some x := by
 simp only [Act.put]; rw [Array.getElem?_setIfInBounds_self_of_lt h]
theorem Same.eval {W : List Nat} {a b : Act} (h : Same W a b) {i : Nat} (hi : i ∉ W) : b.eval (.tmp i) = a.eval (.tmp i) := by
 simp only [Act.eval, Array.getD_eq_getD_getElem?, h.get i hi]
theorem eval_of {a : Act} {i : Nat} {x : Value} (h : a.tmps[i]? = some x) : a.eval (.tmp i) = x := by
 simp only [Act.eval, Array.getD_eq_getD_getElem?, h, Option.getD_some]

theorem quietOps_ok {P : Program} (S : Sound P) {Ω : Om} {w0 : Base} {F : Facts} (hF : FactsOK P Ω w0 F) {s : St} {qc : QC} (hq : QCOK P Ω w0 s qc) (N : Nat) (ops : Array Oper) {e : Env} (tail : List Oper) : ∀ (l : List Oper) (fr fr' : Fr), quietOps P (s.memF F) qc ops l fr = some fr' →
  ∀ (a : Act) (w : World), Rel Ω w0 e s w → FrR e fr a → ∀ Q : Exit → Act → World → Prop, (∀ a' w', Still w w' → FrR e fr' a' → Same (dsts l) a a' → wpListIn (Fof none) N P ops Q tail a' w') → wpListIn (Fof none) N P ops Q (l ++ tail) a w
 | [], fr, fr', k, a, w, hr, hf, Q, H => by
  simp only [quietOps, sme] at k;subst k;exact H _ _ (Still.refl w) hf (Same.refl _ a)
 | o :: rest, fr, fr', k, a, w, hr, hf, Q, H => by
  have onD : ∀ i, o.dst = some i → i ∈ dsts (o :: rest) := fun i hi => by simp [dsts, List.filterMap_cons, hi]
  have sub : ∀ i, i ∈ dsts rest → i ∈ dsts (o :: rest) := fun i hi => by
   simp only [dsts, List.filterMap_cons];split
   ·exact hi
   ·exact List.mem_cons.2 (.inr hi)
  unfold quietOps at k;rw [List.cons_append];unfold wpListIn;split at k
  ·rename_i hw;rw [if_pos (by rw [wantedA_ok hf.ft hw])];split at k
   ·rename_i v hqv;obtain ⟨y, hy, hrun⟩ := quietA_run (hr.readsF hF) hf.ft hqv;split at k
    ·rename_i fr1 hp;refine wpIn_of_wpOp (r := none) rfl ?_;simp only [Oper.wp, hrun w rfl, Oper.upon_value];exact quietOps_ok S hF hq N ops tail rest fr1 fr' k _ w hr (hf.put hy hp) Q fun a' w' h1 h2 h3 => H a' w' h1 h2 ((Same.put a o.dst y onD).trans (h3.mono sub))
    ·cases k
   ·split at k
    ·rename_i v hcv;split at k
     ·rename_i fr1 hp;refine wpIn_of_wpOp (r := none) rfl ?_;unfold quietCall at hcv;split at hcv
      ·rename_i fo args tys hop;split at hcv
       ·rename_i f cs as hfo has;split at hcv
        ·rename_i hbd;unfold bodied at hbd;split at hbd
         ·rename_i fn hfn;obtain ⟨c, hcb⟩ := Option.isSome_iff_exists.1 hbd;have hfv := evalO_vr hf.ft hfo;simp only [VR] at hfv;obtain ⟨xs, hfv, hxs⟩ := hfv;have hargs := evalL_vr hf.ft _ _ has;have hrun : (execOp a.eval o).run P w = .ok (.enter f ((args.toList.map a.eval) ++ xs.toList).toArray) w := by
           simp only [execOp, hop, resolve, hfv, Deferred.ofValue, Sem.run_bind, Sem.run_pure, Result.andThen_ok, invoke, run_callFunc S hfn hcb];congr 2;apply Array.ext'
           simp
          simp only [Oper.wp, hrun, Oper.upon_enter];refine (hq _ _ _ hcv e w _ hr (hargs.append hxs)).mono fun E w' ⟨y, hE, hy, hst⟩ => ?_
          subst hE;exact quietOps_ok S hF hq N ops tail rest fr1 fr' k _ w' (hr.still hst) (hf.put hy hp) Q fun a' w'' h1 h2 h3 => H a' w'' (hst.trans h1) h2 ((Same.put a o.dst y onD).trans (h3.mono sub))
         ·cases hbd
        ·cases hcv
       ·cases hcv
      ·cases hcv
     ·cases k
    ·cases k
  ·rename_i hw;rw [if_neg (by rw [wantedA_ok hf.ft hw]; simp)];split at k
   ·rename_i fr1 hp;exact ⟨fun f _ => Fof_fn none f, quietOps_ok S hF hq N ops tail rest fr1 fr' k _ w hr (hf.put undefA_vr hp) Q fun a' w' h1 h2 h3 => H a' w' h1 h2 ((Same.put a o.dst undef onD).trans (h3.mono sub))⟩
   ·cases k
  ·cases k

def quietR2 (P : Program) (m : Mem) (qc : QC) (ops : Array Oper) (draw : Bool) (fr : Fr) : Option Fr := match draw with
 | false => quietOps P m qc ops ops.toList fr
 | true => match ops.all (okIn none) && Region.lexB .any ops with
  | true => stillRun P m ops ops.toList fr
  | false => none

def quietC (P : Program) (m : Mem) (qc : QC) : Nat → Code → Fr → Option (Bool × Fr)
 | 0, _, _ => none
 | n + 1, c, fr => match c with
  | .skip => some (false, fr)
  | .ret => some (true, fr)
  | .region _ ops draw => match quietR2 P m qc ops draw fr with
   | some fr' => some (false, fr')
   | none => none
  | .seq a b => match quietC P m qc n a fr with
   | some (false, fr') => quietC P m qc n b fr'
   | r => r
  | .cond c a b => match evalO fr.t c with
   | some (.bool true) => quietC P m qc n a fr
   | some (.bool false) => quietC P m qc n b fr
   | _ => none
  | _ => none

def stillPost (e : Env) (b : Bool) (fr : Fr) (w : World) : Exit → Act → World → Prop := fun ex a' w' => ex = (if b then .ret else .normal) ∧ Still w w' ∧ FrR e fr a'

theorem quietC_ok {P : Program} (S : Sound P) {Ω : Om} {w0 : Base} {F : Facts} (hF : FactsOK P Ω w0 F) {s : St} {qc : QC} (hq : QCOK P Ω w0 s qc) (N : Nat) {e : Env} : ∀ (n : Nat) (c : Code) (fr : Fr) (b : Bool) (fr' : Fr), quietC P (s.memF F) qc n c fr = some (b, fr') →
  ∀ (a : Act) (w : World), Rel Ω w0 e s w → FrR e fr a → c.wpIn (Fof none) N P (stillPost e b fr' w) a w
 | 0, _, _, _, _, k => by cases k
 | n + 1, c, fr, b, fr', k => by
  intro a w hr hf;unfold quietC at k;split at k
  ·simp only [sme, pme] at k;obtain ⟨rfl, rfl⟩ := k;exact wpIn_skip ⟨rfl, Still.refl w, hf⟩
  ·simp only [sme, pme] at k;obtain ⟨rfl, rfl⟩ := k;exact wpIn_ret ⟨rfl, Still.refl w, hf⟩
  ·rename_i id ops draw;split at k
   ·rename_i fr1 h1;simp only [sme, pme] at k;obtain ⟨rfl, rfl⟩ := k;unfold quietR2 at h1;split at h1
    ·refine wpIn_region ?_;rw [List.range_eq_range', ← Array.length_toList, wpOpsIn_eq_wpListIn ops.toList 0 (by simp)];rw [show ops.toList = ops.toList ++ [] by simp];exact quietOps_ok S hF hq N ops [] _ _ _ h1 a w hr hf _ fun a' w' h2 h3 _ => ⟨rfl, h2, h3⟩
    ·split at h1
     ·rename_i hc;simp only [bae] at hc;obtain ⟨hall, hlex⟩ := hc;refine wpIn_region_any S.mixed (anyIn_of_any hall _ _ _ _ ?_);have h := stillRun_ok hF hr.drew ops (fun a' => stillPost e false fr1 w .normal a' { w with drawn := w.drawn + 1 }) _ _ _ h1 a hf fun a' h => ⟨rfl, ⟨rfl, rfl, rfl, rfl⟩, h⟩
      simp only [Region.lexB, bae] at hlex;refine anyW_of_any (Q := stillPost e false fr1 w) (fun h => by obtain ⟨_, _, h, _⟩ := h; simp at h) _ _ _ _ (wpAny_of_still (Q := fun a' => stillPost e false fr1 w .normal a' { w with drawn := w.drawn + 1 }) (fun _ h => h) _ _ _ ?_);have := wpAnyS_lex (md := .any) hlex.1 ops.toList 0 (Array.replicate ops.size false) a (by simp) (by simpa using hlex.2) h;simpa using this
     ·cases h1
   ·cases k
  ·rename_i ca cb;split at k
   ·rename_i fr1 h1;refine wpIn_seq (wpIn_mono (quietC_ok S hF hq N n _ _ _ _ h1 a w hr hf) fun ex a1 w1 ⟨g1, g2, g3⟩ => ?_);simp only [Bool.false_eq_true, if_false] at g1;subst g1;exact wpIn_mono (quietC_ok S hF hq N n _ _ _ _ k a1 w1 (hr.still g2) g3) fun ex a w h => ⟨h.1, g2.trans h.2.1, h.2.2⟩
   ·rename_i hnn;refine wpIn_seq (wpIn_mono (quietC_ok S hF hq N n _ _ _ _ k a w hr hf) fun ex a1 w1 ⟨g1, g2, g3⟩ => ?_);cases b with
    | false => exact (hnn _ k).elim
    | true =>
     simp only [if_true] at g1;subst g1;exact ⟨rfl, g2, g3⟩
  ·split at k
   ·rename_i hcnd;have := evalO_vr hf.ft hcnd;simp only [VR] at this;exact wpIn_cond (t := true) this (quietC_ok S hF hq N n _ _ _ _ k a w hr hf)
   ·rename_i hcnd;have := evalO_vr hf.ft hcnd;simp only [VR] at this;exact wpIn_cond (t := false) this (quietC_ok S hF hq N n _ _ _ _ k a w hr hf)
   ·cases k
  ·cases k

def quietFn (P : Program) (m : Mem) : Nat → QC
 | 0 => fun _ _ => none
 | d + 1 => fun f args => match P.funcs[f]? with
  | some fn => match fn.body with
   | some c => match Nat.ble args.length fn.ntmps with
    | true => match quietC P m (quietFn P m d) 40 c ⟨T.nil.putL 0 args, fn.ntmps, []⟩ with
     | some (true, fr) => match fr.defers with
      | [] => resultsA P m fn fr.t
      | _ => none
     | _ => none
    | false => none
   | none => none
  | none => none

theorem quietFn_ok {P : Program} (S : Sound P) {Ω : Om} {w0 : Base} {F : Facts} (hF : FactsOK P Ω w0 F) {s : St} : ∀ d, QCOK P Ω w0 s (quietFn P (s.memF F) d)
 | 0 => fun _ _ _ k => by cases k
 | d + 1 => by
  intro f args v k e w as hr ha;simp only [quietFn] at k;split at k
  ·rename_i fn hfn;split at k
   ·rename_i c hcb;split at k
    ·rename_i hn;have hn := ble_le hn;have hfr := frame_start ha hn;split at k
     ·rename_i fr h1;split at k
      ·rename_i hd;refine calls_of_wp hfn hcb ((wpIn_wide (n := 0)).1 ?_);refine wpIn_mono (quietC_ok S hF (quietFn_ok S hF d) 0 _ _ _ _ _ h1 _ w hr hfr) fun ex a w1 ⟨g1, g2, g3⟩ => ?_
       simp only [if_true] at g1;subst g1;obtain ⟨y, hy, hrun⟩ := resultsA_run ((hr.still g2).readsF hF) g3.ft k;have hdf := g3.df;rw [hd] at hdf;exact ⟨hdf, y, hrun w1 rfl, y, rfl, hy, g2⟩
      ·cases k
     ·cases k
    ·cases k
   ·cases k
  ·cases k

structure SumL where
 it : Nat
 tn : Nat
 tx : Nat
 xi : Nat
 te : Nat
 a1 : Nat
 a4 : Nat
 acc : Nat
 y : Operand
 o1 : Oper
 o2 : Oper
 o3 : Oper
 o4 : Oper
 o5 : Oper
 o6 : Oper
 r6 : List Oper
 md : List Oper
 ops5 : Array Oper
 ops6 : Array Oper
 ops7 : Array Oper

structure SumL.Good (L : SumL) (b : Code) : Prop where
 code : ∃ i5 ib i6 i7, b = .seq (.region i5 L.ops5 false) (.seq (.cond (.tmp L.tx) .skip (.exit L.xi)) (.block ib (.seq (.region i6 L.ops6 false) (.region i7 L.ops7 false))))
 l5 : L.ops5.toList = [L.o1, L.o2]
 l6 : L.ops6.toList = L.o3 :: L.r6
 l7 : L.ops7.toList = L.o4 :: (L.md ++ [L.o5, L.o6])
 op1 : L.o1.op = .next (.tmp L.it) false ∧ L.o1.dst = some L.tn ∧ L.o1.guard = none
 op2 : L.o2.op = .extract (.tmp L.tn) 0 ∧ L.o2.dst = some L.tx ∧ L.o2.guard = none
 op3 : L.o3.op = .entry (.tmp L.it) ∧ L.o3.dst = some L.te ∧ L.o3.guard = none
 op4 : L.o4.op = .move (.tmp L.acc) ∧ L.o4.dst = some L.a1 ∧ L.o4.guard = none
 op5 : (∃ t u, L.o5.op = .binOp .add t (.tmp L.a1) L.y u) ∧ L.o5.dst = some L.a4 ∧ L.o5.guard = none
 op6 : L.o6.op = .assign (.tmp L.a4) ∧ L.o6.dst = some L.acc ∧ L.o6.guard = none

def lastTwo : List Oper → Option (List Oper × Oper × Oper)
 | [] => none
 | [_] => none
 | [a, b] => some ([], a, b)
 | a :: r => match lastTwo r with
  | some (m, x, y) => some (a :: m, x, y)
  | none => none
theorem lastTwo_eq : ∀ {l m : List Oper} {x y : Oper}, lastTwo l = some (m, x, y) → l = m ++ [x, y]
 | [], _, _, _, h => by cases h
 | [_], _, _, _, h => by cases h
 | [a, b], _, _, _, h => by simp only [lastTwo, sme, pme] at h; obtain ⟨rfl, rfl, rfl⟩ := h; rfl
 | a :: b :: c :: r, _, _, _, h => by
  simp only [lastTwo] at h;split at h
  ·rename_i m x y hm;simp only [sme, pme] at h;obtain ⟨rfl, rfl, rfl⟩ := h;rw [lastTwo_eq hm]; rfl
  ·cases h

def sumShape (b : Code) : Option SumL := match b with
 | .seq (.region _ ops5 false) (.seq (.cond (.tmp tx) .skip (.exit xi)) (.block _ (.seq (.region _ ops6 false) (.region _ ops7 false)))) => match ops5.toList, ops6.toList, ops7.toList with
  | [o1, o2], o3 :: r6, o4 :: r7 => match lastTwo r7 with
   | some (md, o5, o6) => match o1.op, o1.dst, o1.guard, o2.op, o2.dst, o2.guard with
    | .next (.tmp it) false, some tn, none, .extract (.tmp tn2) 0, some tx2, none => match o3.op, o3.dst, o3.guard, o4.op, o4.dst, o4.guard with
     | .entry (.tmp it2), some te, none, .move (.tmp acc), some a1, none => match o5.op, o5.dst, o5.guard, o6.op, o6.dst, o6.guard with
      | .binOp .add _ (.tmp a12) y _, some a4, none, .assign (.tmp a42), some acc2, none =>
       match Nat.beq tn2 tn && Nat.beq tx2 tx && Nat.beq it2 it && Nat.beq a12 a1 && Nat.beq a42 a4 && Nat.beq acc2 acc with
       | true => some ⟨it, tn, tx, xi, te, a1, a4, acc, y, o1, o2, o3, o4, o5, o6, r6, md, ops5, ops6, ops7⟩
       | false => none
      | _, _, _, _, _, _ => none
     | _, _, _, _, _, _ => none
    | _, _, _, _, _, _ => none
   | none => none
  | _, _, _ => none
 | _ => none

theorem sumShape_ok {b : Code} {L : SumL} (h : sumShape b = some L) : L.Good b := by
 unfold sumShape at h;split at h
 ·rename_i i5 ops5 tx xi ib i6 ops6 i7 ops7;split at h
  ·rename_i o1 o2 o3 r6 o4 r7 h5 h6 h7;split at h
   ·rename_i md o5 o6 h2;split at h
    ·rename_i it tn tn2 tx2 e1 e2 e3 e4 e5 e6;split at h
     ·rename_i it2 te acc a1 f1 f2 f3 f4 f5 f6;split at h
      ·rename_i xt a12 y yt a4 a42 acc2 g1 g2 g3 g4 g5 g6;split at h
       ·rename_i hc;simp only [bae] at hc;obtain ⟨⟨⟨⟨⟨c1, c2⟩, c3⟩, c4⟩, c5⟩, c6⟩ := hc;obtain rfl := beq_t c1;obtain rfl := beq_t c2;obtain rfl := beq_t c3;obtain rfl := beq_t c4;obtain rfl := beq_t c5;obtain rfl := beq_t c6;simp only [sme] at h;subst h;exact ⟨⟨_, _, _, _, rfl⟩, h5, h6, by rw [h7, lastTwo_eq h2], ⟨e1, e2, e3⟩, ⟨e4, e5, e6⟩, ⟨f1, f2, f3⟩, ⟨f4, f5, f6⟩, ⟨⟨_, _, g1⟩, g2, g3⟩, ⟨g4, g5, g6⟩⟩
       ·cases h
      ·cases h
     ·cases h
    ·cases h
   ·cases h
  ·cases h
 ·cases h

def memN (i : Nat) : List Nat → Bool
 | [] => false
 | j :: l => Nat.beq i j || memN i l
theorem memN_iff {i : Nat} : ∀ {l : List Nat}, memN i l = true ↔ i ∈ l
 | [] => by simp [memN]
 | j :: l => by simp [memN, memN_iff (l := l), Nat.beq_eq]
theorem memN_not {i : Nat} {l : List Nat} (h : memN i l = false) : i ∉ l := fun k => by rw [memN_iff.2 k] at h; cases h

def clearT : List Nat → T AV → T AV
 | [], t => t
 | i :: l, t => clearT l (t.put i none)
theorem clearT_get : ∀ (l : List Nat) (t : T AV) (i : Nat) (v : AV), (clearT l t).get i = some v → i ∉ l ∧ t.get i = some v
 | [], t, i, v, h => ⟨by simp, h⟩
 | j :: l, t, i, v, h => by
  obtain ⟨h1, h2⟩ := clearT_get l _ i v h;rw [T.get_put] at h2;split at h2
  ·cases h2
  ·rename_i hne;exact ⟨by simp [hne, h1], h2⟩

def SumL.W (L : SumL) : List Nat := L.tn :: L.tx :: L.te :: L.a1 :: L.a4 :: L.acc :: (dsts L.r6 ++ dsts L.md)
def SumL.fine (L : SumL) (n : Nat) : Bool :=
 Nat.blt L.tn n && Nat.blt L.tx n && Nat.blt L.te n && Nat.blt L.a1 n && Nat.blt L.a4 n && Nat.blt L.acc n && !memN L.it L.W && !memN L.a1 (dsts L.md) && !memN L.acc (L.tn :: L.tx :: L.te :: L.a1 :: L.a4 :: dsts L.r6) && !Nat.beq L.tn L.tx

def SumL.one (L : SumL) (P : Program) (m : Mem) (fr : Fr) (kd : IntKind) (x : ME) : Option E :=
 match putA fr (some L.te) (.tuple [x.key, x.val]) with
 | some fr1 => match quietOps P m (quietFn P m 3) L.ops6 L.r6 fr1 with
  | some fr2 => match fr2.t.get L.a1 with
   | none => match quietOps P m (quietFn P m 3) L.ops7 L.md fr2 with
    | some fr3 => match evalO fr3.t L.y with
     | some v => match toE v with
      | some (k, c) => match decide (k = kd) with
       | true => some c
       | false => none
      | none => none
     | none => none
    | none => none
   | some _ => none
  | none => none
 | none => none

def SumL.all (L : SumL) (P : Program) (m : Mem) (fr : Fr) (kd : IntKind) : List ME → Option (List (Nat × E))
 | [] => some []
 | x :: l => match L.one P m fr kd x, SumL.all L P m fr kd l with
  | some c, some r => some ((x.born, c) :: r)
  | _, _ => none

def nodupB : List Nat → Bool
 | [] => true
 | i :: l => !memN i l && nodupB l
theorem nodupB_ok : ∀ {l : List Nat}, nodupB l = true → l.Nodup
 | [], _ => List.nodup_nil
 | i :: l, h => by
  simp only [nodupB, bae, Bool.not_eq_true'] at h;exact List.nodup_cons.2 ⟨memN_not h.1, nodupB_ok h.2⟩
def allBelow (c : Nat) : List ME → Bool
 | [] => true
 | x :: l => Nat.blt x.born c && allBelow c l
def allPos (A : Ask) : List (Nat × E) → Bool
 | [] => true
 | x :: l => (match askQ A (.le (.int 0) x.2) with
  | some true => true
  | _ => false) && allPos A l
def sumE (x : E) : List (Nat × E) → E
 | [] => x
 | y :: l => sumE (x.add y.2) l
def numbersOf (Ω : Om) (l : List (Nat × E)) : List (Nat × Int) := l.map fun x => (x.1, x.2.i Ω)
def sumAll : List (Nat × Int) → Int
 | [] => 0
 | x :: l => x.2 + sumAll l
def sumOf (seen : Array Nat) : List (Nat × Int) → Int
 | [] => 0
 | x :: l => (if seen.contains x.1 then x.2 else 0) + sumOf seen l

def sumLoop (P : Program) (F : Facts) (b : Code) (fr : Fr) (s : St) : Option (X × Fr × St) :=
 match sumShape b with
 | none => none
 | some L => match L.fine fr.n, fr.t.get L.it, fr.t.get L.acc with
  | true, some (.ptr iid 0), some va => match toE va with
   | none => none
   | some (kd, x0) => match s.heap.get iid with
    | some (.miter m since) => match s.heap.get m with
     | some (.map es clock) => match L.all P ((s.del iid).memF F) ⟨clearT L.W fr.t, fr.n, fr.defers⟩ kd es with
      | some cs => match Nat.ble since clock && allBelow since es && nodupB (es.map (·.born)) && allPos F.ask cs && fitB F.ask kd (sumE x0 cs) with
       | true => some (.exit L.xi, ⟨(clearT L.W fr.t).put L.acc (some (mkS kd (sumE x0 cs))), fr.n, fr.defers⟩, s.del iid)
       | false => none
      | none => none
     | _ => none
    | _ => none
  | _, _, _ => none

theorem sumOf_none : ∀ l, sumOf #[] l = 0
 | [] => rfl
 | x :: l => by simp [sumOf, sumOf_none l]
theorem sumOf_full {seen : Array Nat} : ∀ {l : List (Nat × Int)}, (∀ x ∈ l, seen.contains x.1 = true) → sumOf seen l = sumAll l
 | [], _ => rfl
 | x :: l, h => by
  have h1 := sumOf_full (l := l) fun y hy => h y (by simp [hy])
  simp only [sumOf, sumAll, h x (by simp), if_true, h1]
theorem sumOf_other {seen : Array Nat} {b : Nat} : ∀ {l : List (Nat × Int)}, b ∉ l.map (·.1) → sumOf (seen.push b) l = sumOf seen l
 | [], _ => rfl
 | x :: l, h => by
  have h1 : (x.1 == b) = false := by
   cases hc : x.1 == b with
   | false => rfl
   | true => exact absurd (by simp [(beq_iff_eq.1 hc).symm]) h
  simp only [sumOf, contains_push, h1, Bool.or_false, sumOf_other fun hx => h (by simp only [List.map_cons, List.mem_cons]; exact .inr hx)]
theorem sumOf_push {seen : Array Nat} {b : Nat} {c : Int} (hs : seen.contains b = false) : ∀ {l : List (Nat × Int)}, (l.map (·.1)).Nodup → (b, c) ∈ l → sumOf (seen.push b) l = sumOf seen l + c
 | x :: l, hn, h => by
  obtain ⟨n1, n2⟩ := List.nodup_cons.1 (show (x.1 :: l.map (·.1)).Nodup from hn);rcases List.mem_cons.1 h with rfl | h
  ·simp only [sumOf, contains_push, hs, beq_self_eq_true, Bool.or_true, if_true, Bool.false_eq_true, if_false, sumOf_other n1];omega
  ·have hne : (x.1 == b) = false := by
    cases hc : x.1 == b with
    | false => rfl
    | true => exact absurd (List.mem_map.2 ⟨_, h, (beq_iff_eq.1 hc).symm⟩) n1
   simp only [sumOf, contains_push, hne, Bool.or_false, sumOf_push hs n2 h];omega
theorem allPos_mem {Ω : Om} {A : Ask} (hA : AskOK Ω A) : ∀ {l : List (Nat × E)}, allPos A l = true → ∀ x ∈ numbersOf Ω l, 0 ≤ x.2
 | [], _, x, hx => by simp [numbersOf] at hx
 | y :: l, h, x, hx => by
  simp only [allPos, bae] at h;simp only [numbersOf, List.map_cons, List.mem_cons] at hx;rcases hx with rfl | hx
  ·have h1 := h.1;split at h1
   ·rename_i hq;have := askQ_val hA hq;show 0 ≤ y.2.i Ω;exact of_decide_eq_true this
   ·cases h1
  ·exact allPos_mem hA h.2 x hx
theorem sumE_i (Ω : Om) : ∀ (l : List (Nat × E)) (x : E), (sumE x l).i Ω = x.i Ω + sumAll (numbersOf Ω l)
 | [], x => by simp [sumE, numbersOf, sumAll]
 | y :: l, x => by
  simp only [sumE, sumE_i Ω l, E.add_i, numbersOf, List.map_cons, sumAll];omega
theorem sumOf_le {seen : Array Nat} : ∀ {l : List (Nat × Int)}, (∀ x ∈ l, 0 ≤ x.2) → 0 ≤ sumOf seen l ∧ sumOf seen l ≤ sumAll l
 | [], _ => ⟨Int.le_refl 0, Int.le_refl 0⟩
 | x :: l, h => by
  have h1 := sumOf_le (seen := seen) (l := l) fun y hy => h y (by simp [hy])
  have h2 := h x (by simp);simp only [sumOf, sumAll];split <;> omega

theorem SumL.all_mem {L : SumL} {P : Program} {m : Mem} {fr : Fr} {kd : IntKind} : ∀ {es : List ME} {cs : List (Nat × E)}, L.all P m fr kd es = some cs → cs.map (·.1) = es.map (·.born) ∧ ∀ x ∈ es, ∃ c, L.one P m fr kd x = some c ∧ (x.born, c) ∈ cs
 | [], cs, h => by simp only [SumL.all, sme] at h; subst h; exact ⟨rfl, fun x hx => by cases hx⟩
 | y :: l, cs, h => by
  simp only [SumL.all] at h;split at h
  ·rename_i c r h1 h2;simp only [sme] at h;subst h;obtain ⟨g1, g2⟩ := SumL.all_mem h2;refine ⟨by simp [g1], fun x hx => ?_⟩;rcases List.mem_cons.1 hx with rfl | hx
   ·exact ⟨c, h1, by simp⟩
   ·obtain ⟨c', k1, k2⟩ := g2 x hx;exact ⟨c', k1, by simp [k2]⟩
  ·cases h

theorem Rel.aside {Ω : Om} {w0 : Base} {e : Env} {s : St} {w w' : World} (h : Rel Ω w0 e s w) {r : Nat} (hm : w0.mine r) (hnp : e.h r = none) (hno : ∀ i o, s.heap.get i = some o → e.loc i ≠ some r)
  (hh : ∀ j, j ≠ r → w'.heap[j]? = w.heap[j]?) (hos : w'.os = w.os) (ht : w'.tape = w.tape) (ho : w'.output = w.output) (hs : w.heap.size ≤ w'.heap.size) : Rel Ω w0 e s w' :=
 ⟨h.opq, h.below.step hos ht ho hs fun k hk => hh k (Base.mine_ne hm hk), h.fresh, h.inj, fun i o hi => let ⟨k, h1, h2⟩ := h.obj i o hi; ⟨k, h1, h2.mono (Env.le_refl e) h1 (hh k fun x => hno i o hi (x ▸ h1))⟩,
  fun k arr hk => by rw [hh k (fun x => by subst x; rw [hnp] at hk; cases hk)]; exact h.pool k arr hk, h.apart, h.grow, h.hold⟩

theorem MR.borns {e : Env} : ∀ {l : List ME} {es : List MapEntry}, MR e l es → es.map (·.born) = l.map (·.born)
 | [], es, h => by simp only [MR] at h; subst h; rfl
 | m :: r, es, h => by
  obtain ⟨x, rest, rfl, _, _, h3, h4⟩ := h;simp only [List.map_cons, h3, h4.borns]
theorem MR.mem {e : Env} : ∀ {l : List ME} {es : List MapEntry}, MR e l es → ∀ x ∈ es, ∃ m ∈ l, VR e m.key x.key ∧ VR e m.val x.val ∧ x.born = m.born
 | [], es, h, x, hx => by simp only [MR] at h; subst h; cases hx
 | m :: r, es, h, x, hx => by
  obtain ⟨y, rest, rfl, h1, h2, h3, h4⟩ := h;rcases List.mem_cons.1 hx with rfl | hx
  ·exact ⟨m, by simp, h1, h2, h3⟩
  ·obtain ⟨m', k1, k2⟩ := h4.mem x hx;exact ⟨m', by simp [k1], k2⟩
theorem allBelow_mem {c : Nat} : ∀ {l : List ME}, allBelow c l = true → ∀ x ∈ l, x.born < c
 | y :: l, h, x, hx => by
  simp only [allBelow, bae] at h;rcases List.mem_cons.1 hx with rfl | hx
  ·simpa [Nat.blt_eq] using h.1
  ·exact allBelow_mem h.2 x hx

theorem FrR.unput {e : Env} {fr : Fr} {a : Act} (H : FrR e fr a) {i : Nat} (h : fr.t.get i = none) (x : Value) : FrR e fr (a.put (some i) x) :=
 ⟨by simpa [Act.put] using H.size, fun j v hj => by
  have hne : i ≠ j := fun y => by rw [y, hj] at h; cases h
  obtain ⟨y, hy, hv⟩ := H.ft j v hj;exact ⟨y, by simp only [Act.put]; rw [Array.getElem?_setIfInBounds_ne hne]; exact hy, hv⟩, H.df⟩
theorem FrR.same {e : Env} {fr : Fr} {a a' : Act} {W : List Nat} {t : T AV} (H : FrR e ⟨clearT W t, fr.n, fr.defers⟩ a) (h : Same W a a') : FrR e ⟨clearT W t, fr.n, fr.defers⟩ a' :=
 ⟨h.size.trans H.size, fun j v hj => by
  obtain ⟨y, hy, hv⟩ := H.ft j v hj;exact ⟨y, by rw [h.get j (clearT_get W t j v hj).1]; exact hy, hv⟩, by rw [h.defers]; exact H.df⟩

theorem sumLoop_ok {P : Program} (S : Sound P) {Ω : Om} {w0 : Base} {F : Facts} (hF : FactsOK P Ω w0 F) {b : Code} {fr : Fr} {s : St} {x : X} {fr' : Fr} {s' : St} (k : sumLoop P F b fr s = some (x, fr', s')) :
  ∃ m, ∀ e a w, Rel Ω w0 e s w → FrR e fr a → ∀ Q : Exit → Act → World → Prop, (∀ ex a w, CodePost Ω w0 e x fr' s' ex a w → Q ex a w) → Code.rounds P b Q m a w := by
 unfold sumLoop at k;split at k
 ·cases k
 rename_i L hL;split at k
 rotate_left
 ·cases k
 rename_i iid va hfine hit hacc;split at k
 ·cases k
 rename_i kd x0 hva;split at k
 rotate_left
 ·cases k
 rename_i m since hrow;split at k
 rotate_left
 ·cases k
 rename_i es clock hmap;split at k
 rotate_left
 ·cases k
 rename_i cs hcs;split at k
 rotate_left
 ·cases k
 rename_i hc;simp only [bae] at hc;obtain ⟨⟨⟨⟨c1, c2⟩, c3⟩, c4⟩, c5⟩ := hc;have c1 := ble_le c1;have c3 := nodupB_ok c3;simp only [sme, pme] at k;obtain ⟨rfl, rfl, rfl⟩ := k;have G := sumShape_ok hL;obtain ⟨⟨i5, ib, i6, i7, rfl⟩, l5, l6, l7, ⟨p1, q1, g1⟩, ⟨p2, q2, g2⟩, ⟨p3, q3, g3⟩, ⟨p4, q4, g4⟩, ⟨⟨t5, u5, p5⟩, q5, g5⟩, ⟨p6, q6, g6⟩⟩ := G;simp only [SumL.fine, bae, Bool.not_eq_true'] at hfine;obtain ⟨⟨⟨⟨⟨⟨⟨⟨⟨n1, n2⟩, n3⟩, n4⟩, n5⟩, n6⟩, f1⟩, f2⟩, f3⟩, f4⟩ := hfine;simp only [Nat.blt_eq] at n1 n2 n3 n4 n5 n6;have f1 := memN_not f1;have f2 := memN_not f2;have f3 := memN_not f3;have f4 : L.tn ≠ L.tx := fun h => by rw [h] at f4; simp at f4
 obtain ⟨a1, a2⟩ := SumL.all_mem hcs;have ndc : (cs.map (·.1)).Nodup := by rw [a1]; exact c3
 refine ⟨es.length + 1, fun e a w hr hf Q H => ?_⟩;have hA : AskOK e.opq F.ask := by rw [hr.opq]; exact hF.ask
 have pos := allPos_mem hA c4;have hsum := sumE_i e.opq cs x0;have hfitT := fitB_val hA c5;rw [hsum] at hfitT;have hx0 : inK kd (x0.i e.opq) := by
  obtain ⟨y, hy, hv⟩ := hf.ft _ _ hacc;exact (toE_val hva hv).2
 have nd2 : ((numbersOf e.opq cs).map (·.1)).Nodup := by
  rw [show (numbersOf e.opq cs).map (·.1) = cs.map (·.1) by simp [numbersOf]]; exact ndc
 generalize hN : numbersOf e.opq cs = ns at pos hsum hfitT nd2;have nsb : ns.map (·.1) = es.map (·.born) := by rw [← hN, ← a1]; simp [numbersOf]
 -- where things lie
 obtain ⟨r, hr1, hrm, hrb, bm, hbm, hheap⟩ := hr.obj iid _ hrow;obtain ⟨bm', hb1, hbm1, hbb, arr, harr, hMR⟩ := hr.obj m _ hmap;obtain rfl : bm' = bm := by rw [hbm] at hb1; exact (Option.some.inj hb1).symm
 have hrp : e.h r = none := hr.apart iid _ r hrow rfl hr1;have hne : r ≠ bm' := fun x => by rw [x, harr] at hheap; cases hheap
 have hdel : ∀ i o, (s.del iid).heap.get i = some o → i ≠ iid ∧ s.heap.get i = some o := by
  intro i o hi;rw [St.del_eq] at hi;simp only [T.get_put] at hi;split at hi
  ·cases hi
  ·rename_i hne; exact ⟨hne, hi⟩
 have hno : ∀ i o, (s.del iid).heap.get i = some o → e.loc i ≠ some r := fun i o hi hl => (hdel i o hi).1 (hr.inj1 (hdel i o hi).2 hrow hrm hrp hl hr1)
 have hr0 : Rel Ω w0 e (s.del iid) w := hr.del iid;have hborn : arr.toList.map (·.born) = es.map (·.born) := hMR.borns;have hnd : (arr.toList.map (·.born)).Nodup := by rw [hborn]; exact c3
 have hold : ∀ x ∈ arr.toList, x.born < since := fun x hx => by
  obtain ⟨y, hy, _, _, h3⟩ := hMR.mem x hx;rw [h3]; exact allBelow_mem c2 y hy
 have hW : ∀ i, i ∈ [L.tn, L.tx, L.te, L.a1, L.a4, L.acc] → i ∈ L.W := fun i hi => by
  simp only [List.mem_cons, List.not_mem_nil, or_false] at hi;simp only [SumL.W, List.mem_cons];rcases hi with h | h | h | h | h | h <;> simp [h]
 have hW6 : ∀ i, i ∈ dsts L.r6 → i ∈ L.W := fun i hi => by simp [SumL.W, hi]
 have hWm : ∀ i, i ∈ dsts L.md → i ∈ L.W := fun i hi => by simp [SumL.W, hi]
 -- the rounds
 have key : ∀ (n : Nat) (seen : Array Nat) (c0 : Nat) (a : Act) (w : World), (leftOf arr seen).size ≤ n → since ≤ c0 → Rel Ω w0 e (s.del iid) w → w.heap[bm']? = some (.map arr clock) → w.heap[r]? = some (.mapIter (some bm') since seen c0) →
   FrR e ⟨clearT L.W fr.t, fr.n, fr.defers⟩ a → a.tmps[L.acc]? = some (.int kd (x0.i e.opq + sumOf seen ns)) → a.tmps[L.it]? = some (.pointer (some ⟨r, 0, none⟩)) →
   Code.rounds P (.seq (.region i5 L.ops5 false) (.seq (.cond (.tmp L.tx) .skip (.exit L.xi)) (.block ib (.seq (.region i6 L.ops6 false) (.region i7 L.ops7 false))))) Q (n + 1) a w := by
  have step : ∀ n : Nat, (∀ k, n = k + 1 → ∀ (seen : Array Nat) (c0 : Nat) (a : Act) (w : World), (leftOf arr seen).size ≤ k → since ≤ c0 → Rel Ω w0 e (s.del iid) w → w.heap[bm']? = some (.map arr clock) → w.heap[r]? = some (.mapIter (some bm') since seen c0) →
    FrR e ⟨clearT L.W fr.t, fr.n, fr.defers⟩ a → a.tmps[L.acc]? = some (.int kd (x0.i e.opq + sumOf seen ns)) → a.tmps[L.it]? = some (.pointer (some ⟨r, 0, none⟩)) →
    Code.rounds P (.seq (.region i5 L.ops5 false) (.seq (.cond (.tmp L.tx) .skip (.exit L.xi)) (.block ib (.seq (.region i6 L.ops6 false) (.region i7 L.ops7 false))))) Q (k + 1) a w) →
    ∀ (seen : Array Nat) (c0 : Nat) (a : Act) (w : World), (leftOf arr seen).size ≤ n → since ≤ c0 → Rel Ω w0 e (s.del iid) w → w.heap[bm']? = some (.map arr clock) → w.heap[r]? = some (.mapIter (some bm') since seen c0) →
    FrR e ⟨clearT L.W fr.t, fr.n, fr.defers⟩ a → a.tmps[L.acc]? = some (.int kd (x0.i e.opq + sumOf seen ns)) → a.tmps[L.it]? = some (.pointer (some ⟨r, 0, none⟩)) →
    Code.rounds P (.seq (.region i5 L.ops5 false) (.seq (.cond (.tmp L.tx) .skip (.exit L.xi)) (.block ib (.seq (.region i6 L.ops6 false) (.region i7 L.ops7 false))))) Q (n + 1) a w := by
   intro n ih seen c0 a w hleft hsc hr hma hri hf hacc hit;rw [rounds_succ];refine (wpIn_wide (n := 0)).1 ?_;have hsz : a.tmps.size = fr.n := hf.size;have hev : a.eval (.tmp L.it) = .pointer (some ⟨r, 0, none⟩) := eval_of hit;refine wpIn_seq (wpIn_region ?_);rw [List.range_eq_range', ← Array.length_toList, wpOpsIn_eq_wpListIn L.ops5.toList 0 (by simp), l5];unfold wpListIn;rw [if_pos (by simp [Region.wanted, g1])];refine wpIn_of_wpOp (r := none) rfl ?_;rcases run_next_at (P := P) w L.o1.type r bm' since c0 seen arr clock hri hma hold hsc with ⟨h0, hrun⟩ | ⟨en, hen, w1, hal, hrun⟩
   ·have hrun1 : (execOp a.eval L.o1).run P w = .ok (.value (.tuple #[.bool false])) w := by
     simp only [execOp, p1, hev, Sem.run_bind, hrun, Result.andThen_ok, Sem.run_pure]
    simp only [Oper.wp, hrun1, Oper.upon_value, q1];unfold wpListIn;rw [if_pos (by simp [Region.wanted, g2])];refine wpIn_of_wpOp (r := none) rfl ?_;have hev2 : (a.put (some L.tn) (.tuple #[.bool false])).eval (.tmp L.tn) = .tuple #[.bool false] := eval_of (put_self _ (by omega));have hrun2 : (execOp (a.put (some L.tn) (.tuple #[.bool false])).eval L.o2).run P w = .ok (.value (.bool false)) w := by
     simp [execOp, p2, hev2, Instr.extract]
    simp only [Oper.wp, hrun2, Oper.upon_value, q2];unfold wpListIn;refine wpIn_seq (wpIn_cond_false (eval_of (put_self _ (by simp [Act.put]; omega))) (wpIn_exit ?_));have hs1 : Same [L.tn, L.tx] a ((a.put (some L.tn) (.tuple #[.bool false])).put (some L.tx) (.bool false)) :=
     (Same.put a _ _ (fun i h => by simp_all)).trans (Same.put _ _ _ (fun i h => by simp_all))
    have hs2 : Same L.W a ((a.put (some L.tn) (.tuple #[.bool false])).put (some L.tx) (.bool false)) := hs1.mono fun i hi => hW i (by simp at hi ⊢; rcases hi with h | h <;> simp [h])
    have hf2 := hf.same hs2;have hall : sumOf seen ns = sumAll ns := sumOf_full fun x hx => by
     have : x.1 ∈ arr.toList.map (·.born) := by rw [hborn, ← nsb]; exact List.mem_map.2 ⟨x, hx, rfl⟩
     obtain ⟨y, hy, hyb⟩ := List.mem_map.1 this;rw [← hyb]; exact all_seen arr seen h0 y hy
    have hacc2 := hs1.get L.acc (fun hi => f3 (by simp at hi ⊢; rcases hi with h | h <;> simp [h]));refine H _ _ _ ⟨e, Env.le_refl e, hr, rfl, FrR.fx (e := e) ?_ _⟩;refine ⟨hf2.size, fun i v hi => ?_, hf2.df⟩;simp only [T.get_put] at hi;split at hi
    ·rename_i hia;subst hia;simp only [sme] at hi;subst hi;refine ⟨_, by rw [hacc2, hacc, hall, ← hsum], mkS_vr ?_⟩;rw [hsum]; exact hfitT
    ·exact hf2.ft i v hi
   ·obtain ⟨hem, hes⟩ := mem_left hen;have hshr := left_shrinks arr seen en hen;obtain ⟨k, rfl⟩ : ∃ k, n = k + 1 := ⟨n - 1, by omega⟩
    have ih := ih k rfl;obtain ⟨me, hme, hkey, hval, hbe⟩ := hMR.mem en hem;obtain ⟨c, hone, hcm⟩ := a2 me hme;have hrun1 : (execOp a.eval L.o1).run P w = .ok (.value (.tuple #[.bool true, en.key, en.val])) (setBlock w1 r (.mapIter (some bm') since (seen.push en.born) clock)) := by
     simp only [execOp, p1, hev, Sem.run_bind, hrun, Result.andThen_ok, Sem.run_pure]
    simp only [Oper.wp, hrun1, Oper.upon_value, q1]
    -- the world behind the step
    have hw1 : w1.heap = w.heap ∧ w1.os = w.os ∧ w1.tape = w.tape ∧ w1.output = w.output := by rcases hal with rfl | rfl <;> exact ⟨rfl, rfl, rfl, rfl⟩
    have hr1' : w1.heap[r]? = some (.mapIter (some bm') since seen c0) := by rw [hw1.1]; exact hri
    have hset : (setBlock w1 r (.mapIter (some bm') since (seen.push en.born) clock)).heap[r]? = some (.mapIter (some bm') since (seen.push en.born) clock) ∧ ∀ j, j ≠ r → (setBlock w1 r (.mapIter (some bm') since (seen.push en.born) clock)).heap[j]? = w1.heap[j]? := heap_set hr1';generalize hw2 : setBlock w1 r (.mapIter (some bm') since (seen.push en.born) clock) = w2 at hset ⊢;have hr2 : Rel Ω w0 e (s.del iid) w2 := hr.aside hrm hrp hno (fun j hj => (hset.2 j hj).trans (by rw [hw1.1])) (by rw [← hw2]; exact hw1.2.1) (by rw [← hw2]; exact hw1.2.2.1) (by rw [← hw2]; exact hw1.2.2.2) (by rw [← hw2]; simp [setBlock, hw1.1]);have hma2 : w2.heap[bm']? = some (.map arr clock) := (hset.2 bm' (fun x => hne x.symm)).trans (by rw [hw1.1]; exact hma);have hri2 : w2.heap[r]? = some (.mapIter (some bm') since (seen.push en.born) clock) := hset.1;unfold wpListIn;rw [if_pos (by simp [Region.wanted, g2])];refine wpIn_of_wpOp (r := none) rfl ?_;generalize ht : (Value.tuple #[.bool true, en.key, en.val]) = tup;have hev2 : (a.put (some L.tn) tup).eval (.tmp L.tn) = tup := eval_of (put_self _ (by omega));have hrun2 : (execOp (a.put (some L.tn) tup).eval L.o2).run P w2 = .ok (.value (.bool true)) w2 := by
     rw [← ht] at hev2 ⊢;simp [execOp, p2, hev2, Instr.extract]
    simp only [Oper.wp, hrun2, Oper.upon_value, q2];unfold wpListIn;generalize hA2 : (a.put (some L.tn) tup).put (some L.tx) (.bool true) = b2;have hs1 : Same [L.tn, L.tx] a b2 := by
     rw [← hA2]; exact (Same.put a _ _ (fun i h => by simp_all)).trans (Same.put _ _ _ (fun i h => by simp_all))
    have hb2x : b2.tmps[L.tx]? = some (.bool true) := by rw [← hA2]; exact put_self _ (by simp [Act.put]; omega)
    have hsz2 : b2.tmps.size = fr.n := hs1.size.trans hsz;refine wpIn_seq (wpIn_cond_true (eval_of hb2x) (wpIn_skip ?_));have hs2 : Same L.W a b2 := hs1.mono fun i hi => hW i (by simp at hi ⊢; rcases hi with h | h <;> simp [h])
    have hf2 := hf.same hs2;refine wpIn_block (wpIn_seq (wpIn_region ?_));rw [List.range_eq_range', ← Array.length_toList, wpOpsIn_eq_wpListIn L.ops6.toList 0 (by simp), l6];unfold wpListIn;rw [if_pos (by simp [Region.wanted, g3])];refine wpIn_of_wpOp (r := none) rfl ?_;have hit2 : b2.eval (.tmp L.it) = .pointer (some ⟨r, 0, none⟩) := by rw [hs2.eval f1]; exact hev
    have hent := run_entry_at (P := P) w2 r bm' since seen arr clock en hri2 hma2 hem hnd;have hrun3 : (execOp b2.eval L.o3).run P w2 = .ok (.value (.tuple #[en.key, en.val])) w2 := by
     simp only [execOp, p3, hit2, Sem.run_bind, hent, Result.andThen_ok, Sem.run_pure]
    simp only [Oper.wp, hrun3, Oper.upon_value, q3]
    -- what the round adds
    unfold SumL.one at hone;split at hone
    rotate_left
    ·cases hone
    rename_i fr1 hp1;split at hone
    rotate_left
    ·cases hone
    rename_i fr2 hq2;split at hone
    rotate_left
    ·cases hone
    rename_i ha1;split at hone
    rotate_left
    ·cases hone
    rename_i fr3 hq3;split at hone
    rotate_left
    ·cases hone
    rename_i v5 hy;split at hone
    rotate_left
    ·cases hone
    rename_i kd2 c2 hv5;split at hone
    rotate_left
    ·cases hone
    rename_i hkd;have hkd := of_decide_eq_true hkd;simp only [sme] at hone;subst hone hkd;have hf3 : FrR e fr1 (b2.put (some L.te) (.tuple #[en.key, en.val])) := hf2.put (by simp only [VR]; exact ⟨_, rfl, VRs_cons hkey (VRs_cons hval VRs_nil)⟩) hp1;have hs3 : Same [L.te] b2 (b2.put (some L.te) (.tuple #[en.key, en.val])) := Same.put _ _ _ fun i h => by simp_all
    rw [show L.r6 = L.r6 ++ [] by simp];refine quietOps_ok S hF (quietFn_ok S hF 3) 0 L.ops6 [] L.r6 fr1 fr2 hq2 _ w2 hr2 hf3 _ fun b4 w4 hst4 hf4 hs4 => ?_
    unfold wpListIn;refine wpIn_region ?_;rw [List.range_eq_range', ← Array.length_toList, wpOpsIn_eq_wpListIn L.ops7.toList 0 (by simp), l7];unfold wpListIn;rw [if_pos (by simp [Region.wanted, g4])];refine wpIn_of_wpOp (r := none) rfl ?_;have hacc4 : b4.tmps[L.acc]? = some (.int kd2 (x0.i e.opq + sumOf seen ns)) := by
     rw [hs4.get L.acc (fun h => f3 (by simp [h])), hs3.get L.acc (fun h => f3 (by simp at h; simp [h])), hs1.get L.acc (fun h => f3 (by simp at h ⊢; rcases h with h | h <;> simp [h]))];exact hacc
    have hsz4 : b4.tmps.size = fr.n := by rw [hs4.size, hs3.size]; exact hsz2
    generalize hxx : x0.i e.opq + sumOf seen ns = xx at hacc4;have hrun4 : (execOp b4.eval L.o4).run P w4 = .ok (.value (.int kd2 xx)) w4 := by
     simp only [execOp, p4, eval_of hacc4, Sem.run_pure]
    simp only [Oper.wp, hrun4, Oper.upon_value, q4];have hf5 : FrR e fr2 (b4.put (some L.a1) (.int kd2 xx)) := hf4.unput ha1 _;have hs5 : Same [L.a1] b4 (b4.put (some L.a1) (.int kd2 xx)) := Same.put _ _ _ fun i h => by simp_all
    have h51 : (b4.put (some L.a1) (.int kd2 xx)).tmps[L.a1]? = some (.int kd2 xx) := put_self _ (by omega);refine quietOps_ok S hF (quietFn_ok S hF 3) 0 L.ops7 [L.o5, L.o6] L.md fr2 fr3 hq3 _ w4 (hr2.still hst4) hf5 _ fun b6 w6 hst6 hf6 hs6 => ?_
    have hsz6 : b6.tmps.size = fr.n := by rw [hs6.size, hs5.size]; exact hsz4
    have h61 : b6.tmps[L.a1]? = some (.int kd2 xx) := by rw [hs6.get L.a1 f2]; exact h51
    have hyv := (toE_val hv5 (evalO_vr hf6.ft hy)).1
    -- the sum stays within its kind
    have hle := sumOf_le (seen := seen.push en.born) pos;have hpush : sumOf (seen.push en.born) ns = sumOf seen ns + c2.i e.opq := sumOf_push hes nd2 (by rw [hbe, ← hN]; exact List.mem_map.2 ⟨_, hcm, rfl⟩);have hfit : kd2.wrap (xx + c2.i e.opq) = x0.i e.opq + sumOf (seen.push en.born) ns := by
     simp only [inK] at hx0 hfitT;rw [wrap_fit (by omega)]; omega
    unfold wpListIn;rw [if_pos (by simp [Region.wanted, g5])];refine wpIn_of_wpOp (r := none) rfl ?_;have hrun5 : (execOp b6.eval L.o5).run P w6 = .ok (.value (.int kd2 (x0.i e.opq + sumOf (seen.push en.born) ns))) w6 := by
     simp [execOp, p5, eval_of h61, hyv, eqGuard, binOp, Sem.run_bind, Sem.run_pure, Result.andThen_ok, ne_eq, not_true_eq_false, if_false, Op.intArith, hfit, Bool.not_false, if_true]
    simp only [Oper.wp, hrun5, Oper.upon_value, q5];unfold wpListIn;rw [if_pos (by simp [Region.wanted, g6])];refine wpIn_of_wpOp (r := none) rfl ?_;generalize hv7 : (Value.int kd2 (x0.i e.opq + sumOf (seen.push en.born) ns)) = v7;have h71 : (b6.put (some L.a4) v7).tmps[L.a4]? = some v7 := put_self _ (by omega);have hrun6 : (execOp (b6.put (some L.a4) v7).eval L.o6).run P w6 = .ok (.value v7) w6 := by
     simp only [execOp, p6, eval_of h71, Sem.run_pure]
    simp only [Oper.wp, hrun6, Oper.upon_value, q6];unfold wpListIn;generalize hB8 : (b6.put (some L.a4) v7).put (some L.acc) v7 = b8;have hs8 : Same [L.a4, L.acc] b6 b8 := by
     rw [← hB8]; exact (Same.put b6 _ _ (fun i h => by simp_all)).trans (Same.put _ _ _ (fun i h => by simp_all))
    have hsall : Same L.W a b8 :=
     (((((hs2.trans (hs3.mono fun i hi => hW i (by simp at hi ⊢; simp [hi]))).trans (hs4.mono hW6)).trans (hs5.mono fun i hi => hW i (by simp at hi ⊢; simp [hi]))).trans (hs6.mono hWm)).trans (hs8.mono fun i hi => hW i (by simp at hi ⊢; rcases hi with h | h <;> simp [h])))
    have hr6 := (hr2.still hst4).still hst6;refine ih (seen.push en.born) clock b8 w6 (by omega) c1 hr6 (by rw [hst6.heap, hst4.heap]; exact hma2) (by rw [hst6.heap, hst4.heap]; exact hri2) (hf.same hsall) ?_ ?_
    ·rw [← hB8, hv7]; exact put_self _ (by simp [Act.put]; omega)
    ·rw [hsall.get L.it f1]; exact hit
  intro n;induction n with
  | zero => exact step 0 fun k h => by omega
  | succ n ih =>
   refine step (n + 1) fun k h => ?_
   obtain rfl : n = k := by omega
   exact ih
 refine key es.length #[] since a w ?_ (Nat.le_refl _) hr0 harr hheap ?_ ?_ ?_
 ·have : (leftOf arr #[]).size ≤ arr.size := by unfold leftOf; exact Array.size_filter_le
  have h2 : arr.size = es.length := by rw [← Array.length_toList]; exact hMR.length
  omega
 ·refine ⟨hf.size, fun i v hi => ?_, hf.df⟩;exact hf.ft i v (clearT_get _ _ _ _ hi).2
 ·obtain ⟨y, hy, hv⟩ := hf.ft _ _ hacc;rw [hy, (toE_val hva hv).1, sumOf_none, Int.add_zero]
 ·obtain ⟨y, hy, hv⟩ := hf.ft _ _ hit;simp only [VR] at hv;obtain ⟨b', hb', rfl⟩ := hv;rw [hr1] at hb';cases hb';exact hy

def sumLoops (P : Program) (F : Facts) (f : FuncId) : Loops := fun p fr s => match P.funcs[f]? with
 | some fn => match fn.body with
  | some c => match codeAt c p with
   | some (.loop b) => sumLoop P F b fr s
   | _ => none
  | none => none
 | none => none

def withSums (P : Program) (F : Facts) (lp : FuncId → Loops) (f : FuncId) : Loops := fun p fr s => match lp f p fr s with
 | some r => some r
 | none => sumLoops P F f p fr s

theorem withSums_ok {P : Program} (S : Sound P) {Ω : Om} {w0 : Base} {F : Facts} (hF : FactsOK P Ω w0 F) {lp : FuncId → Loops} (h : ∀ f fn c, P.funcs[f]? = some fn → fn.body = some c → LoopsOK P Ω w0 c (lp f)) (f : FuncId) (fn : Func) (c : Code) (hf : P.funcs[f]? = some fn) (hc : fn.body = some c) : LoopsOK P Ω w0 c (withSums P F lp f) := by
 intro p b fr s x fr' s' hp k;unfold withSums at k;split at k
 ·rename_i r hr;simp only [sme] at k;subst k;exact h f fn c hf hc p b fr s _ _ _ hp hr
 ·unfold sumLoops at k;split at k
  ·rename_i fn2 hf2;rw [hf] at hf2;cases hf2;split at k
   ·rename_i c2 hc2;rw [hc] at hc2;cases hc2;split at k
    ·rename_i b2 hb2;rw [hp] at hb2;cases hb2;exact sumLoop_ok S hF k
    ·cases k
   ·cases k
  ·cases k
end Go.Ev
