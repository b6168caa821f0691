/- Calls that write over a whole row of numbers, what is behind it too, and hand back nothing: the row is not looked at any more. No condition. -/
import Derived.Test.YtidpndnehbhloaaDoorSylb
set_option linter.unusedSimpArgs false
set_option linter.unusedVariables false
namespace Go.Ev
open Go.RowKit

def overC (el : TypeId) (k : IntKind) : CSpec where
 args := [.sslice 1 (.int 0) (.var 2) (.var 0) false]
 next := 1
 rows := [(1, .seq ⟨el, k, .var 0, .var 1, false, false⟩)]
 pre := [(.le (.int 0) (.var 2), true), (.le (.var 2) (.var 0), true), (.le (.var 0) (.int 9223372036854775807), true)]
 res := .tuple []
 frows := []
 same := []

def overC2 (el : TypeId) (k : IntKind) : CSpec where
 args := [.sslice 1 (.var 3) (.var 2) (.var 4) false]
 next := 1
 rows := [(1, .seq ⟨el, k, .var 0, .var 1, false, false⟩)]
 pre := [(.le (.int 0) (.var 2), true), (.le (.var 2) (.var 4), true), (.le (.int 0) (.var 3), true), (.eq (.bi .add (.var 3) (.var 4)) (.var 0), true), (.le (.var 0) (.int 9223372036854775807), true)]
 res := .tuple []
 frows := []
 same := []

inductive OvK where
 | over (el : TypeId) (k : IntKind)
 | overO (el : TypeId) (k : IntKind)
 | lib (k : LibK)
abbrev Overs := List (FuncId × OvK)
def overOf : Overs → FuncId → Option OvK
 | [], _ => none
 | (g, x) :: r, f => match Nat.beq g f with
  | true => some x
  | false => overOf r f
def lenLe : AV → Bool
 | .slice _ _ l c _ => Nat.ble l c
 | .sslice _ _ _ _ _ => true
 | _ => false

def ownIdO (A : Ask) (s : St) (el : TypeId) (kk : IntKind) (d : AV) : Option Nat := match d with
 | .sslice id o _ cap opn => match s.seqW id with
  | some q => match !q.str && Nat.beq q.elem el && leB A (o.add cap) q.n && leB A q.n (o.add cap) && (opn == q.opn) && decide (q.k = kk) && (q.opn || leB A q.n (.int 9223372036854775807)) with
   | true => some id
   | false => none
  | none => none
 | _ => none
theorem ownIdO_val {Ω : Om} {w0 : Base} {e : Env} {s : St} {w : World} (h : Rel Ω w0 e s w) {A : Ask} (hA : AskOK e.opq A) {el : TypeId} {kind : IntKind} {d : AV} {id : Nat} (k : ownIdO A s el kind d = some id) {y : Value} (hd : VR e d y) :
  ∃ kk p ln c arr, y = .slice (some ⟨kk, p, none⟩) ln c ∧ c ≤ arr.size ∧ ln ≤ c ∧ (c ≠ 0 → p = arr.size - c) ∧ e.loc id = some kk ∧ w0.mine kk ∧ w.heap[kk]? = some (.cells arr el (0, 0)) ∧ typed kind arr.toList ∧ arr.size ≤ 9223372036854775807 ∧ ∃ o, s.heap.get id = some o ∧ o.own = true := by
 unfold ownIdO at k;split at k
 ·rename_i id' o len cap opn;split at k
  ·rename_i q hq;split at k
   ·rename_i hc;simp only [bae, Bool.not_eq_true', beq_iff_eq] at hc;obtain ⟨⟨⟨⟨⟨⟨c1, c2⟩, c3⟩, c4⟩, rfl⟩, c6⟩, c7⟩ := hc;simp only [Bool.or_eq_true] at c7;have c6 := of_decide_eq_true c6;subst c6;have c2 := beq_t c2;have c3 := leB_val hA c3;have c4 := leB_val hA c4;rw [E.add_i] at c3 c4;simp only [sme] at k;subst k;have hb := St.seqW_some hq;obtain ⟨k', hl', hm, h0, arr, fz, hcell, hR⟩ := h.obj id' _ hb;have hfz := hR.plain c1;subst hfz;rw [c2] at hcell;simp only [VR] at hd;obtain ⟨b, p, hb2, rfl, hp, g1, g2, g3⟩ := hd;obtain rfl : b = k' := by rw [hl'] at hb2; exact (Option.some.inj hb2).symm
    obtain ⟨tail, ht, htl, hty⟩ := hR.cells;have hn := hR.n;have hnn := n_of_i (Ω := e.opq) (x := q.n) (by omega);have hcn := n_of_i (Ω := e.opq) (x := cap) (by omega);have hon := n_of_i (Ω := e.opq) (x := o) (by omega);have hln := n_of_i (Ω := e.opq) (x := len) (by omega);have hsz : arr.size = q.n.n e.opq + if q.opn = true then e.spare id' else 0 := by
     rw [← Array.length_toList, ht, List.length_append, htl]; simp; omega
    refine ⟨b, p, len.n e.opq, _, arr, rfl, by rw [hsz]; omega, by omega, fun hne => ?_, hl', hm, hcell, by rw [ht]; exact (typed_ints hR.rng).append hty.1, by
     cases ho : q.opn with
     | true => exact hty.2 ho
     | false =>
      rcases c7 with c7 | c7
      ·rw [ho] at c7; cases c7
      ·have c8 := leB_val hA c7;simp only [E.i, E.den, D.toInt_int] at c8;rw [hsz, ho];simp only [E.i] at hnn
       simp
       omega, _, hb, rfl⟩
    have := hp hne;rw [this, h0, hsz];omega
   ·cases k
  ·cases k
 ·cases k

def overCall (l : Overs) (A : Ask) : Caller := fun f args s => match overOf l f, args with
 | some (.over el k), [d] => match ownId A s el k d, lenLe d with
  | some id, true => some (.ret (.tuple []), s.del id)
  | _, _ => none
 | some (.overO el k), [d] => match ownIdO A s el k d with
  | some id => some (.ret (.tuple []), s.del id)
  | none => none
 | some (.lib k), args => libRun A k args s
 | _, _ => none

def OvHolds (P : Program) (g : FuncId) (f : Nat → D → D) : OvK → Prop
 | .over el k => CHolds P g (overC el k) f
 | .overO el k => CHolds P g (overC2 el k) f
 | .lib k => LibHolds P g k
def OversOK (P : Program) (l : Overs) (f : Nat → D → D) : Prop := ∀ p ∈ l, OvHolds P p.1 f p.2

theorem overOf_mem : ∀ {l : Overs} {f : FuncId} {x : OvK}, overOf l f = some x → (f, x) ∈ l
 | [], _, _, h => by cases h
 | (g, y) :: r, f, x, h => by
  simp only [overOf] at h;split at h
  ·rename_i hb;obtain rfl := beq_t hb;simp only [sme] at h;subst h
   simp
  ·exact List.mem_cons_of_mem _ (overOf_mem h)

theorem typed_list {k : IntKind} : ∀ {l : List Value}, typed k l → ∃ zs : List Int, l = zs.map (Value.int k) ∧ ∀ c ∈ zs, inK k c
 | [], _ => ⟨[], rfl, fun c hc => by cases hc⟩
 | v :: l, h => by
  obtain ⟨m, rfl, hm⟩ := h v (by simp);obtain ⟨zs, rfl, hz⟩ := typed_list (l := l) (fun u hu => h u (by simp [hu]));exact ⟨m :: zs, rfl, fun c hc => by
   rcases List.mem_cons.1 hc with rfl | hc
   ·exact hm
   ·exact hz c hc⟩

def overEnv (kk : Nat) (Ω : Om) : Env where
 loc i := if i % 2 = 0 then some (i / 2) else if i = 1 then some kk else .none
 spare _ := 0
 base _ := 0
 opq := Ω
 glob g := by simp
 h _ := .none

theorem overCall_ok {P : Program} {l : Overs} {f : Nat → D → D} (hl : OversOK P l f) {Ω : Om} (hf : Ω.f = f) {w0 : Base} {A : Ask} (hA : AskOK Ω A) : CallOK P Ω w0 (overCall l A) := by
 intro ff args s en s' k e w as hr ha;obtain rfl := hr.opq;unfold overCall at k;split at k
 ·rename_i el kd d hof;split at k
  ·rename_i id hown hlen;simp only [sme, pme] at k;obtain ⟨rfl, rfl⟩ := k;have hH := hl _ (overOf_mem hof);simp only [VRs] at ha;obtain ⟨y, r, rfl, hy, rfl⟩ := ha;obtain ⟨kk, p, ln, arr, hye, hp, hloc, hm, hcell, htyp, hbd, o, ho, hoo⟩ := ownId_val hr hA hown hy;have hln : ln ≤ arr.size := by
    cases d with
    | slice i o' l' c' b =>
     simp only [VR] at hy;obtain ⟨bb, _, h2⟩ := hy;rw [hye] at h2;simp only [Value.slice.injEq] at h2;have := ble_le (show Nat.ble l' c' = true from hlen);omega
    | sslice i o' l' c' b =>
     simp only [VR] at hy;obtain ⟨bb, p', _, h2, _, h3, _, h4⟩ := hy;rw [hye] at h2;simp only [Value.slice.injEq] at h2;have g1 := n_of_i (Ω := e.opq) (x := l') h3;have g2 := n_of_i (Ω := e.opq) (x := c') (by omega);omega
    | _ => cases hlen
   obtain ⟨zs, hzs, hzr⟩ := typed_list htyp;have hzl : zs.length = arr.size := by have := congrArg List.length hzs; simpa using this.symm
   let d0 : Nat → D := fun i => if i = 0 then .int arr.size else if i = 1 then .ofInts zs else if i = 2 then .int ln else .int 0
   let Ω0 : Om := ⟨fun _ => .bool false, d0, f⟩
   let B : Base := ⟨w, fun j => !Nat.beq j kk, fun _ => .none⟩
   have hpre : ∀ q ∈ (overC el kd).pre, q.1.val Ω0 = q.2 := by
    intro q hq;simp only [overC, List.mem_cons, List.not_mem_nil, or_false] at hq;rcases hq with rfl | rfl | rfl
    ·simp [Q.val, E.i, E.den, Ω0, d0]
    ·simp [Q.val, E.i, E.den, Ω0, d0]; omega
    ·simp [Q.val, E.i, E.den, Ω0, d0]; omega
   have hkk : kk < w.heap.size := (Array.getElem?_eq_some_iff.1 hcell).1;have rel : Rel Ω0 B (overEnv kk Ω0) (overC el kd).st w := by
    refine ⟨rfl, Und.refl _, fun n hn => ?_, fun i j o o' b hi hj _ _ _ _ => ?_, fun i o hi => ?_, fun _ _ h => (by cases h), fun _ _ _ _ _ _ => rfl, fun _ _ h => (by cases h), fun _ _ h => h⟩
    ·have hn : 1 ≤ n := hn;simp only [overEnv];rw [if_neg (by omega), if_neg (by omega)]
    ·obtain ⟨r1, h1, _⟩ := rowsT_mem hi;obtain ⟨r2, h2, _⟩ := rowsT_mem hj;simp only [overC, List.mem_cons, List.not_mem_nil, or_false, pme] at h1 h2;rw [h1.1, h2.1]
    ·obtain ⟨r1, h1, rfl⟩ := rowsT_mem hi;simp only [overC, List.mem_cons, List.not_mem_nil, or_false, pme] at h1;obtain ⟨rfl, rfl⟩ := h1;refine ⟨kk, by simp [overEnv], .inr (by simp [B]), rfl, arr, (0, 0), hcell, ⟨?_, ?_, ⟨[], ?_, by simp, typed_nil, fun h => by cases h⟩, fun off _ => by omega, fun _ => rfl, fun x => by cases x⟩⟩
     ·simp [E.i, E.s, E.den, overEnv, Ω0, d0, hzl]
     ·simpa [E.s, E.den, overEnv, Ω0, d0] using hzr
     ·simpa [E.s, E.den, overEnv, Ω0, d0] using hzs
   have hvr : VRs (overEnv kk Ω0) (overC el kd).args [y] := by
    refine VRs_cons ?_ VRs_nil;simp only [VR];refine ⟨kk, p, by simp [overEnv], ?_, fun hne => ?_, ?_, ?_, ?_⟩
    ·rw [hye]; simp [E.n, E.den, overEnv, Ω0, d0, D.nat]
    ·have hne : arr.size ≠ 0 := by simpa [E.n, E.den, overEnv, Ω0, d0, D.nat] using hne
     rw [hp hne]; simp [overEnv, E.n, E.den, D.nat]
    ·simp [E.i, E.den, overEnv, Ω0, d0]
    ·exact Int.le_refl 0
    ·simp [E.i, E.den, overEnv, Ω0, d0]; omega
   refine (hH d0 hpre (fun _ => .bool false) B _ w [y] rel hvr).mono fun E w' ⟨ef, ⟨⟨N, hrel⟩, ⟨x, hE, hx⟩, _, _⟩⟩ => ?_
   have hb := hrel.below;have same : ∀ j, j ≠ kk → j < w.heap.size → w'.heap[j]? = w.heap[j]? := fun j hj hjl => hb.block j hjl (by simp only [B, Bool.not_eq_true']; cases hq : Nat.beq j kk with | false => rfl | true => exact absurd (beq_t hq) hj)
   have hdel := hr.del id;have hnp : e.h kk = none := hr.apart _ _ _ ho hoo hloc;refine ⟨e, Env.le_refl e, ⟨rfl, ?_, hdel.fresh, hdel.inj, fun i oi hi => ?_, fun j arr hj => by rw [same j (fun x => by subst x; rw [hnp] at hj; cases hj) (hr.pool_lt hj)]; exact hr.pool j arr hj, hdel.apart, hr.grow, hr.hold⟩, ?_⟩
   ·exact hr.below.step hb.os hb.tape hb.output hb.size fun j hj => same j (Base.mine_ne hm hj) (by have := hj.1; have := hr.below.size; omega)
   ·obtain ⟨j, h1, h2⟩ := hdel.obj i oi hi;have hi2 : s.heap.get i = some oi ∧ i ≠ id := by
     simp only [St.del_eq, T.get_put] at hi;split at hi
     ·cases hi
     ·rename_i hne; exact ⟨hi, hne⟩
    have hne : j ≠ kk := fun x => hi2.2 (hr.inj1 hi2.1 ho hm hnp (x ▸ h1) hloc)
    exact ⟨j, h1, h2.mono (Env.le_refl e) h1 (same j hne (h2.lt hdel.pool))⟩
   ·subst hE;simp only [EnR];simp only [overC, VR] at hx ⊢;exact hx
  ·cases k
 ·rename_i el kd d hof;split at k
  ·rename_i id hown;simp only [sme, pme] at k;obtain ⟨rfl, rfl⟩ := k;have hH := hl _ (overOf_mem hof);simp only [VRs] at ha;obtain ⟨y, r, rfl, hy, rfl⟩ := ha;obtain ⟨kk, p, ln, c, arr, hye, hcs, hln, hp, hloc, hm, hcell, htyp, hbd, o, ho, hoo⟩ := ownIdO_val hr hA hown hy;obtain ⟨zs, hzs, hzr⟩ := typed_list htyp;have hzl : zs.length = arr.size := by have := congrArg List.length hzs; simpa using this.symm
   let d0 : Nat → D := fun i => if i = 0 then .int arr.size else if i = 1 then .ofInts zs else if i = 2 then .int ln else if i = 3 then .int ((arr.size - c : Nat) : Int) else if i = 4 then .int c else .int 0
   let Ω0 : Om := ⟨fun _ => .bool false, d0, f⟩
   let B : Base := ⟨w, fun j => !Nat.beq j kk, fun _ => .none⟩
   have hpre : ∀ q ∈ (overC2 el kd).pre, q.1.val Ω0 = q.2 := by
    intro q hq;simp only [overC2, List.mem_cons, List.not_mem_nil, or_false] at hq;rcases hq with rfl | rfl | rfl | rfl | rfl
    ·simp [Q.val, E.i, E.den, Ω0, d0]
    ·simp [Q.val, E.i, E.den, Ω0, d0]; omega
    ·simp [Q.val, E.i, E.den, Ω0, d0]
    ·simp [Q.val, E.i, E.den, BO.den, Ω0, d0]; omega
    ·simp [Q.val, E.i, E.den, Ω0, d0]; omega
   have hkk : kk < w.heap.size := (Array.getElem?_eq_some_iff.1 hcell).1;have rel : Rel Ω0 B (overEnv kk Ω0) (overC2 el kd).st w := by
    refine ⟨rfl, Und.refl _, fun n hn => ?_, fun i j o o' b hi hj _ _ _ _ => ?_, fun i o hi => ?_, fun _ _ h => (by cases h), fun _ _ _ _ _ _ => rfl, fun _ _ h => (by cases h), fun _ _ h => h⟩
    ·have hn : 1 ≤ n := hn;simp only [overEnv];rw [if_neg (by omega), if_neg (by omega)]
    ·obtain ⟨r1, h1, _⟩ := rowsT_mem hi;obtain ⟨r2, h2, _⟩ := rowsT_mem hj;simp only [overC2, List.mem_cons, List.not_mem_nil, or_false, pme] at h1 h2;rw [h1.1, h2.1]
    ·obtain ⟨r1, h1, rfl⟩ := rowsT_mem hi;simp only [overC2, List.mem_cons, List.not_mem_nil, or_false, pme] at h1;obtain ⟨rfl, rfl⟩ := h1;refine ⟨kk, by simp [overEnv], .inr (by simp [B]), rfl, arr, (0, 0), hcell, ⟨?_, ?_, ⟨[], ?_, by simp, typed_nil, fun h => by cases h⟩, fun off _ => by omega, fun _ => rfl, fun x => by cases x⟩⟩
     ·simp [E.i, E.s, E.den, overEnv, Ω0, d0, hzl]
     ·simpa [E.s, E.den, overEnv, Ω0, d0] using hzr
     ·simpa [E.s, E.den, overEnv, Ω0, d0] using hzs
   have hvr : VRs (overEnv kk Ω0) (overC2 el kd).args [y] := by
    refine VRs_cons ?_ VRs_nil;simp only [VR];refine ⟨kk, p, by simp [overEnv], ?_, fun hne => ?_, ?_, ?_, ?_⟩
    ·rw [hye]; simp [E.n, E.den, overEnv, Ω0, d0, D.nat]
    ·have hne : c ≠ 0 := by simpa [E.n, E.den, overEnv, Ω0, d0, D.nat] using hne
     rw [hp hne]; simp [overEnv, E.n, E.den, D.nat, Ω0, d0]
    ·simp [E.i, E.den, overEnv, Ω0, d0]
    ·simp only [E.i, E.den, overEnv, Ω0, d0]; simp
    ·simp [E.i, E.den, overEnv, Ω0, d0]; omega
   refine (hH d0 hpre (fun _ => .bool false) B _ w [y] rel hvr).mono fun E w' ⟨ef, ⟨⟨N, hrel⟩, ⟨x, hE, hx⟩, _, _⟩⟩ => ?_
   have hb := hrel.below;have same : ∀ j, j ≠ kk → j < w.heap.size → w'.heap[j]? = w.heap[j]? := fun j hj hjl => hb.block j hjl (by simp only [B, Bool.not_eq_true']; cases hq : Nat.beq j kk with | false => rfl | true => exact absurd (beq_t hq) hj)
   have hdel := hr.del id;have hnp : e.h kk = none := hr.apart _ _ _ ho hoo hloc;refine ⟨e, Env.le_refl e, ⟨rfl, ?_, hdel.fresh, hdel.inj, fun i oi hi => ?_, fun j arr hj => by rw [same j (fun x => by subst x; rw [hnp] at hj; cases hj) (hr.pool_lt hj)]; exact hr.pool j arr hj, hdel.apart, hr.grow, hr.hold⟩, ?_⟩
   ·exact hr.below.step hb.os hb.tape hb.output hb.size fun j hj => same j (Base.mine_ne hm hj) (by have := hj.1; have := hr.below.size; omega)
   ·obtain ⟨j, h1, h2⟩ := hdel.obj i oi hi;have hi2 : s.heap.get i = some oi ∧ i ≠ id := by
     simp only [St.del_eq, T.get_put] at hi;split at hi
     ·cases hi
     ·rename_i hne; exact ⟨hi, hne⟩
    have hne : j ≠ kk := fun x => hi2.2 (hr.inj1 hi2.1 ho hm hnp (x ▸ h1) hloc)
    exact ⟨j, h1, h2.mono (Env.le_refl e) h1 (same j hne (h2.lt hdel.pool))⟩
   ·subst hE;simp only [EnR];simp only [overC2, VR] at hx ⊢;exact hx
  ·cases k
 ·rename_i hof;exact libRun_ok hA (show LibHolds P ff _ from hl _ (overOf_mem hof)) k hr ha
 ·cases k

def orCall (c1 c2 : Caller) : Caller := fun f args s => match c1 f args s with
 | some x => some x
 | none => c2 f args s
theorem orCall_ok {P : Program} {Ω : Om} {w0 : Base} {c1 c2 : Caller} (h1 : CallOK P Ω w0 c1) (h2 : CallOK P Ω w0 c2) : CallOK P Ω w0 (orCall c1 c2) := by
 intro f args s en s' k;unfold orCall at k;split at k
 ·rename_i x hx;simp only [sme] at k;subst k;exact h1 _ _ _ _ _ hx
 ·exact h2 _ _ _ _ _ k

def knownV (A : Ask) (tab : List LEntry) (cs : List (FuncId × CSpec)) (ov : Overs) : Known := knownOf A tab (orCall (specCall cs A) (overCall ov A))
theorem knownV_ok {P : Program} {tab : List LEntry} {cs : List (FuncId × CSpec)} {ov : Overs} {f : Nat → D → D} (h : TableOK P tab f) (hc : SpecsOK P cs f) (ho : OversOK P ov f) {Ω : Om} (hf : Ω.f = f) {w0 : Base} {A : Ask} (hA : AskOK Ω A) : KnownOK P Ω w0 (knownV A tab cs ov) :=
 knownOf_ok h hf hA (orCall_ok (specCall_ok hf hA hc) (overCall_ok ho hf hA))

theorem calls_of_yesV {P : Program} (S : Sound P) {A : Ask} {tab : List LEntry} {cs : List (FuncId × CSpec)} {ov : Overs} {f : Nat → D → D} (htab : TableOK P tab f) (hcs : SpecsOK P cs f) (hov : OversOK P ov f) {fuel depth : Nat} {g : FuncId} {args : List AV} {s : St} (h : yesOf P (knownV A tab cs ov) fuel depth g args s = true)
  {Ω : Om} (hf : Ω.f = f) (hA : AskOK Ω A) {w : World} {e : Env} (hr : Rel Ω (Base.all w) e s w) {as : List Value} (ha : VRs e args as) :
  Calls P g as.toArray w fun E w' => E = .returned (.bool true) ∧ Below w.heap.size w w' :=
 calls_of_yesOf S h (knownV_ok htab hcs hov hf hA) hr ha

theorem tableNil (P : Program) (f : Nat → D → D) : TableOK P [] f := fun _ h => by cases h
theorem tableCons {P : Program} {f : Nat → D → D} {g : FuncId} {p : List Nat} {L : LSpec} {l : List LEntry} (h : LHolds P (loopAt P g p) L f) (k : TableOK P l f) : TableOK P (⟨g, p, L⟩ :: l) f := fun e he => by
 rcases List.mem_cons.1 he with rfl | he
 ·exact h
 ·exact k e he
theorem specsNil (P : Program) (f : Nat → D → D) : SpecsOK P [] f := fun _ h => by cases h
theorem specsCons {P : Program} {f : Nat → D → D} {g : FuncId} {C : CSpec} {l : List (FuncId × CSpec)} (h : CHolds P g C f) (k : SpecsOK P l f) : SpecsOK P ((g, C) :: l) f := fun e he => by
 rcases List.mem_cons.1 he with rfl | he
 ·exact h
 ·exact k e he
theorem oversNil (P : Program) (f : Nat → D → D) : OversOK P [] f := fun _ h => by cases h
def endC (C : CSpec) (ρ : Ren) (N : Nat) : Option (En × St) → Option (List Duty)
 | some (.ret v, s1) => match keysUnder ρ N && renB ρ && sameB C.L ρ with
  | true => match seeArg s1 ρ v C.res, seeRows ρ s1 C.frows with
   | some a, some b => some (a ++ b)
   | _, _ => none
  | false => none
 | _ => none

def callC (P : Program) (A : Ask) (tab : List LEntry) (cs : List (FuncId × CSpec)) (ov : Overs) (fuel depth : Nat) (g : FuncId) (C : CSpec) : Option (En × St) := callN P (knownV A tab cs ov) fuel depth g C.args C.st

theorem cholds_of {P : Program} (S : Sound P) {g : FuncId} {C : CSpec} {f : Nat → D → D} {tab : List LEntry} (htab : TableOK P tab f) {cs : List (FuncId × CSpec)} (hcs : SpecsOK P cs f) {ov : Overs} (hov : OversOK P ov f) {fuel depth : Nat} (hdr : distinctB (C.rows.map (·.1)) = true)
  (step : ∀ d, (∀ q ∈ C.pre, q.1.val ⟨fun _ => .bool false, d, f⟩ = q.2) → factsR ⟨fun _ => .bool false, d, f⟩ C.rows → factsA ⟨fun _ => .bool false, d, f⟩ C.args → ∃ A ρ N ds, AskOK ⟨fun _ => .bool false, d, f⟩ A ∧ endC C ρ N (callC P A tab cs ov fuel depth g C) = some ds ∧ Duties ⟨fun _ => .bool false, d, f⟩ ds) : CHolds P g C f := by
 intro d hp v B e w as hr ha;have e1 : (⟨fun _ => .bool false, d, f⟩ : Om).d = e.opq.d := by rw [hr.opq]
 have e2 : (⟨fun _ => .bool false, d, f⟩ : Om).f = e.opq.f := by rw [hr.opq]
 obtain ⟨A, ρ, N, ds, hA0, hend, hds⟩ := step d hp (factsR_of fun p hp => by
  obtain ⟨k, _, hO⟩ := hr.obj p.1 _ (rowsT_get (distinctB_nodup hdr) hp);exact hO.facts e1 e2) (VRs.facts e1 e2 ha)
 have hA : AskOK ⟨v, d, f⟩ A := fun q bb hq => (val_same (Ω := ⟨fun _ => .bool false, d, f⟩) (Ω' := ⟨v, d, f⟩) rfl rfl q).trans (hA0 q bb hq)
 have hds : Duties ⟨v, d, f⟩ ds := by
  intro p hp;have := hds p hp;obtain ⟨bb, x, y⟩ := p;cases bb <;> simp only [Duty.met, E.i, E.s, den_newV v (fun _ => .bool false) d f] <;> exact this
 unfold endC at hend;split at hend
 ·rename_i v1 s1 hcall;split at hend
  ·rename_i hc;simp only [bae] at hc;obtain ⟨⟨c1, c2⟩, c3⟩ := hc;split at hend
   ·rename_i a b h1 h2;simp only [sme] at hend;subst hend;obtain ⟨d1, d2⟩ := hds.app;refine (callN_ok S (knownV_ok htab hcs hov (Ω := ⟨v, d, f⟩) rfl (w0 := B) hA) fuel depth g C.args _ _ _ hcall e w as hr ha).mono fun E w' ⟨e1, g1, g2, g3⟩ => ?_
    obtain ⟨nd, od⟩ := renB_split c2;have ho1 : e1.opq = ⟨v, d, f⟩ := g2.opq;refine ⟨e1.pull ρ, ⟨N, g2.see h2 d2 c1 nd od⟩, ?_, same_loc (L := C.L) c3 hr g1, pull_even g1 ρ⟩;cases E with
    | returned y =>
     simp only [EnR] at g3;exact ⟨y, rfl, seeArg_vr g2 (Env.pull_ok e1 ρ) h1 (by rw [ho1]; exact d1) g3⟩
    | panicked l => exact g3.elim
    | outgrown => exact g3.elim
   ·cases hend
  ·cases hend
 ·cases hend

def roundC (P : Program) (tab : List LEntry) (cs : List (FuncId × CSpec)) (ov : Overs) (fuel depth : Nat) (g : FuncId) (p : List Nat) (A : Ask) (L : LSpec) : Option (X × Fr × St) :=
 execR P ⟨none, A⟩ (fun q => loopsOf tab A g (q ++ 5 :: p)) (duoN P (knownV A tab cs ov) fuel depth).1 (duoN P (knownV A tab cs ov) fuel depth).2 fuel [] (loopAt P g p) L.fr L.st

theorem loop_roundsC {P : Program} (S : Sound P) {g : FuncId} {p : List Nat} {L : LSpec} {f : Nat → D → D} {tab : List LEntry} (htab : TableOK P tab f) {cs : List (FuncId × CSpec)} (hcs : SpecsOK P cs f) {ov : Overs} (hov : OversOK P ov f) {fuel depth : Nat} (fine : L.fine = true) (hdr : distinctB (L.rows.map (·.1)) = true) (hdp : distinctB (L.pat.map (·.1)) = true) (μ : (Nat → D) → Nat)
  (step : ∀ d, (∀ q ∈ L.pre, q.1.val ⟨fun _ => .bool false, d, f⟩ = q.2) → factsR ⟨fun _ => .bool false, d, f⟩ L.rows → factsP ⟨fun _ => .bool false, d, f⟩ L.pat → ∃ A, AskOK ⟨fun _ => .bool false, d, f⟩ A ∧
   ((∃ ρ N ds, endD L ρ N (roundC P tab cs ov fuel depth g p A L) = some ds ∧ Duties ⟨fun _ => .bool false, d, f⟩ ds) ∨
    (∃ th ρ ds, nextD L th ρ (roundC P tab cs ov fuel depth g p A L) = some ds ∧ Duties ⟨fun _ => .bool false, d, f⟩ ds ∧ (∀ q ∈ L.pre, q.1.val ((⟨fun _ => .bool false, d, f⟩ : Om).sub (lookE th)) = q.2) ∧ μ (fun i => (lookE th i).den ⟨fun _ => .bool false, d, f⟩) < μ d))) :
  LHolds P (loopAt P g p) L f := by
 refine loop_ind S fine μ fun d hp hfc => ?_
 obtain ⟨hfr, hfp⟩ := hfc (distinctB_nodup hdr) (distinctB_nodup hdp);obtain ⟨A, hA, h⟩ := step d hp hfr hfp;have hAv : ∀ v : Nat → Value, AskOK ⟨v, d, f⟩ A := fun v q bb hq => (val_same (Ω := ⟨fun _ => .bool false, d, f⟩) (Ω' := ⟨v, d, f⟩) rfl rfl q).trans (hA q bb hq)
 refine ⟨A, fuel, fun q => loopsOf tab A g (q ++ 5 :: p), (duoN P (knownV A tab cs ov) fuel depth).1, (duoN P (knownV A tab cs ov) fuel depth).2, hA, fun v B => ?_, fun v B => (duoN_ok S (knownV_ok htab hcs hov rfl (hAv v)) fuel depth).1, fun v B => (duoN_ok S (knownV_ok htab hcs hov rfl (hAv v)) fuel depth).2, ?_⟩
 ·intro q b' fr s x fr' s' hq k;unfold loopAt at hq;split at hq
  ·rename_i fn hfn;split at hq
   ·rename_i root hroot;split at hq
    ·rename_i b hb;have h5 : codeAt root (5 :: p) = some b := by simp [codeAt, hb, Code.child]
     exact loopsOf_ok htab (Ω := ⟨v, d, f⟩) rfl (hAv v) g fn root hfn hroot (q ++ 5 :: p) b' fr s x fr' s' (by rw [codeAt_app root (5 :: p) q h5]; exact hq) k
    ·exact (skip_not _ _ hq).elim
   ·exact (skip_not _ _ hq).elim
  ·exact (skip_not _ _ hq).elim
 ·rcases h with ⟨ρ, N, ds, h1, h2⟩ | ⟨th, ρ, ds, h1, h2, h3, h4⟩
  ·obtain ⟨fr1, s1, e1, e2⟩ := endD_ok h1 h2;exact .inl ⟨fr1, s1, ρ, N, e1, e2⟩
  ·obtain ⟨fr1, s1, e1, e2⟩ := nextD_ok h1 h2 h3;exact .inr ⟨fr1, s1, ρ, lookE th, e1, e2, h4⟩


def dutiesTold (Ω : Om) : List Duty → Prop
 | [] => True
 | (true, x, y) :: r => x.i Ω = y.i Ω ∧ dutiesTold Ω r
 | (false, x, y) :: r => x.s Ω = y.s Ω ∧ dutiesTold Ω r
theorem dutiesTold_ok {Ω : Om} : ∀ {l : List Duty}, dutiesTold Ω l → Duties Ω l
 | [], _ => fun p hp => by cases hp
 | (true, x, y) :: r, h => fun p hp => by
  rcases List.mem_cons.1 hp with rfl | hp
  ·exact h.1
  ·exact dutiesTold_ok h.2 p hp
 | (false, x, y) :: r, h => fun p hp => by
  rcases List.mem_cons.1 hp with rfl | hp
  ·exact h.1
  ·exact dutiesTold_ok h.2 p hp

def Q.holds' (Ω : Om) : Q → Bool → Prop
 | .le x y, true => x.i Ω ≤ y.i Ω
 | .le x y, false => y.i Ω < x.i Ω
 | .eq x y, true => x.i Ω = y.i Ω
 | .eq x y, false => x.i Ω ≠ y.i Ω
 | .fit k x, true => k.min ≤ x.i Ω ∧ x.i Ω ≤ k.max
 | .fit k x, false => ¬ (k.min ≤ x.i Ω ∧ x.i Ω ≤ k.max)
 | .same x y, true => x.s Ω = y.s Ω
 | .same x y, false => x.s Ω ≠ y.s Ω
 | .less x y, b => ltInts (x.s Ω) (y.s Ω) = b
theorem Q.holds'_iff (Ω : Om) (q : Q) (b : Bool) : q.holds' Ω b ↔ q.val Ω = b := by
 cases q <;> cases b <;> simp [Q.holds', Q.val]
def allTold' (Ω : Om) : List (Q × Bool) → Prop
 | [] => True
 | p :: r => p.1.holds' Ω p.2 ∧ allTold' Ω r
theorem allTold'_iff {Ω : Om} : ∀ {l : List (Q × Bool)}, allTold' Ω l ↔ ∀ p ∈ l, p.1.val Ω = p.2
 | [] => by simp [allTold']
 | p :: r => by simp only [allTold', Q.holds'_iff, allTold'_iff (l := r), List.mem_cons, forall_eq_or_imp]

end Go.Ev
