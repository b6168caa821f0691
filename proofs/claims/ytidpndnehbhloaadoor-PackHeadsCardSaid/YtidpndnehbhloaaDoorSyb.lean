/- An evaluator of the model's code over abstract states, and its soundness: part 2: operations that only read. No condition. -/
import Derived.Test.YtidpndnehbhloaaDoorSya
import Derived.Laws.Slices
import Derived.Laws.BytesString
import Derived.Laws.Pointers
namespace Go.Ev
open Go.RowKit

structure SQ where
 k : IntKind
 n : E
 x : E

structure Mem where
 cell : Nat → Nat → Option AV
 apart : Nat → Nat → Bool
 fact : Option (Op → List AV → Option AV)
 ask : Ask
 z : Nat → Bool
 seq : Nat → Option SQ
 pl : Bool
 vseq : Nat → Option VB

def PoolIn (e : Env) (w : World) : Prop := ∀ k arr, e.h k = some arr → ∃ el fz, w.heap[k]? = some (.cells arr el fz)

structure Reads (P : Program) (e : Env) (m : Mem) (M : World → Prop) : Prop where
 cell : ∀ id off v, m.cell id off = some v → ∃ b x, e.loc id = some b ∧ VR e v x ∧ ∀ w, M w → w.cell? ⟨b, off, none⟩ = some x
 ask : AskOK e.opq m.ask
 zero : ∀ id, m.z id = true → e.base id = 0
 seq : ∀ id q, m.seq id = some q → ∃ b, e.loc id = some b ∧ q.n.i e.opq = (q.x.s e.opq).length ∧ (∀ c ∈ q.x.s e.opq, inK q.k c) ∧ ∀ w, M w → ∀ j n, (q.x.s e.opq)[j]? = some n → w.cell? ⟨b, e.base id + j, none⟩ = some (.int q.k n)
 pool : m.pl = true → ∀ w, M w → PoolIn e w
 vseq : ∀ id q, m.vseq id = some q → ∃ b, e.loc id = some b ∧ q.n.i e.opq = ((q.x.den e.opq).toList.length : Int) ∧ ∀ j d, (q.x.den e.opq).toList[j]? = some d → ∃ cs, PC e.h q.s d cs ∧ ∀ w, M w → ∀ i c, cs[i]? = some c → w.cell? ⟨b, j * q.s.size + i, none⟩ = some c
 apart : ∀ i j, m.apart i j = true → ∃ b c, e.loc i = some b ∧ e.loc j = some c ∧ b ≠ c ∧ ∀ w, M w → ∀ o p, (sameAddr ⟨b, o, none⟩ ⟨c, p, none⟩).run P w = .ok false w
 fact : ∀ F, m.fact = some F → ∀ (o : Oper) (a : Act) avs v, F o.op avs = some v → VRs e avs (o.op.operands.toList.map a.eval) → ∃ x, VR e v x ∧ ∀ w, M w → (execOp a.eval o).run P w = .ok (.value x) w

def FT (e : Env) (t : T AV) (a : Act) : Prop := ∀ i v, t.get i = some v → ∃ x, a.tmps[i]? = some x ∧ VR e v x

def evalO (t : T AV) : Operand → Option AV
 | .tmp i => match t.get i with
  | some (.pw _ s x) => some (.pv s x)
  | r => r
 | .const v => ofVal 8 v
 | .func f => some (.func f [])
 | .global g => some (.ptr (2 * g) 0)

theorem evalO_vr {e : Env} {t : T AV} {a : Act} (h : FT e t a) {x : Operand} {v : AV} (k : evalO t x = some v) : VR e v (a.eval x) := by
 cases x with
 | tmp i =>
  simp only [evalO] at k;split at k
  ·rename_i j s x hg;simp only [sme] at k;subst k;obtain ⟨y, hy, hv⟩ := h i _ hg;simp only [Act.eval];rw [show a.tmps.getD i undef = y by simp [Array.getD_eq_getD_getElem?, hy]];simp only [VR] at hv ⊢;exact hv.2
  ·obtain ⟨y, hy, hv⟩ := h i v k;simp only [Act.eval];rw [show a.tmps.getD i undef = y by simp [Array.getD_eq_getD_getElem?, hy]];exact hv
 | const c => exact ofVal_vr _ _ _ k
 | func f => simp only [evalO, sme] at k; subst k; simp only [VR, Act.eval]; exact ⟨#[], rfl, VRs_nil⟩
 | global g => simp only [evalO, sme] at k; subst k; simp only [VR, Act.eval]; exact ⟨g, e.glob g, rfl⟩

def valOf (t : T AV) (x : Operand) : Option Value := (evalO t x).bind toVal

def pureOp (P : Program) (t : T AV) (o : Oper) : Option AV :=
 match o.op with
 | .select .. => none
 | op => match op.operands.all fun x => (valOf t x).isSome with
  | true => match pureRun P (execOp (fun x => (valOf t x).getD undef) o) with
   | some (.value v) => ofVal 8 v
   | _ => none
  | false => none

theorem pureOp_run {P : Program} {e : Env} {t : T AV} {a : Act} (h : FT e t a) {o : Oper} {v : AV} (k : pureOp P t o = some v) :
  ∃ x, VR e v x ∧ ∀ w, (execOp a.eval o).run P w = .ok (.value x) w := by
 unfold pureOp at k;split at k
 ·cases k
 ·rename_i op hns;split at k
  ·rename_i hall;split at k
   ·rename_i x hx;refine ⟨x, ofVal_vr _ _ _ k, fun w => ?_⟩;rw [execOp_congr (ρ' := fun x => (valOf t x).getD undef) o (fun cs b hh => hns cs b hh) ?_]
    ·exact pureRun_run _ _ hx w
    ·intro y hy;have := Array.all_eq_true_iff_forall_mem.1 hall y hy;obtain ⟨z, hz⟩ := Option.isSome_iff_exists.1 this;rw [hz];simp only [valOf, Option.bind_eq_some_iff] at hz;obtain ⟨u, hu, hz⟩ := hz;exact VR.toVal u _ _ (evalO_vr h hu) hz
   ·cases k
  ·cases k

def readL (m : Mem) (id : Nat) : Nat → Nat → Option (List AV)
 | _, 0 => some []
 | off, n + 1 => match m.cell id off, readL m id (off + 1) n with
  | some v, some r => some (v :: r)
  | _, _ => none

theorem add_none (b o j : Nat) : (⟨b, o, none⟩ : Addr).add j = ⟨b, o + j, none⟩ := by unfold Addr.add; split <;> simp_all

theorem readL_cells {P : Program} {e : Env} {m : Mem} {M : World → Prop} (R : Reads P e m M) {id : Nat} {b : Nat} (hb : e.loc id = some b) : ∀ (n off : Nat) (l : List AV), readL m id off n = some l →
  ∃ xs, VRs e l xs ∧ xs.length = n ∧ ∀ w, M w → ∀ j x, xs[j]? = some x → w.cell? ⟨b, off + j, none⟩ = some x
 | 0, off, l, h => by simp only [readL, sme] at h; subst h; exact ⟨[], VRs_nil, rfl, fun _ _ j x hx => by simp at hx⟩
 | n + 1, off, l, h => by
  simp only [readL] at h;split at h
  ·rename_i v r hv hr;simp only [sme] at h;subst h;obtain ⟨xs, h1, h2, h3⟩ := readL_cells R hb n (off + 1) r hr;obtain ⟨b', x, hb', hx, hc⟩ := R.cell _ _ _ hv;obtain rfl : b' = b := by rw [hb] at hb'; exact (Option.some.inj hb').symm
   refine ⟨x :: xs, VRs_cons hx h1, by simp [h2], fun w hw j y hy => ?_⟩;cases j with
   | zero => simp at hy; subst hy; exact hc w hw
   | succ j => have := h3 w hw j y (by simpa using hy); rw [show off + (j + 1) = off + 1 + j by omega]; exact this
  ·cases h

def loadA (P : Program) (m : Mem) (ty id off : Nat) : Option AV :=
 match P.underlying ty with
 | some (.struct _) | some (.array _ _) => match P.info? ty with
  | some i => (readL m id off i.size).map .agg
  | none => none
 | some _ => m.cell id off
 | none => none

theorem run_loadCells_at {P : Program} (w : World) (b o n : Nat) (xs : List Value) (hl : xs.length = n) (h : ∀ j x, xs[j]? = some x → w.cell? ⟨b, o + j, none⟩ = some x) :
  (loadCells ⟨b, o, none⟩ n).run P w = .ok xs.toArray w := by
 subst hl;exact run_loadCells_list w _ _ fun j v hj => by rw [add_none]; exact h j v hj

theorem loadA_run {P : Program} {e : Env} {m : Mem} {M : World → Prop} (R : Reads P e m M) {ty id off : Nat} {v : AV} (k : loadA P m ty id off = some v) {b : Nat} (hb : e.loc id = some b) :
  ∃ x, VR e v x ∧ ∀ w, M w → (loadVar ty ⟨b, off, none⟩).run P w = .ok x w := by
 unfold loadA at k;have agg : (∃ f, P.underlying ty = some (.struct f)) ∨ (∃ n t, P.underlying ty = some (.array n t)) → (match P.info? ty with | some i => (readL m id off i.size).map AV.agg | none => none) = some v →
   ∃ x, VR e v x ∧ ∀ w, M w → (loadVar ty ⟨b, off, none⟩).run P w = .ok x w := by
  intro hu k;split at k
  ·rename_i i hi;simp only [Option.map_eq_some_iff] at k;obtain ⟨l, hl, rfl⟩ := k;obtain ⟨xs, h1, h2, h3⟩ := readL_cells R hb _ _ _ hl;refine ⟨.agg xs.toArray, by simp only [VR]; exact ⟨_, rfl, h1⟩, fun w hw => ?_⟩;have hr := run_loadCells_at (P := P) w b off i.size xs h2 (h3 w hw);rcases hu with ⟨f, hu⟩ | ⟨n, t, hu⟩ <;>
    simp [loadVar, isAgg, run_underlying hu, sizeOf, typeInfo, hi, hr]
  ·cases k
 split at k
 ·rename_i f hu; exact agg (.inl ⟨f, hu⟩) k
 ·rename_i n t hu; exact agg (.inr ⟨n, t, hu⟩) k
 ·rename_i d hns hna hu;obtain ⟨b', x, hb', hx, hc⟩ := R.cell _ _ _ k;obtain rfl : b' = b := by rw [hb] at hb'; exact (Option.some.inj hb').symm
  refine ⟨x, hx, fun w hw => ?_⟩;have hc := hc w hw;cases d <;> first
   | exact (hns _ rfl).elim
   | exact (hna _ _ rfl).elim
   | simp [loadVar, isAgg, run_underlying hu, hc]
 ·cases k

def fieldA (P : Program) (s : TypeId) (f : Nat) (off : Nat) : Option Nat :=
 match P.underlying s with
 | some (.struct fs) => match fs[f]? with
  | some fd => match P.info? fd.type with
   | some i => match i.size with
    | 0 => none
    | _ + 1 => some (off + fd.offset)
   | none => none
  | none => none
 | _ => none

theorem fieldA_run {P : Program} {s : TypeId} {f off off' : Nat} (k : fieldA P s f off = some off') (b : Nat) (w : World) :
  (Instr.fieldAt s (.pointer (some ⟨b, off, none⟩)) f).run P w = .ok (.pointer (some ⟨b, off', none⟩)) w := by
 unfold fieldA at k;split at k
 ·rename_i fs hu;split at k
  ·rename_i fd hf;split at k
   ·rename_i i hi;split at k
    ·cases k
    ·rename_i n hn;simp only [sme] at k;subst k;simp [Instr.fieldAt, run_underlying hu, hf, Instr.sureAddr, fieldPlace, sizeOf, typeInfo, hi, hn, add_none]
   ·cases k
  ·cases k
 ·cases k

def indexA (P : Program) (t : TypeId) (x ix : AV) : Option AV :=
 match ix with
 | .int _ n => match P.underlying t, x with
  | some (.array len elem), .ptr id off => match P.info? elem with
   | some i => match decide (0 ≤ n ∧ n < len) with
    | true => some (.ptr id (off + n.toNat * i.size))
    | false => none
   | none => none
  | some (.slice elem), .slice id off len _ _ => match P.info? elem with
   | some i => match decide (0 ≤ n ∧ n < len) with
    | true => some (.ptr id (off + n.toNat * i.size))
    | false => none
   | none => none
  | _, _ => none
 | _ => none

theorem indexA_run {P : Program} {e : Env} {t : TypeId} {x ix v : AV} (k : indexA P t x ix = some v) {x' ix' : Value} (hx : VR e x x') (hi : VR e ix ix') :
  ∃ y, VR e v y ∧ ∀ w, (Instr.indexAt t x' ix').run P w = .ok y w := by
 unfold indexA at k;split at k
 ·rename_i kk n;simp only [VR] at hi;subst hi;split at k
  ·rename_i len elem id off hu;split at k
   ·rename_i i hinf;split at k
    ·rename_i hd;simp only [sme] at k;subst k;simp only [VR] at hx;obtain ⟨b, hb, rfl⟩ := hx;have hd' := of_decide_eq_true hd;refine ⟨.pointer (some ⟨b, off + n.toNat * i.size, none⟩), by simp only [VR]; exact ⟨b, hb, rfl⟩, fun w => ?_⟩;simp [Instr.indexAt, asIntOf, run_underlying hu, Instr.sureAddr, hd', sizeOf, typeInfo, hinf, add_none]
    ·cases k
   ·cases k
  ·rename_i elem id off len c opn hu;split at k
   ·rename_i i hinf;split at k
    ·rename_i hd;simp only [sme] at k;subst k;simp only [VR] at hx;obtain ⟨b, hb, rfl⟩ := hx;have hd' := of_decide_eq_true hd;refine ⟨.pointer (some ⟨b, off + n.toNat * i.size, none⟩), by simp only [VR]; exact ⟨b, hb, rfl⟩, fun w => ?_⟩;simp [Instr.indexAt, asIntOf, run_underlying hu, hd', sizeOf, typeInfo, hinf, add_none]
    ·cases k
   ·cases k
  ·cases k
 ·cases k


def bnd : Option AV → Nat → Option Nat
 | none, d => some d
 | some (.int _ n), _ => match decide (0 ≤ n) with
  | true => some n.toNat
  | false => none
 | _, _ => none

def OR (e : Env) (x : Option AV) (a : Option Value) : Prop :=
 match x with
 | none => a = none
 | some v => ∃ y, a = some y ∧ VR e v y

theorem bnd_val {e : Env} {x : Option AV} {a : Option Value} {d l : Nat} (h : OR e x a) (k : bnd x d = some l) : (a = none ∧ x = none ∧ l = d) ∨ ∃ kk, a = some (.int kk l) ∧ x ≠ none := by
 cases x with
 | none => simp only [bnd, sme] at k; exact .inl ⟨h, rfl, k.symm⟩
 | some v =>
  obtain ⟨y, rfl, hy⟩ := h;cases v <;> simp only [bnd, reduceCtorEq] at k
  rename_i kk n;split at k
  ·rename_i hd;simp only [sme] at k;have := of_decide_eq_true hd;simp only [VR] at hy;subst hy;exact .inr ⟨kk, by rw [← k, Int.toNat_of_nonneg this], by simp⟩
  ·cases k

theorem run_bounds {P : Program} (w : World) (s : Bool) (len cap : Nat) (lo hi mx : Option Value) (l h m : Nat)
  (h1 : (lo = none ∧ l = 0) ∨ ∃ k, lo = some (.int k l)) (h2 : (hi = none ∧ mx = none ∧ h = len) ∨ ∃ k, hi = some (.int k h)) (h3 : (mx = none ∧ m = cap) ∨ ∃ k, mx = some (.int k m))
  (a : l ≤ h) (b : h ≤ m) (c : m ≤ cap) : (Instr.sliceBounds s len cap lo hi mx).run P w = .ok (l, h, m) w := by
 have x1 : (l : Int) ≤ (h : Int) := by omega
 have x2 : (h : Int) ≤ (m : Int) := by omega
 have x3 : (m : Int) ≤ (cap : Int) := by omega
 have y1 : (0 : Int) ≤ (l : Int) := by omega
 have y2 : (0 : Int) ≤ (h : Int) := by omega
 have y3 : (0 : Int) ≤ (m : Int) := by omega
 rcases h1 with ⟨rfl, rfl⟩ | ⟨kl, rfl⟩ <;> rcases h2 with ⟨rfl, hm, rfl⟩ | ⟨kh, rfl⟩ <;> rcases h3 with ⟨rfl, rfl⟩ | ⟨km, rfl⟩ <;>
  first
   | (cases hm; done)
   | simp [Instr.sliceBounds, run_sliceBound, x1, x2, x3, y1, y2, y3]

def cutA (id off len cap : Nat) (opn : Bool) (size : Nat) (lo hi mx : Option AV) : Option AV :=
 match bnd lo 0, bnd hi len, bnd mx cap with
 | some l, some h, some m =>
  match Nat.ble l h && Nat.ble h m && Nat.ble m cap && (hi.isSome || mx.isNone) with
  | true =>
   let o := opn && mx.isNone
   match Nat.beq l m with
   | false => some (.slice id (off + l * size) (h - l) (m - l) o)
   | true => match o with
    | false => some (.slice id off (h - l) (m - l) false)
    | true => some .hollow
  | false => none
 | _, _, _ => none

theorem ble_le {a b : Nat} (h : Nat.ble a b = true) : a ≤ b := Nat.le_of_ble_eq_true h
theorem beq_f {a b : Nat} (h : Nat.beq a b = false) : a ≠ b := Nat.ne_of_beq_eq_false h
theorem beq_t {a b : Nat} (h : Nat.beq a b = true) : a = b := Nat.eq_of_beq_eq_true h

theorem cutA_run {P : Program} {e : Env} {id off len cap size : Nat} {opn : Bool} {lo hi mx : Option AV} {v : AV} (k : cutA id off len cap opn size lo hi mx = some v)
  {lo' hi' mx' : Option Value} (h1 : OR e lo lo') (h2 : OR e hi hi') (h3 : OR e mx mx') {b : Nat} (hb : e.loc id = some b) (isS : Bool) :
  ∃ l h m, VR e v (.slice (some (if m = l then ⟨b, off, none⟩ else ⟨b, off + l * size, none⟩)) (h - l) (m - l)) ∧
   ∀ w, (Instr.sliceBounds isS len (cap + if opn then e.spare id else 0) lo' hi' mx').run P w = .ok (l, h, m) w := by
 unfold cutA at k;split at k
 ·rename_i l h m hl hh hm;split at k
  ·rename_i hc;simp only [bae, Bool.or_eq_true] at hc;obtain ⟨⟨⟨c1, c2⟩, c3⟩, c4⟩ := hc;have c1 := ble_le c1;have c2 := ble_le c2;have c3 := ble_le c3;have b1 := bnd_val h1 hl;have b2 := bnd_val h2 hh;have b3 := bnd_val h3 hm;have e1 : (lo' = none ∧ l = 0) ∨ ∃ k, lo' = some (.int k l) := b1.imp (fun x => ⟨x.1, x.2.2⟩) fun ⟨k, x, _⟩ => ⟨k, x⟩
   have e2 : (hi' = none ∧ mx' = none ∧ h = len) ∨ ∃ k, hi' = some (.int k h) := by
    rcases b2 with ⟨x, y, z⟩ | ⟨k, x, _⟩
    ·subst y;simp only [Option.isSome_none, Bool.false_eq_true, false_or] at c4;rcases b3 with ⟨x3, _, _⟩ | ⟨_, _, x3⟩
     ·exact .inl ⟨x, x3, z⟩
     ·simp [Option.isNone_iff_eq_none] at c4; exact absurd c4 x3
    ·exact .inr ⟨k, x⟩
   let mm := if mx.isNone then cap + (if opn then e.spare id else 0) else m
   have hmm : m ≤ mm := by
    simp only [mm];split
    ·have : m ≤ cap := c3;omega
    ·omega
   have hmc : mm ≤ cap + (if opn then e.spare id else 0) := by
    simp only [mm]; split <;> omega
   have e3 : (mx' = none ∧ mm = cap + (if opn then e.spare id else 0)) ∨ ∃ k, mx' = some (.int k mm) := by
    rcases b3 with ⟨x, y, z⟩ | ⟨k, x, y⟩
    ·subst y; exact .inl ⟨x, by simp [mm]⟩
    ·right;have : mx.isNone = false := by cases mx <;> simp_all
     exact ⟨k, by simp [mm, this, x]⟩
   have hopn : mx.isNone = true → m = cap := by
    intro hx;rcases b3 with ⟨_, _, z⟩ | ⟨_, _, y⟩
    ·exact z
    ·simp [Option.isNone_iff_eq_none] at hx; exact absurd hx y
   have hrun : ∀ w, (Instr.sliceBounds isS len (cap + if opn then e.spare id else 0) lo' hi' mx').run P w = .ok (l, h, mm) w :=
    fun w => run_bounds w isS len _ lo' hi' mx' l h mm e1 e2 e3 c1 (by omega) hmc
   refine ⟨l, h, mm, ?_, hrun⟩;simp only [] at k;split at k
   ·rename_i hlm;have hlm := beq_f hlm;simp only [sme] at k;subst k;simp only [VR];refine ⟨b, hb, ?_⟩;have : ¬ mm = l := by omega
    rw [if_neg this];congr 1;simp only [mm];cases hx : mx.isNone
    ·simp
    ·have := hopn hx;subst this;cases opn <;> simp
     omega
   ·rename_i hlm;have hlm := beq_t hlm;split at k
    ·rename_i ho;simp only [sme] at k;subst k;simp only [VR];refine ⟨b, hb, ?_⟩;have hme : mm = m := by
      simp only [mm];cases hx : mx.isNone
      ·simp
      ·rw [hx, Bool.and_true] at ho;have := hopn hx;subst this;simp [ho]
     rw [hme, if_pos hlm.symm]
     simp
    ·simp only [sme] at k;subst k;simp only [VR];have : h - l = 0 := by omega
     rw [this];exact ⟨_, _, rfl⟩
  ·cases k
 ·cases k

def sliceA (P : Program) (t : TypeId) (x : AV) (lo hi mx : Option AV) : Option AV :=
 match P.underlying t, x with
 | some (.slice el), .slice id off len cap opn => match P.info? el with
  | some i => cutA id off len cap opn i.size lo hi mx
  | none => none
 | some (.array n el), .ptr id off => match P.info? el with
  | some i => cutA id off n n false i.size lo hi mx
  | none => none
 | some (.slice el), .hollow => match P.info? el, bnd lo 0, bnd hi 0, mx with
  | some _, some 0, some 0, none => some .hollow
  | _, _, _, _ => none
 | _, _ => none

theorem sliceA_run {P : Program} {e : Env} {t : TypeId} {x v : AV} {lo hi mx : Option AV} (k : sliceA P t x lo hi mx = some v) {x' : Value} {lo' hi' mx' : Option Value}
  (hx : VR e x x') (h1 : OR e lo lo') (h2 : OR e hi hi') (h3 : OR e mx mx') : ∃ y, VR e v y ∧ ∀ w, (Instr.sliceAt t x' lo' hi' mx').run P w = .ok y w := by
 unfold sliceA at k;split at k
 ·rename_i el id off len cap opn hu;split at k
  ·rename_i i hi;simp only [VR] at hx;obtain ⟨b, hb, rfl⟩ := hx;obtain ⟨l, h, m, hv, hr⟩ := cutA_run (P := P) k h1 h2 h3 hb true;refine ⟨_, hv, fun w => ?_⟩;simp only [Instr.sliceAt, Sem.run_bind, run_underlying hu, Result.andThen_ok, Instr.slice, hr, sizeOf, typeInfo, run_program, hi, Sem.run_pure];congr 2;split <;> simp [add_none]
  ·cases k
 ·rename_i n el id off hu;split at k
  ·rename_i i hi;simp only [VR] at hx;obtain ⟨b, hb, rfl⟩ := hx;obtain ⟨l, h, m, hv, hr⟩ := cutA_run (P := P) k h1 h2 h3 hb false;simp only [Bool.false_eq_true, if_false, Nat.add_zero] at hr;refine ⟨_, hv, fun w => ?_⟩;simp only [Instr.sliceAt, Sem.run_bind, run_underlying hu, Result.andThen_ok, Instr.sureAddr, hr, sizeOf, typeInfo, run_program, hi, Sem.run_pure];congr 2;split <;> simp [add_none]
  ·cases k
 ·rename_i el hu;split at k
  ·rename_i i hi b1 b2;simp only [sme] at k;subst k;simp only [VR] at hx;obtain ⟨ad, c, rfl⟩ := hx;have h3 : mx' = none := h3;subst h3;have e1 : (lo' = none ∧ (0 : Nat) = 0) ∨ ∃ k, lo' = some (.int k ((0 : Nat) : Int)) := (bnd_val h1 b1).imp (fun x => ⟨x.1, rfl⟩) fun ⟨k, x, _⟩ => ⟨k, x⟩
   have e2 : (hi' = none ∧ (none : Option Value) = none ∧ (0 : Nat) = 0) ∨ ∃ k, hi' = some (.int k ((0 : Nat) : Int)) := (bnd_val h2 b2).imp (fun x => ⟨x.1, rfl, rfl⟩) fun ⟨k, x, _⟩ => ⟨k, x⟩
   have hr : ∀ w, (Instr.sliceBounds true 0 c lo' hi' none).run P w = .ok (0, 0, c) w := fun w => run_bounds w true 0 c lo' hi' none 0 0 c e1 e2 (.inl ⟨rfl, rfl⟩) (Nat.le_refl 0) (Nat.zero_le c) (Nat.le_refl c)
   refine ⟨.slice (if c = 0 then some ad else (some ad).map (·.add (0 * i.size))) (0 - 0) (c - 0), ?_, fun w => ?_⟩
   ·simp only [VR];split
    ·exact ⟨ad, c, rfl⟩
    ·exact ⟨_, c, rfl⟩
   ·simp only [Instr.sliceAt, Sem.run_bind, run_underlying hu, Result.andThen_ok, Instr.slice, hr, sizeOf, typeInfo, run_program, hi, Sem.run_pure]
  ·cases k
 ·cases k

def setL : List AV → Nat → List AV → List AV
 | l, _, [] => l
 | l, o, x :: r => setL (l.set o x) (o + 1) r

def fillA (place : Nat → Option (Nat × Nat)) : List AV → List (Nat × AV) → Option (List AV)
 | cells, [] => some cells
 | cells, (i, v) :: rest => match place i with
  | none => none
  | some (off, size) => match Nat.beq v.cells.length size && Nat.ble (off + v.cells.length) cells.length && !v.isOpq with
   | true => fillA place (setL cells off v.cells) rest
   | false => none

theorem VRs.set {e : Env} {l : List AV} {a : List Value} (h : VRs e l a) (o : Nat) {v : AV} {x : Value} (hv : VR e v x) : VRs e (l.set o v) (a.set o x) := by
 refine VRs_of_at _ _ (by simp [h.length]) fun i u y h1 h2 => ?_
 rw [List.getElem?_set] at h1 h2;by_cases e : o = i
 ·subst e;rw [if_pos rfl] at h1 h2;split at h1
  ·split at h2
   ·cases h1; cases h2; exact hv
   ·cases h2
  ·cases h1
 ·rw [if_neg e] at h1 h2;obtain ⟨z, hz, hr⟩ := h.at i u h1;rw [h2] at hz;cases hz;exact hr

theorem setL_foldl {e : Env} (off : Nat) : ∀ (r : List AV) (xs : List Value) (k : Nat) (l : List AV) (arr : Array Value), VRs e r xs → VRs e l arr.toList →
  VRs e (setL l (off + k) r) ((xs.zipIdx k).foldl (fun cs (p : Value × Nat) => cs.setIfInBounds (off + p.2) p.1) arr).toList
 | [], xs, k, l, arr, h, H => by simp only [VRs] at h; subst h; simpa [setL] using H
 | v :: r, xs, k, l, arr, h, H => by
  simp only [VRs] at h;obtain ⟨x, s, rfl, hx, hs⟩ := h;simp only [setL, List.zipIdx_cons, List.foldl_cons];have := setL_foldl off r s (k + 1) (l.set (off + k) v) (arr.setIfInBounds (off + k) x) hs (by rw [Array.toList_setIfInBounds]; exact H.set _ hx);rw [← Nat.add_assoc] at this;exact this

theorem fillA_fill {e : Env} (place : Nat → Option (Nat × Nat)) : ∀ (ps : List (Nat × AV)) (qs : List (Nat × Value)) (l l' : List AV) (arr : Array Value), VRs e l arr.toList →
  VRs e (ps.map (·.2)) (qs.map (·.2)) → ps.map (·.1) = qs.map (·.1) → fillA place l ps = some l' → ∃ arr', Instr.fill place arr qs = some arr' ∧ VRs e l' arr'.toList
 | [], qs, l, l', arr, H, h1, h2, k => by
  cases qs with
  | nil => simp only [fillA, sme] at k; subst k; exact ⟨arr, rfl, H⟩
  | cons q qs => simp at h2
 | (i, v) :: ps, qs, l, l', arr, H, h1, h2, k => by
  cases qs with
  | nil => simp at h2
  | cons q qs =>
   obtain ⟨j, x⟩ := q;simp only [List.map_cons, List.cons.injEq] at h2;obtain ⟨rfl, h2⟩ := h2;simp only [List.map_cons, VRs] at h1;obtain ⟨x', r', he, hx, hr⟩ := h1;obtain ⟨rfl, rfl⟩ : x = x' ∧ qs.map (·.2) = r' := by simpa using he
   simp only [fillA] at k;simp only [Instr.fill];split at k
   ·cases k
   ·rename_i off size hpl;split at k
    ·rename_i hc;simp only [bae, Bool.not_eq_true'] at hc;obtain ⟨⟨c1, c2⟩, c3⟩ := hc;have c1 := beq_t c1;have c2 := ble_le c2;have hcells := hx.cells c3;have hlen := hcells.length;have hl2 := H.length;simp only [Array.length_toList] at hlen hl2;rw [hpl];dsimp only;rw [if_neg (by simp only [Bool.or_eq_true, decide_eq_true_eq, not_or]; omega)];refine fillA_fill place ps qs _ l' _ ?_ hr h2 k;have := setL_foldl off v.cells x.cells.toList 0 l arr hcells H;rw [← Array.foldl_toList, Array.toList_zipIdx];exact this
    ·cases k

def placesOf (fields : Array Field) : Sem (Array (Nat × Nat)) := fields.mapM fun f => do pure (f.offset, ← sizeOf f.type)

def buildA (P : Program) (t : TypeId) (parts : List (Nat × AV)) : Option AV :=
 match pureRun P (zeroValue t) with
 | some z => match ofVal 8 z with
  | some za => match za.isOpq with
   | true => none
   | false => match P.underlying t with
    | some (.struct fields) => match pureRun P (placesOf fields) with
     | some pl => (fillA (pl[·]?) za.cells parts).map .agg
     | none => none
    | some (.array _ elem) => match pureRun P (sizeOf elem) with
     | some size => (fillA (fun i => some (i * size, size)) za.cells parts).map .agg
     | none => none
    | _ => none
  | none => none
 | none => none

theorem buildA_run {P : Program} {e : Env} {t : TypeId} {ps : List (Nat × AV)} {v : AV} (k : buildA P t ps = some v) {qs : Array (Nat × Value)}
  (h1 : VRs e (ps.map (·.2)) (qs.toList.map (·.2))) (h2 : ps.map (·.1) = qs.toList.map (·.1)) : ∃ y, VR e v y ∧ ∀ w, (Instr.build t qs).run P w = .ok y w := by
 unfold buildA at k;split at k
 ·rename_i z hz;split at k
  ·rename_i za hza;split at k
   ·cases k
   ·rename_i hq;have hv0 : VRs e za.cells z.cells.toList := (ofVal_vr (e := e) _ _ _ hza).cells hq;split at k
    ·rename_i fields hu;split at k
     ·rename_i pl hpl;simp only [Option.map_eq_some_iff] at k;obtain ⟨l, hl, rfl⟩ := k;obtain ⟨arr, ha, hr⟩ := fillA_fill _ ps qs.toList _ l z.cells hv0 h1 h2 hl;refine ⟨.agg arr, by simp only [VR]; exact ⟨arr, rfl, hr⟩, fun w => ?_⟩;have hp := pureRun_run _ _ hpl w;unfold placesOf at hp;simp only [Instr.build, Sem.run_bind, pureRun_run _ _ hz w, Result.andThen_ok, run_underlying hu, hp, ha, Sem.run_pure]
     ·cases k
    ·rename_i n elem hu;split at k
     ·rename_i size hs;simp only [Option.map_eq_some_iff] at k;obtain ⟨l, hl, rfl⟩ := k;obtain ⟨arr, ha, hr⟩ := fillA_fill _ ps qs.toList _ l z.cells hv0 h1 h2 hl;refine ⟨.agg arr, by simp only [VR]; exact ⟨arr, rfl, hr⟩, fun w => ?_⟩;simp only [Instr.build, Sem.run_bind, pureRun_run _ _ hz w, Result.andThen_ok, run_underlying hu, pureRun_run _ _ hs w, ha, Sem.run_pure]
     ·cases k
    ·cases k
  ·cases k
 ·cases k

end Go.Ev
