/- An evaluator of the model's code over abstract states, and its soundness: part 5: what an abstract memory says of a world. No condition. -/
import Derived.Test.YtidpndnehbhloaaDoorSyd
import Derived.Laws.MakeOwn
import Derived.Lib.ConvBytes
namespace Go.Ev
open Go.RowKit

def typed (k : IntKind) (l : List Value) : Prop := ∀ v ∈ l, ∃ m, v = .int k m ∧ inK k m

structure AB where
 elem : TypeId
 size : Nat
 esz : Nat
 opn : Bool
 str : Bool
 pat : List AV
 cells : T AV
 tk : Option IntKind

def AB.at (b : AB) (i : Nat) : Option AV :=
 match Nat.blt i b.size with
 | true => match b.cells.get i with
  | some v => some v
  | none => b.pat[i % b.pat.length]?
 | false => none

structure SB where
 elem : TypeId
 k : IntKind
 n : E
 x : E
 opn : Bool
 str : Bool

structure LB where
 st : LoopState
 pending : Option Code
 t : T AV
 n : Nat
 params : Array Tmp
 assign : Code
 body : Code

structure ME where
 key : AV
 val : AV
 born : Nat

inductive AObj where
 | cells (b : AB)
 | ext (b : AB)
 | seq (q : SB)
 | eseq (q : SQ)
 | loop (r : LB)
 | defd
 | map (es : List ME) (clock : Nat)
 | siter (s : ByteArray) (pos : Nat)
 | miter (m since : Nat)
 | vseq (q : VB)
 | peq (q : SQ)

def AObj.own : AObj → Bool
 | .cells _ => true
 | .seq _ => true
 | .loop _ => true
 | .defd => true
 | .map _ _ => true
 | .siter _ _ => true
 | .miter _ _ => true
 | .vseq _ => true
 | _ => false

structure St where
 heap : T AObj
 next : Nat

def St.nid (s : St) : Nat := 2 * s.next + 1

def St.row (s : St) (id : Nat) : Option AB :=
 match s.heap.get id with
 | some (.cells b) => some b
 | _ => none

def St.rowR (s : St) (id : Nat) : Option AB :=
 match s.heap.get id with
 | some (.cells b) => some b
 | some (.ext b) => some b
 | _ => none

def St.seqR (s : St) (id : Nat) : Option SQ :=
 match s.heap.get id with
 | some (.seq q) => some ⟨q.k, q.n, q.x⟩
 | some (.eseq q) => some q
 | _ => none

def AB.from (b : AB) : Nat → Nat → Option (List AV)
 | _, 0 => some []
 | i, n + 1 => match b.at i, AB.from b (i + 1) n with
  | some v, some r => some (v :: r)
  | _, _ => none

theorem AB.from_at {b : AB} : ∀ (n i : Nat) (l : List AV), b.from i n = some l → l.length = n ∧ ∀ j v, l[j]? = some v → b.at (i + j) = some v
 | 0, i, l, h => by simp only [AB.from, sme] at h; subst h; exact ⟨rfl, fun j v hj => by simp at hj⟩
 | n + 1, i, l, h => by
  simp only [AB.from] at h;split at h
  ·rename_i v r hv hr;simp only [sme] at h;subst h;obtain ⟨h1, h2⟩ := AB.from_at n (i + 1) r hr;refine ⟨by simp [h1], fun j u hj => ?_⟩;cases j with
   | zero => simp at hj; subst hj; exact hv
   | succ j => have := h2 j u (by simpa using hj); rw [← this]; congr 1; omega
  ·cases h

def AB.nums (b : AB) : Option SQ := match b.at 0 with
 | some v => match toE v with
  | some (k, _) => match b.from 0 b.size with
   | some l => match seqOfL k l with
    | some x => some ⟨k, .int b.size, x⟩
    | none => none
   | none => none
  | none => none
 | none => none

theorem AB.nums_ok {e : Env} {b : AB} {q : SQ} (h : b.nums = some q) {arr : Array Value} (R : ∀ i v, b.at i = some v → ∃ x, arr[i]? = some x ∧ VR e v x) : q.n.i e.opq = (q.x.s e.opq).length ∧ (∀ c ∈ q.x.s e.opq, inK q.k c) ∧ ∀ (j : Nat) (n : Int), (q.x.s e.opq)[j]? = some n → arr[j]? = some (Value.int q.k n) := by
 unfold AB.nums at h;split at h
 ·split at h
  ·split at h
   ·rename_i l hl;split at h
    ·rename_i x hx;simp only [sme] at h;subst h;obtain ⟨h1, h2⟩ := AB.from_at _ _ _ hl;have hv : VRs e l (arr.toList.take b.size) := by
      refine VRs_of_at _ _ ?_ fun i v x hi hx' => ?_
      ·rw [List.length_take, h1];rcases Nat.eq_zero_or_pos b.size with h0 | h0
       ·omega
       ·have hlast : b.size - 1 < l.length := by omega
        obtain ⟨x, g1, _⟩ := R _ _ (h2 (b.size - 1) _ (List.getElem?_eq_getElem hlast));have := (Array.getElem?_eq_some_iff.1 g1).1
        simp
        omega
      ·obtain ⟨y, g1, g2⟩ := R _ _ (h2 i v hi);rw [List.getElem?_take] at hx';split at hx'
       ·rw [Nat.zero_add, ← Array.getElem?_toList, hx'] at g1;cases g1; exact g2
       ·cases hx'
     obtain ⟨e1, e2⟩ := seqOfL_val hx hv;have e3 : (x.s e.opq).length = b.size := by
      have := congrArg List.length e1;have := hv.length;simp at *;omega
     refine ⟨by rw [e3]; rfl, e2, fun j n hj => ?_⟩;have hjl : j < b.size := by rw [← e3]; exact (List.getElem?_eq_some_iff.1 hj).1
     have hj2 : (x.s e.opq)[j]? = some n := hj;have := congrArg (fun l => l[j]?) e1;simp only [List.getElem?_map, hj2, Option.map_some] at this;rw [List.getElem?_take, if_pos hjl] at this;simpa using this
    ·cases h
   ·cases h
  ·cases h
 ·cases h

def SB.at (q : SB) (off : Nat) : Option AV := match q.n with
 | .int n => match decide ((off : Int) < n) with
  | true => some (mkS q.k (mkSel q.x (.int off)))
  | false => none
 | _ => none

theorem SB.at_ok {e : Env} {q : SB} {off : Nat} {v : AV} (h : q.at off = some v) (hn : q.n.i e.opq = (q.x.s e.opq).length) (hg : ∀ c ∈ q.x.s e.opq, inK q.k c) : ∃ c, (q.x.s e.opq)[off]? = some c ∧ VR e v (.int q.k c) := by
 unfold SB.at at h;split at h
 ·rename_i n hqn;split at h
  ·rename_i hd;have hd := of_decide_eq_true hd;simp only [sme] at h;subst h;rw [hqn] at hn;have hn : n = (q.x.s e.opq).length := hn;have hlt : off < (q.x.s e.opq).length := by omega
   have e1 : (E.int off).n e.opq = off := by simp [E.n, E.den, D.nat]
   have hs : (q.x.s e.opq)[(E.int off).n e.opq]? = some (q.x.s e.opq)[off] := by rw [e1]; simp [hlt]
   have hi := mkSel_i e.opq q.x (.int off) hs;refine ⟨(q.x.s e.opq)[off], by simp [hlt], ?_⟩;have := mkS_vr (e := e) (k := q.k) (x := mkSel q.x (.int off)) (by rw [hi]; exact hg _ (List.getElem_mem hlt));rw [hi] at this; exact this
  ·cases h
 ·cases h

def St.cellR (s : St) (id off : Nat) : Option AV :=
 match s.heap.get id with
 | some (.cells b) => b.at off
 | some (.ext b) => b.at off
 | some (.seq q) => q.at off
 | _ => none
def St.numsR (s : St) (id : Nat) : Option SQ :=
 match s.heap.get id with
 | some (.seq q) => some ⟨q.k, q.n, q.x⟩
 | some (.eseq q) => some q
 | some (.peq q) => some q
 | some (.cells b) => match b.opn with
  | false => b.nums
  | true => none
 | some (.ext b) => b.nums
 | _ => none
def St.zR (s : St) (id : Nat) : Bool :=
 match s.heap.get id with
 | some (.eseq _) => false
 | some (.peq _) => false
 | some _ => true
 | none => false

def St.mem (s : St) : Mem where
 cell := s.cellR
 apart i j := match Nat.beq i j with
  | true => false
  | false => match s.row i, s.row j with
   | some b, some c => !b.str && !c.str
   | _, _ => false
 fact := none
 ask := fun _ => none
 z := s.zR
 seq := s.numsR
 pl := true
 vseq id := match s.heap.get id with
  | some (.vseq q) => some q
  | _ => none

structure Facts where
 op : Option (Op → List AV → Option AV)
 ask : Ask
def St.memF (s : St) (F : Facts) : Mem := { s.mem with fact := F.op, ask := F.ask }

structure Base where
 w : World
 K : Nat → Bool
 h : Pool
def poolW (w : World) : Pool := fun k => match w.heap[k]? with
 | some (.cells arr _ _) => some arr
 | _ => none
abbrev Base.all (w : World) : Base := ⟨w, fun _ => true, poolW w⟩

structure Und (w0 : Base) (w' : World) : Prop where
 os : w'.os = w0.w.os
 tape : w'.tape = w0.w.tape
 output : w'.output = w0.w.output
 size : w0.w.heap.size ≤ w'.heap.size
 block : ∀ k, k < w0.w.heap.size → w0.K k = true → w'.heap[k]? = w0.w.heap[k]?

def Base.mine (w0 : Base) (k : Nat) : Prop := w0.w.heap.size ≤ k ∨ w0.K k = false
def Base.kept (w0 : Base) (k : Nat) : Prop := k < w0.w.heap.size ∧ w0.K k = true

theorem Und.refl (w0 : Base) : Und w0 w0.w := ⟨rfl, rfl, rfl, Nat.le_refl _, fun _ _ _ => rfl⟩
theorem Und.drew {w0 : Base} {w : World} (h : Und w0 w) : Und w0 w.drew := ⟨h.os, h.tape, h.output, h.size, h.block⟩
theorem Und.step {w0 : Base} {w w' : World} (h : Und w0 w) (hos : w'.os = w.os) (ht : w'.tape = w.tape) (ho : w'.output = w.output) (hs : w.heap.size ≤ w'.heap.size) (hb : ∀ k, w0.kept k → w'.heap[k]? = w.heap[k]?) : Und w0 w' :=
 ⟨hos.trans h.os, ht.trans h.tape, ho.trans h.output, Nat.le_trans h.size hs, fun k hk hK => (hb k ⟨hk, hK⟩).trans (h.block k hk hK)⟩
theorem Und.alloc {w0 : Base} {w : World} (h : Und w0 w) (o : Obj) : Und w0 (w.alloc o) :=
 h.step rfl rfl rfl (by simp) fun k hk => Below.heap_alloc _ _ _ (by have := h.size; have := hk.1; omega)
theorem Base.mine_new {w0 : Base} {w : World} (h : Und w0 w) : w0.mine w.heap.size := .inl h.size
theorem Base.mine_ne {w0 : Base} {j k : Nat} (h : w0.mine k) (hj : w0.kept j) : j ≠ k := by
 intro x; subst x;rcases h with h | h
 ·have := hj.1; omega
 ·rw [hj.2] at h; cases h

structure FactsOK (P : Program) (Ω : Om) (w0 : Base) (F : Facts) : Prop where
 op : ∀ G, F.op = some G → ∀ (e : Env), e.opq = Ω → ∀ (o : Oper) (a : Act) avs v, G o.op avs = some v → VRs e avs (o.op.operands.toList.map a.eval) → ∃ x, VR e v x ∧ ∀ w, Und w0 w → (execOp a.eval o).run P w = .ok (.value x) w
 ask : AskOK Ω F.ask

structure RowR (e : Env) (id : Nat) (b : AB) (arr : Array Value) (fz : Nat × Nat) : Prop where
 size : arr.size = b.size + if b.opn then e.spare id * b.esz else 0
 cell : ∀ i v, b.at i = some v → ∃ x, arr[i]? = some x ∧ VR e v x
 frozen : ∀ off, off < arr.size → ¬ (fz.1 ≤ off ∧ off < fz.2)
 plain : b.str = false → fz = (0, 0)
 mark : b.str = true → fz = (arr.size, arr.size + 1)
 tail : ∀ k, b.tk = some k → b.opn = true → typed k (arr.toList.drop b.size) ∧ arr.size ≤ 9223372036854775807

structure SeqR (e : Env) (id : Nat) (q : SB) (arr : Array Value) (fz : Nat × Nat) : Prop where
 n : q.n.i e.opq = (q.x.s e.opq).length
 rng : ∀ c ∈ q.x.s e.opq, inK q.k c
 cells : ∃ tail : List Value, arr.toList = (q.x.s e.opq).map (Value.int q.k) ++ tail ∧ (tail.length = if q.opn then e.spare id else 0) ∧ typed q.k tail ∧ (q.opn = true → arr.size ≤ 9223372036854775807)
 frozen : ∀ off, off < arr.size → ¬ (fz.1 ≤ off ∧ off < fz.2)
 plain : q.str = false → fz = (0, 0)
 mark : q.str = true → fz = (arr.size, arr.size + 1)

structure VSeqR (e : Env) (id : Nat) (q : VB) (arr : Array Value) : Prop where
 n : q.n.i e.opq = ((q.x.den e.opq).toList.length : Int)
 size : arr.size = (q.x.den e.opq).toList.length * q.s.size + if q.opn then e.spare id * q.s.size else 0
 cell : ∀ j d, (q.x.den e.opq).toList[j]? = some d → PC e.h q.s d ((arr.toList.drop (j * q.s.size)).take q.s.size)

def MR (e : Env) : List ME → List MapEntry → Prop
 | [], l => l = []
 | m :: r, l => ∃ x rest, l = x :: rest ∧ VR e m.key x.key ∧ VR e m.val x.val ∧ x.born = m.born ∧ MR e r rest
theorem MR.mono {e e' : Env} (h : e.le e') : ∀ {l : List ME} {m : List MapEntry}, MR e l m → MR e' l m
 | [], _, H => H
 | _ :: _, _, ⟨x, rest, h1, h2, h3, h4, h5⟩ => ⟨x, rest, h1, h2.mono h, h3.mono h, h4, h5.mono h⟩

def ObjR (w0 : Base) (e : Env) (id : Nat) (k : Nat) (w : World) : AObj → Prop
 | .cells b => w0.mine k ∧ e.base id = 0 ∧ ∃ arr fz, w.heap[k]? = some (.cells arr b.elem fz) ∧ RowR e id b arr fz
 | .ext b => w0.kept k ∧ e.base id = 0 ∧ ∃ arr el fz, w.heap[k]? = some (.cells arr el fz) ∧ ∀ i v, b.at i = some v → ∃ x, arr[i]? = some x ∧ VR e v x
 | .seq q => w0.mine k ∧ e.base id = 0 ∧ ∃ arr fz, w.heap[k]? = some (.cells arr q.elem fz) ∧ SeqR e id q arr fz
 | .loop r => w0.mine k ∧ e.base id = 0 ∧ ∃ f tmps d, w.heap[k]? = some (.loop { state := r.st, pending := r.pending, fn := f, tmps, params := r.params, assign := r.assign, body := r.body, defers := d }) ∧ tmps.size = r.n ∧ ∀ i v, r.t.get i = some v → ∃ x, tmps[i]? = some x ∧ VR e v x
 | .defd => w0.mine k ∧ e.base id = 0 ∧ w.heap[k]? = some (.deferred (some []))
 | .map es clock => w0.mine k ∧ e.base id = 0 ∧ ∃ arr, w.heap[k]? = some (.map arr clock) ∧ MR e es arr.toList
 | .siter s pos => w0.mine k ∧ e.base id = 0 ∧ w.heap[k]? = some (.stringIter s pos)
 | .miter m since => w0.mine k ∧ e.base id = 0 ∧ ∃ b, e.loc m = some b ∧ w.heap[k]? = some (.mapIter (some b) since #[] since)
 | .vseq q => w0.mine k ∧ e.base id = 0 ∧ ∃ arr, w.heap[k]? = some (.cells arr q.elem (0, 0)) ∧ VSeqR e id q arr
 | .peq q => (q.n.i e.opq = (q.x.s e.opq).length ∧ ∀ c ∈ q.x.s e.opq, inK q.k c) ∧ ∃ arr, e.h k = some arr ∧ ∀ j n, (q.x.s e.opq)[j]? = some n → arr[e.base id + j]? = some (.int q.k n)
 | .eseq q => w0.kept k ∧ (q.n.i e.opq = (q.x.s e.opq).length ∧ ∀ c ∈ q.x.s e.opq, inK q.k c) ∧ ∃ arr el fz, w.heap[k]? = some (.cells arr el fz) ∧ ∀ j n, (q.x.s e.opq)[j]? = some n → arr[e.base id + j]? = some (.int q.k n)

structure Rel (Ω : Om) (w0 : Base) (e : Env) (s : St) (w : World) : Prop where
 opq : e.opq = Ω
 below : Und w0 w
 fresh : ∀ n, s.next ≤ n → e.loc (2 * n + 1) = none
 inj : ∀ i j o o' b, s.heap.get i = some o → s.heap.get j = some o' → o.own = true → o'.own = true → e.loc i = some b → e.loc j = some b → i = j
 obj : ∀ id o, s.heap.get id = some o → ∃ k, e.loc id = some k ∧ ObjR w0 e id k w o
 pool : ∀ k arr, e.h k = some arr → ∃ el fz, w.heap[k]? = some (.cells arr el fz)
 apart : ∀ i o k, s.heap.get i = some o → o.own = true → e.loc i = some k → e.h k = none
 grow : ∀ k arr, e.h k = some arr → (∃ a, w0.h k = some a) ∨ w0.mine k
 hold : Pool.le w0.h e.h

theorem ObjR.own {w0 : Base} {e : Env} {id k : Nat} {w : World} {o : AObj} (h : ObjR w0 e id k w o) : (o.own = true ∧ w0.mine k) ∨ (o.own = false ∧ (w0.kept k ∨ ∃ arr, e.h k = some arr)) := by
 cases o with
 | loop r => exact .inl ⟨rfl, h.1⟩
 | defd => exact .inl ⟨rfl, h.1⟩
 | map es c => exact .inl ⟨rfl, h.1⟩
 | siter s p => exact .inl ⟨rfl, h.1⟩
 | miter s p => exact .inl ⟨rfl, h.1⟩
 | cells b => exact .inl ⟨rfl, h.1⟩
 | seq q => exact .inl ⟨rfl, h.1⟩
 | vseq q => exact .inl ⟨rfl, h.1⟩
 | ext b => exact .inr ⟨rfl, .inl h.1⟩
 | eseq q => exact .inr ⟨rfl, .inl h.1⟩
 | peq q => obtain ⟨_, arr, h1, _⟩ := h; exact .inr ⟨rfl, .inr ⟨arr, h1⟩⟩

theorem Rel.inj1 {Ω : Om} {w0 : Base} {e : Env} {s : St} {w : World} (h : Rel Ω w0 e s w) {i j : Nat} {o o' : AObj} {b : Nat} (hi : s.heap.get i = some o) (hj : s.heap.get j = some o') (hb : w0.mine b) (hnb : e.h b = none) (li : e.loc i = some b) (lj : e.loc j = some b) : i = j := by
 have key : ∀ i o, s.heap.get i = some o → e.loc i = some b → o.own = true := by
  intro i o hi li;obtain ⟨k, h1, h2⟩ := h.obj i o hi;rw [li] at h1;cases h1;rcases h2.own with ⟨g, _⟩ | ⟨_, g | ⟨_, g⟩⟩
  ·exact g
  ·exact absurd rfl (Base.mine_ne hb g)
  ·rw [hnb] at g; cases g
 exact h.inj i j o o' b hi hj (key i o hi li) (key j o' hj lj) li lj

theorem Rel.row {Ω : Om} {w0 : Base} {e : Env} {s : St} {w : World} (h : Rel Ω w0 e s w) : ∀ id b, s.heap.get id = some (.cells b) → ∃ k arr fz, e.loc id = some k ∧ w0.mine k ∧ w.heap[k]? = some (.cells arr b.elem fz) ∧ RowR e id b arr fz := by
 intro id b hb;obtain ⟨k, hl, hm, _, arr, fz, h1, h2⟩ := h.obj id _ hb;exact ⟨k, arr, fz, hl, hm, h1, h2⟩

theorem Rel.base0 {Ω : Om} {w0 : Base} {e : Env} {s : St} {w : World} (h : Rel Ω w0 e s w) {id : Nat} {b : AB} (hb : s.rowR id = some b) : e.base id = 0 := by
 unfold St.rowR at hb;split at hb
 ·rename_i c hc; obtain ⟨k, _, _, h0, _⟩ := h.obj id _ hc; exact h0
 ·rename_i c hc; obtain ⟨k, _, _, h0, _⟩ := h.obj id _ hc; exact h0
 ·cases hb

theorem St.row_some {s : St} {id : Nat} {b : AB} (h : s.row id = some b) : s.heap.get id = some (.cells b) := by
 unfold St.row at h;split at h
 ·rename_i c hc; simp only [sme] at h; subst h; exact hc
 ·cases h

theorem ObjR.lt {w0 : Base} {e : Env} {id k : Nat} {w : World} {o : AObj} (h : ObjR w0 e id k w o) (hp : ∀ k arr, e.h k = some arr → ∃ el fz, w.heap[k]? = some (.cells arr el fz)) : k < w.heap.size := by
 cases o with
 | loop r => obtain ⟨_, _, f, tmps, d, h2, _⟩ := h; exact (Array.getElem?_eq_some_iff.1 h2).1
 | defd => obtain ⟨_, _, h2⟩ := h; exact (Array.getElem?_eq_some_iff.1 h2).1
 | map es c => obtain ⟨_, _, arr, h2, _⟩ := h; exact (Array.getElem?_eq_some_iff.1 h2).1
 | siter s p => obtain ⟨_, _, h2⟩ := h; exact (Array.getElem?_eq_some_iff.1 h2).1
 | miter s p => obtain ⟨_, _, b, _, h2⟩ := h; exact (Array.getElem?_eq_some_iff.1 h2).1
 | cells b => obtain ⟨_, _, arr, fz, h2, _⟩ := h; exact (Array.getElem?_eq_some_iff.1 h2).1
 | ext b => obtain ⟨_, _, arr, el, fz, h2, _⟩ := h; exact (Array.getElem?_eq_some_iff.1 h2).1
 | seq b => obtain ⟨_, _, arr, fz, h2, _⟩ := h; exact (Array.getElem?_eq_some_iff.1 h2).1
 | vseq b => obtain ⟨_, _, arr, h2, _⟩ := h; exact (Array.getElem?_eq_some_iff.1 h2).1
 | peq b => obtain ⟨_, arr, h1, _⟩ := h; obtain ⟨_, _, h2⟩ := hp _ _ h1; exact (Array.getElem?_eq_some_iff.1 h2).1
 | eseq b => obtain ⟨_, _, arr, el, fz, h2, _⟩ := h; exact (Array.getElem?_eq_some_iff.1 h2).1

theorem Rel.loc_lt {Ω : Om} {w0 : Base} {e : Env} {s : St} {w : World} (h : Rel Ω w0 e s w) {id : Nat} {o : AObj} {k : Nat} (hr : s.heap.get id = some o) (hk : e.loc id = some k) : k < w.heap.size := by
 obtain ⟨k', h1, h2⟩ := h.obj id o hr;obtain rfl : k' = k := by rw [hk] at h1; exact (Option.some.inj h1).symm
 exact h2.lt h.pool

theorem Rel.pool_lt {Ω : Om} {w0 : Base} {e : Env} {s : St} {w : World} (h : Rel Ω w0 e s w) {k : Nat} {arr : Array Value} (hk : e.h k = some arr) : k < w.heap.size := by
 obtain ⟨_, _, h2⟩ := h.pool k arr hk;exact (Array.getElem?_eq_some_iff.1 h2).1
theorem Rel.pool_new {Ω : Om} {w0 : Base} {e : Env} {s : St} {w : World} (h : Rel Ω w0 e s w) {k : Nat} (hk : w.heap.size ≤ k) : e.h k = none := by
 cases hh : e.h k with
 | none => rfl
 | some arr => have := h.pool_lt hh; omega

theorem Rel.live {Ω : Om} {w0 : Base} {e : Env} {s : St} {w : World} (h : Rel Ω w0 e s w) {id : Nat} {o : AObj} (k : s.heap.get id = some o) : id ≠ s.nid := by
 intro x;obtain ⟨_, hl, _⟩ := h.obj id o k;rw [x, St.nid, h.fresh _ (Nat.le_refl _)] at hl;cases hl

theorem cell_row {w : World} {k : Nat} {arr : Array Value} {el : TypeId} {fz : Nat × Nat} (h : w.heap[k]? = some (.cells arr el fz)) (o : Nat) : w.cell? ⟨k, o, none⟩ = arr[o]? := by
 simp [World.cell?, h]
theorem frozen_row {w : World} {k : Nat} {arr : Array Value} {el : TypeId} {fz : Nat × Nat} (h : w.heap[k]? = some (.cells arr el fz)) (o : Nat) : w.frozen? ⟨k, o, none⟩ = (decide (fz.1 ≤ o) && decide (o < fz.2)) := by
 simp [World.frozen?, h]

theorem seq_cell {l : List Int} {kd : IntKind} {arr : Array Value} {tail : List Value} (h : arr.toList = l.map (Value.int kd) ++ tail) {j : Nat} {n : Int} (hj : l[j]? = some n) : arr[j]? = some (.int kd n) := by
 rw [← Array.getElem?_toList, h, List.getElem?_append_left (by have := (List.getElem?_eq_some_iff.1 hj).1; simpa using this)];simp [hj]

theorem Rel.reads {P : Program} {Ω : Om} {w0 : Base} {e : Env} {s : St} {w : World} (h : Rel Ω w0 e s w) : Reads P e s.mem (fun w' => w' = w) where
 cell id off v k := by
  simp only [St.mem, St.cellR] at k;split at k
  ·rename_i c hc;obtain ⟨kk, arr, fz, hl, _, hr, hR⟩ := h.row id _ hc;obtain ⟨x, hx, hv⟩ := hR.cell off v k;exact ⟨kk, x, hl, hv, fun w' hw => by subst hw; rw [cell_row hr, hx]⟩
  ·rename_i c hc;obtain ⟨kk, hl, _, _, arr, el, fz, hr, hR⟩ := h.obj id _ hc;obtain ⟨x, hx, hv⟩ := hR off v k;exact ⟨kk, x, hl, hv, fun w' hw => by subst hw; rw [cell_row hr, hx]⟩
  ·rename_i q hc;obtain ⟨kk, hl, _, h0, arr, fz, hr, hR⟩ := h.obj id _ hc;obtain ⟨tail, ht, _⟩ := hR.cells;obtain ⟨c, h1, h2⟩ := SB.at_ok k hR.n hR.rng;exact ⟨kk, _, hl, h2, fun w' hw => by subst hw; rw [cell_row hr]; exact seq_cell ht h1⟩
  ·cases k
 apart i j k := by
  simp only [St.mem] at k;split at k
  ·cases k
  ·rename_i hij;have hij := beq_f hij;split at k
   ·rename_i b c hb hc;simp only [bae, Bool.not_eq_true'] at k;obtain ⟨k1, ar1, f1, l1, _, r1, R1⟩ := h.row i b (St.row_some hb);obtain ⟨k2, ar2, f2, l2, _, r2, R2⟩ := h.row j c (St.row_some hc);have z1 := R1.plain k.1;have z2 := R2.plain k.2;subst z1 z2;have hne : k1 ≠ k2 := fun x => hij (h.inj i j _ _ k1 (St.row_some hb) (St.row_some hc) rfl rfl l1 (x ▸ l2))
    refine ⟨k1, k2, l1, l2, hne, fun w' hw o p => ?_⟩;subst hw;simp [sameAddr, hne, frozen_row r1, World.shape?, r1, r2, noView, viewAt, mayBeOne, stringish, frozen_row r2]
   ·cases k
 fact F hF := by cases hF
 ask _ _ k := by cases k
 pool _ w hw := by subst hw; exact h.pool
 vseq id q k := by
  simp only [St.mem] at k;split at k
  ·rename_i c hc;simp only [sme] at k;subst k;obtain ⟨kk, hl, _, _, arr, hr, hR⟩ := h.obj id _ hc;refine ⟨kk, hl, hR.n, fun j d hj => ⟨_, hR.cell j d hj, fun w' hw i c hi => ?_⟩⟩;subst hw;rw [cell_row hr];rw [List.getElem?_take] at hi;split at hi
   ·rw [List.getElem?_drop] at hi; simpa using hi
   ·cases hi
  ·cases k
 zero id k := by
  simp only [St.mem, St.zR] at k;split at k
  ·cases k
  ·cases k
  ·rename_i o ho ho2 hno;obtain ⟨kk, _, hO⟩ := h.obj id o hno;cases o with
   | loop r => exact hO.2.1
   | defd => exact hO.2.1
   | map es c => exact hO.2.1
   | siter s p => exact hO.2.1
   | miter s p => exact hO.2.1
   | cells b => exact hO.2.1
   | ext b => exact hO.2.1
   | seq b => exact hO.2.1
   | vseq b => exact hO.2.1
   | eseq q => exact (ho q rfl).elim
   | peq q => exact (ho2 q rfl).elim
  ·cases k
 seq id q k := by
  simp only [St.mem, St.numsR] at k;split at k
  ·rename_i c hc;simp only [sme] at k;subst k;obtain ⟨kk, hl, _, h0, arr, fz, hr, hR⟩ := h.obj id _ hc;obtain ⟨tail, ht, _⟩ := hR.cells;exact ⟨kk, hl, hR.n, hR.rng, fun w' hw j n hj => by subst hw; rw [cell_row hr, h0, Nat.zero_add]; exact seq_cell ht hj⟩
  ·rename_i c hc;simp only [sme] at k;subst k;obtain ⟨kk, hl, _, hn, arr, el, fz, hr, hR⟩ := h.obj id _ hc;exact ⟨kk, hl, hn.1, hn.2, fun w' hw j n hj => by subst hw; rw [cell_row hr]; exact hR j n hj⟩
  ·rename_i c hc;simp only [sme] at k;subst k;obtain ⟨kk, hl, hn, arr, hp, hR⟩ := h.obj id _ hc;obtain ⟨el, fz, hr⟩ := h.pool _ _ hp;exact ⟨kk, hl, hn.1, hn.2, fun w' hw j n hj => by subst hw; rw [cell_row hr]; exact hR j n hj⟩
  ·rename_i b hc;split at k
   ·obtain ⟨kk, hl, _, h0, arr, fz, hr, hR⟩ := h.obj id _ hc;obtain ⟨g1, g2, g3⟩ := AB.nums_ok k hR.cell;exact ⟨kk, hl, g1, g2, fun w' hw j n hj => by subst hw; rw [cell_row hr, h0, Nat.zero_add]; exact g3 j n hj⟩
   ·cases k
  ·rename_i b hc;obtain ⟨kk, hl, _, h0, arr, el, fz, hr, hR⟩ := h.obj id _ hc;obtain ⟨g1, g2, g3⟩ := AB.nums_ok k hR;exact ⟨kk, hl, g1, g2, fun w' hw j n hj => by subst hw; rw [cell_row hr, h0, Nat.zero_add]; exact g3 j n hj⟩
  ·cases k

theorem Rel.readsF {P : Program} {Ω : Om} {w0 : Base} {e : Env} {s : St} {w : World} (h : Rel Ω w0 e s w) {F : Facts} (hF : FactsOK P Ω w0 F) : Reads P e (s.memF F) (fun w' => w' = w) where
 cell := (h.reads (P := P)).cell
 apart := (h.reads (P := P)).apart
 fact := fun G hG o a avs v hv hx =>
  let ⟨x, h1, h2⟩ := hF.op G hG e h.opq o a avs v hv hx
  ⟨x, h1, fun w' hw' => by subst hw'; exact h2 _ h.below⟩
 ask := by rw [h.opq]; exact hF.ask
 zero := (h.reads (P := P)).zero
 seq := (h.reads (P := P)).seq
 pool := (h.reads (P := P)).pool
 vseq := (h.reads (P := P)).vseq

theorem Rel.drew {Ω : Om} {w0 : Base} {e : Env} {s : St} {w : World} (h : Rel Ω w0 e s w) : Rel Ω w0 e s w.drew := ⟨h.opq, h.below.drew, h.fresh, h.inj, fun id o ho =>
 let ⟨k, h1, h2⟩ := h.obj id o ho
 ⟨k, h1, by cases o <;> exact h2⟩, h.pool, h.apart, h.grow, h.hold⟩

def Env.newB (e : Env) (s : St) (k sp bs : Nat) : Env where
 loc i := if i = s.nid then some k else e.loc i
 spare i := if i = s.nid then sp else e.spare i
 base i := if i = s.nid then bs else e.base i
 opq := e.opq
 glob g := by
  have : 2 * g ≠ s.nid := by unfold St.nid; omega
  simp [this, e.glob g]
 h := e.h
def Env.new (e : Env) (s : St) (k sp : Nat) : Env := e.newB s k sp 0

theorem Env.le_newB {e : Env} {s : St} (h : e.loc s.nid = none) (k sp bs : Nat) : e.le (e.newB s k sp bs) := by
 refine ⟨fun i b hi => ?_, rfl, fun _ _ h => h⟩;have : i ≠ s.nid := by intro x; subst x; rw [h] at hi; cases hi
 simp [Env.newB, this, hi]
theorem Env.le_new {e : Env} {s : St} (h : e.loc s.nid = none) (k sp : Nat) : e.le (e.new s k sp) := Env.le_newB h k sp 0

def St.newO (s : St) (o : AObj) : St := match s with
 | ⟨h, n⟩ => ⟨h.put (2 * n + 1) (some o), n + 1⟩
theorem St.newO_eq (s : St) (o : AObj) : s.newO o = ⟨s.heap.put s.nid (some o), s.next + 1⟩ := by cases s; rfl
def St.new (s : St) (b : AB) : St := s.newO (.cells b)

theorem RowR.mono {e e' : Env} (h : e.le e') {id : Nat} {b : AB} {arr : Array Value} {fz : Nat × Nat} {k : Nat} (hk : e.loc id = some k) (R : RowR e id b arr fz) : RowR e' id b arr fz :=
 ⟨by rw [(h.loc id k hk).2.1]; exact R.size, fun i v hv => let ⟨x, hx, hr⟩ := R.cell i v hv; ⟨x, hx, hr.mono h⟩, R.frozen, R.plain, R.mark, R.tail⟩

theorem SeqR.mono {e e' : Env} (h : e.le e') {id : Nat} {q : SB} {arr : Array Value} {fz : Nat × Nat} {k : Nat} (hk : e.loc id = some k) (R : SeqR e id q arr fz) : SeqR e' id q arr fz :=
 ⟨by rw [h.opq]; exact R.n, by rw [h.opq]; exact R.rng, by rw [h.opq, (h.loc id k hk).2.1]; exact R.cells, R.frozen, R.plain, R.mark⟩

theorem VSeqR.mono {e e' : Env} (h : e.le e') {id : Nat} {q : VB} {arr : Array Value} {k : Nat} (hk : e.loc id = some k) (R : VSeqR e id q arr) : VSeqR e' id q arr :=
 ⟨by rw [h.opq]; exact R.n, by rw [h.opq, (h.loc id k hk).2.1]; exact R.size, fun j d hj => PC.mono h.h _ _ _ (R.cell j d (by rw [h.opq] at hj; exact hj))⟩

theorem ObjR.mono {w0 : Base} {e e' : Env} (h : e.le e') {id k : Nat} {w w' : World} {o : AObj} (hk : e.loc id = some k) (hw : w'.heap[k]? = w.heap[k]?) (R : ObjR w0 e id k w o) : ObjR w0 e' id k w' o := by
 cases o with
 | loop r => obtain ⟨h1, h2, f, tmps, d, h3, h4, h5⟩ := R; exact ⟨h1, by rw [(h.loc id k hk).2.2]; exact h2, f, tmps, d, hw.trans h3, h4, fun i v hv => let ⟨x, a, b⟩ := h5 i v hv; ⟨x, a, b.mono h⟩⟩
 | defd => obtain ⟨h1, h2, h3⟩ := R; exact ⟨h1, by rw [(h.loc id k hk).2.2]; exact h2, hw.trans h3⟩
 | siter s p => obtain ⟨h1, h2, h3⟩ := R; exact ⟨h1, by rw [(h.loc id k hk).2.2]; exact h2, hw.trans h3⟩
 | miter s p => obtain ⟨h1, h2, b, h3, h4⟩ := R; exact ⟨h1, by rw [(h.loc id k hk).2.2]; exact h2, b, (h.loc _ _ h3).1, hw.trans h4⟩
 | map es c => obtain ⟨h1, h2, arr, h3, h4⟩ := R; exact ⟨h1, by rw [(h.loc id k hk).2.2]; exact h2, arr, hw.trans h3, h4.mono h⟩
 | cells b => obtain ⟨h1, h2, arr, fz, h3, h4⟩ := R; exact ⟨h1, by rw [(h.loc id k hk).2.2]; exact h2, arr, fz, hw.trans h3, h4.mono h hk⟩
 | ext b => obtain ⟨h1, h2, arr, el, fz, h3, h4⟩ := R; exact ⟨h1, by rw [(h.loc id k hk).2.2]; exact h2, arr, el, fz, hw.trans h3, fun i v hv => let ⟨x, a, b⟩ := h4 i v hv; ⟨x, a, b.mono h⟩⟩
 | vseq q => obtain ⟨h1, h2, arr, h3, h4⟩ := R; exact ⟨h1, by rw [(h.loc id k hk).2.2]; exact h2, arr, hw.trans h3, h4.mono h hk⟩
 | peq q => obtain ⟨h2, arr, h3, h4⟩ := R; exact ⟨by rw [h.opq]; exact h2, arr, h.h _ _ h3, fun j n hj => by rw [(h.loc id k hk).2.2]; rw [h.opq] at hj; exact h4 j n hj⟩
 | seq q => obtain ⟨h1, h2, arr, fz, h3, h4⟩ := R; exact ⟨h1, by rw [(h.loc id k hk).2.2]; exact h2, arr, fz, hw.trans h3, h4.mono h hk⟩
 | eseq q => obtain ⟨h1, h2, arr, el, fz, h3, h4⟩ := R; exact ⟨h1, by rw [h.opq]; exact h2, arr, el, fz, hw.trans h3, fun j n hj => by rw [(h.loc id k hk).2.2]; rw [h.opq] at hj; exact h4 j n hj⟩

theorem Rel.newO {Ω : Om} {w0 : Base} {e : Env} {s : St} {w w' : World} (h : Rel Ω w0 e s w) (ob : AObj) (k sp bs : Nat) (hb : Und w0 w') (hR : ObjR w0 (e.newB s k sp bs) s.nid k w' ob)
  (hold : ∀ id o, s.heap.get id = some o → ∀ j, e.loc id = some j → j ≠ k ∧ w'.heap[j]? = w.heap[j]?) (hpl : ∀ j arr, e.h j = some arr → w'.heap[j]? = w.heap[j]?) (hnp : ob.own = true → e.h k = none) :
  e.le (e.newB s k sp bs) ∧ Rel Ω w0 (e.newB s k sp bs) (s.newO ob) w' := by
 have hf : e.loc s.nid = none := h.fresh s.next (Nat.le_refl _);have hle := Env.le_newB hf k sp bs;refine ⟨hle, h.opq, hb, ?_, ?_, ?_, fun j arr hj => by rw [hpl j arr hj]; exact h.pool j arr hj, ?_, h.grow, h.hold⟩
 ·intro n hn;simp only [St.newO_eq] at hn;have : 2 * n + 1 ≠ s.nid := by unfold St.nid; omega
  simp [Env.newB, this, h.fresh n (by omega)]
 ·intro i j o o' bb hi hj oi oj li lj;simp only [St.newO_eq, T.get_put] at hi hj;simp only [Env.newB] at li lj;by_cases ei : i = s.nid <;> by_cases ej : j = s.nid
  ·rw [ei, ej]
  ·rw [if_neg ej] at hj lj;rw [if_pos ei] at li;cases li;exact absurd rfl (hold j o' hj _ lj).1
  ·rw [if_neg ei] at hi li;rw [if_pos ej] at lj;cases lj;exact absurd rfl (hold i o hi _ li).1
  ·rw [if_neg ei] at hi li;rw [if_neg ej] at hj lj;exact h.inj i j o o' bb hi hj oi oj li lj
 ·intro id c hc;simp only [St.newO_eq, T.get_put] at hc;split at hc
  ·rename_i hid;subst hid;simp only [sme] at hc;subst hc;exact ⟨k, by simp [Env.newB], hR⟩
  ·rename_i hid;obtain ⟨j, hl, hO⟩ := h.obj id c hc;exact ⟨j, (hle.loc id j hl).1, hO.mono hle hl (hold id _ hc j hl).2⟩
 ·intro i o b hi oo li;simp only [St.newO_eq, T.get_put] at hi;simp only [Env.newB] at li ⊢;by_cases ei : i = s.nid
  ·rw [if_pos ei] at hi li;cases hi;cases li;exact hnp oo
  ·rw [if_neg ei] at hi li;exact h.apart i o b hi oo li

theorem Rel.newAt {Ω : Om} {w0 : Base} {e : Env} {s : St} {w w' : World} (h : Rel Ω w0 e s w) (b : AB) (k sp : Nat) (hb : Und w0 w') (hk : w0.mine k) {arr : Array Value} {fz : Nat × Nat}
  (hcell : w'.heap[k]? = some (.cells arr b.elem fz)) (hR : RowR (e.new s k sp) s.nid b arr fz) (hold : ∀ id o, s.heap.get id = some o → ∀ j, e.loc id = some j → j ≠ k ∧ w'.heap[j]? = w.heap[j]?) (hpl : ∀ j arr, e.h j = some arr → w'.heap[j]? = w.heap[j]?) (hnp : e.h k = none) :
  e.le (e.new s k sp) ∧ Rel Ω w0 (e.new s k sp) (s.new b) w' :=
 h.newO (.cells b) k sp 0 hb ⟨hk, by simp [Env.newB], arr, fz, hcell, hR⟩ hold hpl fun _ => hnp

theorem Rel.alloc {Ω : Om} {w0 : Base} {e : Env} {s : St} {w : World} (h : Rel Ω w0 e s w) (b : AB) (sp : Nat) {arr : Array Value} (hR : RowR (e.new s w.heap.size sp) s.nid b arr (0, 0)) :
  e.le (e.new s w.heap.size sp) ∧ Rel Ω w0 (e.new s w.heap.size sp) (s.new b) (w.alloc (.cells arr b.elem)) :=
 h.newAt b w.heap.size sp (h.below.alloc _) (Base.mine_new h.below) (heap_alloc_new w _) hR (fun id o hid j hj =>
  have := h.loc_lt hid hj
  ⟨by omega, heap_alloc_old w _ j this⟩) (fun j _ hj => heap_alloc_old w _ j (h.pool_lt hj)) (h.pool_new (Nat.le_refl _))

def AB.ofL (el : TypeId) (l : List AV) : AB := ⟨el, l.length, 0, false, false, [], T.nil.putL 0 l, none⟩

theorem AB.at_ofL (el : TypeId) (l : List AV) (i : Nat) : (AB.ofL el l).at i = l[i]? := by
 unfold AB.at AB.ofL;cases h : Nat.blt i l.length
 ·have : ¬ i < l.length := fun x => by rw [show Nat.blt i l.length = true from by simpa [Nat.blt_eq] using x] at h; cases h
  simp [List.getElem?_eq_none (Nat.le_of_not_lt this)]
 ·have h : i < l.length := by simpa [Nat.blt_eq] using h
  simp [T.get_putL, h]

theorem VRs.rowR {e : Env} {l : List AV} {arr : Array Value} (h : VRs e l arr.toList) (id : Nat) (el : TypeId) : RowR e id (AB.ofL el l) arr (0, 0) := by
 refine ⟨by have := h.length; simpa [AB.ofL] using this, fun i v hv => ?_, fun off _ => by omega, fun _ => rfl, (fun hs => by simp [AB.ofL] at hs), fun _ hk => by simp [AB.ofL] at hk⟩;rw [AB.at_ofL] at hv;obtain ⟨x, hx, hr⟩ := h.at i v hv;exact ⟨x, by simpa using hx, hr⟩

theorem Rel.allocL {Ω : Om} {w0 : Base} {e : Env} {s : St} {w : World} (h : Rel Ω w0 e s w) (el : TypeId) {l : List AV} {arr : Array Value} (hl : VRs e l arr.toList) :
  e.le (e.new s w.heap.size 0) ∧ Rel Ω w0 (e.new s w.heap.size 0) (s.new (AB.ofL el l)) (w.alloc (.cells arr el)) :=
 h.alloc (AB.ofL el l) 0 ((hl.mono (Env.le_new (h.fresh _ (Nat.le_refl _)) _ _)).rowR _ _)

def AB.set (b : AB) (off : Nat) (v : AV) : AB := { b with cells := b.cells.put off (some v) }
def St.setO (s : St) (id : Nat) (o : AObj) : St := match s with
 | ⟨h, n⟩ => ⟨h.put id (some o), n⟩
theorem St.setO_eq (s : St) (id : Nat) (o : AObj) : s.setO id o = { s with heap := s.heap.put id (some o) } := by cases s; rfl
def St.setRow (s : St) (id : Nat) (b : AB) : St := s.setO id (.cells b)

theorem AB.at_set (b : AB) (off : Nat) (v : AV) (i : Nat) : (b.set off v).at i = if i = off ∧ i < b.size then some v else b.at i := by
 unfold AB.at AB.set;cases h : Nat.blt i b.size
 ·have : ¬ i < b.size := fun x => by rw [show Nat.blt i b.size = true from by simpa [Nat.blt_eq] using x] at h; cases h
  simp [this]
 ·have h : i < b.size := by simpa [Nat.blt_eq] using h
  simp only [T.get_put];by_cases e : i = off
  ·simp [e]; omega
  ·simp [e]

theorem Rel.setO {Ω : Om} {w0 : Base} {e : Env} {s : St} {w w' : World} (h : Rel Ω w0 e s w) {id k : Nat} {o o' : AObj} (hb : s.heap.get id = some o) (hk : e.loc id = some k) (hm : w0.mine k) (hnp : e.h k = none) (hR : ObjR w0 e id k w' o')
  (hother : ∀ j, j ≠ k → w'.heap[j]? = w.heap[j]?) (hos : w'.os = w.os) (ht : w'.tape = w.tape) (ho : w'.output = w.output) (hs : w.heap.size ≤ w'.heap.size) :
  Rel Ω w0 e { s with heap := s.heap.put id (some o') } w' := by
 have hbo : o.own = true := by
  obtain ⟨k', h1, h2⟩ := h.obj id o hb;rw [hk] at h1;cases h1;rcases h2.own with ⟨g, _⟩ | ⟨_, g | ⟨_, g⟩⟩
  ·exact g
  ·exact absurd rfl (Base.mine_ne hm g)
  ·rw [hnp] at g; cases g
 refine ⟨h.opq, h.below.step hos ht ho hs fun j hj => hother j (Base.mine_ne hm hj), h.fresh, ?_, ?_, fun j arr hj => by rw [hother j (fun x => by subst x; rw [hnp] at hj; cases hj)]; exact h.pool j arr hj, ?_, h.grow, h.hold⟩
 ·have key : ∀ i p, (s.heap.put id (some o')).get i = some p → p.own = true → ∃ p', s.heap.get i = some p' ∧ p'.own = true := by
   intro i p hi hp;simp only [T.get_put] at hi;split at hi
   ·rename_i e1; subst e1; exact ⟨_, hb, hbo⟩
   ·exact ⟨_, hi, hp⟩
  intro i j p p' bb hi hj oi oj li lj;obtain ⟨_, hi, oi⟩ := key i p hi oi;obtain ⟨_, hj, oj⟩ := key j p' hj oj;exact h.inj i j _ _ bb hi hj oi oj li lj
 ·intro i c hc;simp only [T.get_put] at hc;split at hc
  ·rename_i e1;subst e1;simp only [sme] at hc;subst hc;exact ⟨k, hk, hR⟩
  ·rename_i hne;obtain ⟨j, hlj, hO⟩ := h.obj i c hc;have : j ≠ k := fun x => hne (h.inj1 hc hb hm hnp (x ▸ hlj) hk)
   exact ⟨j, hlj, hO.mono (Env.le_refl e) hlj (hother j this)⟩
 ·intro i p b hi oo li;simp only [T.get_put] at hi;split at hi
  ·rename_i e1; subst e1; exact h.apart _ o b hb hbo li
  ·exact h.apart i p b hi oo li

theorem Rel.setRow {Ω : Om} {w0 : Base} {e : Env} {s : St} {w w' : World} (h : Rel Ω w0 e s w) {id k : Nat} {b b' : AB} (hb : s.heap.get id = some (.cells b)) (hk : e.loc id = some k) {arr : Array Value} {fz : Nat × Nat}
  (hcell : w'.heap[k]? = some (.cells arr b'.elem fz)) (hR : RowR e id b' arr fz) (hother : ∀ j, j ≠ k → w'.heap[j]? = w.heap[j]?) (hos : w'.os = w.os) (ht : w'.tape = w.tape) (ho : w'.output = w.output) (hs : w.heap.size ≤ w'.heap.size) :
  Rel Ω w0 e (s.setRow id b') w' := by
 obtain ⟨k', hl, hm, h0, _⟩ := h.obj id _ hb;obtain rfl : k' = k := by rw [hk] at hl; exact (Option.some.inj hl).symm
 rw [St.setRow, St.setO_eq];exact h.setO hb hk hm (h.apart _ _ _ hb rfl hk) ⟨hm, h0, arr, fz, hcell, hR⟩ hother hos ht ho hs

theorem Rel.store {P : Program} {Ω : Om} {w0 : Base} {e : Env} {s : St} {w : World} (h : Rel Ω w0 e s w) {id off k : Nat} {b : AB} (hb : s.heap.get id = some (.cells b)) (hk : e.loc id = some k) (ho : off < b.size) {v : AV} {x : Value}
  (hv : VR e v x) (h1 : v.one = true) : (store ⟨k, off, none⟩ x).run P w = .ok () (w.setCell ⟨k, off, none⟩ x) ∧ Rel Ω w0 e (s.setRow id (b.set off v)) (w.setCell ⟨k, off, none⟩ x) := by
 obtain ⟨k', arr, fz, hl, hk0, hr, hR⟩ := h.row id b hb;obtain rfl : k' = k := by rw [hk] at hl; exact (Option.some.inj hl).symm
 have hoff : off < arr.size := by rw [hR.size]; omega
 have hc : w.cell? ⟨k', off, none⟩ = some arr[off] := by rw [cell_row hr]; simp [hoff]
 have hf : w.frozen? ⟨k', off, none⟩ = false := by
  rw [frozen_row hr];have := hR.frozen off hoff;simp only [Bool.and_eq_false_iff, decide_eq_false_iff_not];omega
 refine ⟨by rw [run_store P w _ x _ (hv.one h1), hc]; simp [hf], ?_⟩;have hnew : (w.setCell ⟨k', off, none⟩ x).heap[k']? = some (.cells (arr.setIfInBounds off x) b.elem fz) := by
  simp [World.setCell, Array.getElem?_modify, hr]
 refine h.setRow (b' := b.set off v) hb hk hnew ⟨by rw [Array.size_setIfInBounds]; exact hR.size, fun i u hu => ?_, fun o' ho' => hR.frozen o' (by simpa using ho'), hR.plain, fun hs => by rw [Array.size_setIfInBounds]; exact hR.mark hs, fun kk h1 h2 => by
  have := hR.tail kk h1 h2;rw [Array.toList_setIfInBounds, List.drop_set, if_pos (by simpa [AB.set] using ho), Array.size_setIfInBounds];exact this⟩
  (fun j hj => Below.heap_setCell _ _ _ _ (by simpa using hj)) rfl rfl rfl (by simp [World.setCell])
 rw [AB.at_set] at hu;split at hu
 ·rename_i hc;cases hu;obtain ⟨rfl, _⟩ := hc;exact ⟨x, by simp [hoff], hv⟩
 ·rename_i hc;obtain ⟨y, hy, hvr⟩ := hR.cell i u hu;refine ⟨y, ?_, hvr⟩;have hi : i < b.size := by
   unfold AB.at at hu;split at hu
   ·rename_i hh; simpa [Nat.blt_eq] using hh
   ·cases hu
  rw [Array.getElem?_setIfInBounds_ne (by omega)];exact hy

def storeL (s : St) (id : Nat) : Nat → List AV → Option St
 | _, [] => some s
 | off, l => match s.row id with
  | some b => match Nat.ble (off + l.length) b.size && l.all AV.one with
   | true => some (s.setRow id { b with cells := b.cells.putL off l })
   | false => none
  | none => none

theorem Rel.congr {Ω : Om} {w0 : Base} {e : Env} {s s' : St} {w : World} (h : Rel Ω w0 e s w) (hn : s'.next = s.next) (hh : ∀ i, s'.heap.get i = s.heap.get i) : Rel Ω w0 e s' w :=
 ⟨h.opq, h.below, fun n hid => h.fresh n (by omega), fun i j o o' b hi hj => h.inj i j o o' b (by rw [← hh]; exact hi) (by rw [← hh]; exact hj), fun id b hb => h.obj id b (by rw [← hh]; exact hb), h.pool, fun i o k hi => h.apart i o k (by rw [← hh]; exact hi), h.grow, h.hold⟩

theorem storeL_run {P : Program} {Ω : Om} {w0 : Base} {e : Env} {id k : Nat} (hk : e.loc id = some k) : ∀ (l : List AV) (xs : List Value) (off j : Nat) (s : St) (b : AB) (w : World), Rel Ω w0 e s w → s.heap.get id = some (.cells b) → off + j + l.length ≤ b.size →
  l.all AV.one = true → VRs e l xs → ∃ w', (storeCells ⟨k, off, none⟩ xs j).run P w = .ok () w' ∧ Rel Ω w0 e (s.setRow id { b with cells := b.cells.putL (off + j) l }) w'
 | [], xs, off, j, s, b, w, h, hb, hs, h1, hv => by
  simp only [VRs] at hv;subst hv;refine ⟨w, by simp [storeCells], h.congr rfl fun i => ?_⟩;simp only [St.setRow, St.setO_eq, T.get_put, T.putL];split
  ·rename_i e1; subst e1; exact hb.symm
  ·rfl
 | v :: l, xs, off, j, s, b, w, h, hb, hs, h1, hv => by
  simp only [VRs] at hv;obtain ⟨x, r, rfl, hx, hr⟩ := hv;simp only [List.all_cons, bae] at h1;simp only [List.length_cons] at hs;obtain ⟨hrun, hrel⟩ := h.store (P := P) hb hk (off := off + j) (by omega) hx h1.1;obtain ⟨w', hrun', hrel'⟩ := storeL_run (P := P) hk l r off (j + 1) _ (b.set (off + j) v) _ hrel (by simp [St.setRow, St.setO_eq, T.get_put]) (by simp only [AB.set]; omega) h1.2 hr;refine ⟨w', by simp only [storeCells, Sem.run_bind, add_none, hrun, Result.andThen_ok, hrun'], hrel'.congr rfl fun i => ?_⟩;simp only [St.setRow, St.setO_eq, T.get_put, AB.set, T.putL];split <;> rfl

theorem storeL_ok {P : Program} {Ω : Om} {w0 : Base} {e : Env} {s s' : St} {w : World} {id off k : Nat} {l : List AV} {xs : List Value} (h : Rel Ω w0 e s w) (hk : e.loc id = some k) (hs : storeL s id off l = some s') (hv : VRs e l xs) :
  ∃ w', (storeCells ⟨k, off, none⟩ xs).run P w = .ok () w' ∧ Rel Ω w0 e s' w' := by
 unfold storeL at hs;split at hs
 ·simp only [sme] at hs;subst hs;simp only [VRs] at hv;subst hv;exact ⟨w, by simp [storeCells], h⟩
 ·split at hs
  ·rename_i b hb;split at hs
   ·rename_i hc;simp only [bae] at hc;simp only [sme] at hs;subst hs;exact storeL_run hk l xs off 0 s b w h (St.row_some hb) (by have := ble_le hc.1; omega) hc.2 hv
   ·cases hs
  ·cases hs

theorem Rel.later {Ω : Om} {w0 : Base} {e : Env} {s : St} {w w' : World} (h : Rel Ω w0 e s w) (hos : w'.os = w.os) (ht : w'.tape = w.tape) (ho : w'.output = w.output) (hs : w.heap.size ≤ w'.heap.size) (hb : ∀ j, j < w.heap.size → w'.heap[j]? = w.heap[j]?) : Rel Ω w0 e s w' :=
 ⟨h.opq, h.below.step hos ht ho hs fun k hk => hb k (by have := h.below.size; have := hk.1; omega), h.fresh, h.inj, fun id o hid => by
  obtain ⟨k, h1, h2⟩ := h.obj id o hid;exact ⟨k, h1, h2.mono (Env.le_refl e) h1 (hb k (h.loc_lt hid h1))⟩, fun k arr hk => by rw [hb k (h.pool_lt hk)]; exact h.pool k arr hk, h.apart, h.grow, h.hold⟩

theorem Rel.below_later {Ω : Om} {w0 : Base} {e : Env} {s : St} {w w' : World} (h : Rel Ω w0 e s w) (hb : Below w.heap.size w w') : Rel Ω w0 e s w' :=
 h.later hb.os hb.tape hb.output hb.size hb.block

end Go.Ev
