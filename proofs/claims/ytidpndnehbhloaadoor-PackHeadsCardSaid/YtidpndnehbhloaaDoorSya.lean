/- An evaluator of the model's code over abstract states, and its soundness: part 1: finite maps, abstract values, what they stand for. No condition. -/
import Derived.Calls
import Derived.Defers
import Derived.Recover
import Derived.LoopN
import Derived.OrdersHeld
import Derived.Below
import Derived.Laws.Append
import Derived.Laws.AppendOwn
import Derived.KernelRfl
import Derived.Test.YtidpndnehbhloaaDoorSy0
namespace Go.Ev
open Go.RowKit

inductive T (α : Type) where
 | nil
 | node (v : Option α) (l r : T α)

def T.get {α : Type} : T α → Nat → Option α
 | .nil, _ => none
 | .node v l r, i => match i with
  | 0 => v
  | j + 1 => match Nat.beq (j % 2) 0 with
   | true => l.get (j / 2)
   | false => r.get (j / 2)

def T.putF {α : Type} : Nat → T α → Nat → Option α → T α
 | 0, t, _, _ => t
 | n + 1, t, i, x => match t with
  | .nil => match i with
   | 0 => .node x .nil .nil
   | j + 1 => match Nat.beq (j % 2) 0 with
    | true => .node none (T.putF n .nil (j / 2) x) .nil
    | false => .node none .nil (T.putF n .nil (j / 2) x)
  | .node v l r => match i with
   | 0 => .node x l r
   | j + 1 => match Nat.beq (j % 2) 0 with
    | true => .node v (T.putF n l (j / 2) x) r
    | false => .node v l (T.putF n r (j / 2) x)

def T.put {α : Type} (t : T α) (i : Nat) (x : Option α) : T α := T.putF (i + 1) t i x

theorem beq_cases (j : Nat) : (Nat.beq (j % 2) 0 = true ∧ j = 2 * (j / 2)) ∨ (Nat.beq (j % 2) 0 = false ∧ j = 2 * (j / 2) + 1) := by
 by_cases h : j % 2 = 0
 ·left; exact ⟨by rw [h]; rfl, by omega⟩
 ·right;refine ⟨?_, by omega⟩;have : j % 2 = 1 := by omega
  rw [this]; rfl

theorem T.get_putF {α : Type} : ∀ (n : Nat) (t : T α) (i : Nat) (x : Option α) (k : Nat), i < n → (T.putF n t i x).get k = if k = i then x else t.get k := by
 intro n;induction n with
 | zero => intro t i x k h; omega
 | succ n ih =>
  intro t i x k h;cases t with
  | nil =>
   cases i with
   | zero =>
    cases k with
    | zero => simp [T.putF, T.get]
    | succ k =>
     simp only [T.putF, T.get];rcases beq_cases k with ⟨hk, _⟩ | ⟨hk, _⟩ <;> simp [hk]
   | succ j =>
    rcases beq_cases j with ⟨hj, ej⟩ | ⟨hj, ej⟩ <;> simp only [T.putF, hj] <;>
    ·cases k with
     | zero => simp [T.get]
     | succ k =>
      rcases beq_cases k with ⟨hk, ek⟩ | ⟨hk, ek⟩ <;> simp only [T.get, hk] <;>
       first
        | (rw [ih _ _ _ _ (by omega)]; by_cases e : k = j
           ·subst e; simp
           ·have : k / 2 ≠ j / 2 := by omega
            simp [e, this, T.get])
        | (have : k ≠ j := by omega
           simp [this])
  | node v l r =>
   cases i with
   | zero =>
    cases k with
    | zero => simp [T.putF, T.get]
    | succ k =>
     simp only [T.putF, T.get]
     simp
   | succ j =>
    rcases beq_cases j with ⟨hj, ej⟩ | ⟨hj, ej⟩ <;> simp only [T.putF, hj] <;>
    ·cases k with
     | zero => simp [T.get]
     | succ k =>
      rcases beq_cases k with ⟨hk, ek⟩ | ⟨hk, ek⟩ <;> simp only [T.get, hk] <;>
       first
        | (rw [ih _ _ _ _ (by omega)]; by_cases e : k = j
           ·subst e; simp
           ·have : k / 2 ≠ j / 2 := by omega
            simp [e, this])
        | (have : k ≠ j := by omega
           simp [this])

theorem T.get_put {α : Type} (t : T α) (i : Nat) (x : Option α) (k : Nat) : (t.put i x).get k = if k = i then x else t.get k :=
 T.get_putF _ _ _ _ _ (Nat.lt_succ_self i)

theorem T.get_nil {α : Type} (k : Nat) : (T.nil : T α).get k = none := rfl

def T.putL {α : Type} : T α → Nat → List α → T α
 | t, _, [] => t
 | t, i, x :: r => T.putL (t.put i (some x)) (i + 1) r

theorem T.get_putL {α : Type} : ∀ (l : List α) (t : T α) (i k : Nat), (t.putL i l).get k = if i ≤ k ∧ k < i + l.length then l[k - i]? else t.get k
 | [], t, i, k => by simp [T.putL]; omega
 | x :: r, t, i, k => by
  simp only [T.putL, T.get_putL r, T.get_put, List.length_cons];by_cases h : k = i
  ·subst h; simp; omega
  ·by_cases h2 : i + 1 ≤ k ∧ k < i + 1 + r.length
   ·have h3 : i ≤ k ∧ k < i + (r.length + 1) := by omega
    obtain ⟨m, rfl⟩ : ∃ m, k = i + 1 + m := ⟨k - (i + 1), by omega⟩
    rw [if_pos h2, if_pos h3];have e1 : i + 1 + m - (i + 1) = m := by omega
    have e2 : i + 1 + m - i = m + 1 := by omega
    rw [e1, e2]; rfl
   ·have h3 : ¬ (i ≤ k ∧ k < i + (r.length + 1)) := by omega
    simp [h2, h3, h]

inductive Sh where
 | int (k : IntKind)
 | bool
 | str
 | sl (s : Sh)
 | agg (l : List Sh)
mutual
def Sh.size : Sh → Nat
 | .int _ => 1
 | .bool => 1
 | .str => 1
 | .sl _ => 1
 | .agg l => Sh.sizes l
def Sh.sizes : List Sh → Nat
 | [] => 0
 | s :: l => s.size + Sh.sizes l
end
mutual
def Sh.beq : Sh → Sh → Bool
 | .int k, .int l => decide (k = l)
 | .bool, .bool => true
 | .str, .str => true
 | .sl s, .sl u => s.beq u
 | .agg l, .agg m => Sh.beqs l m
 | _, _ => false
def Sh.beqs : List Sh → List Sh → Bool
 | [], [] => true
 | s :: l, u :: m => s.beq u && Sh.beqs l m
 | _, _ => false
end
mutual
theorem Sh.beq_eq : ∀ {s u : Sh}, s.beq u = true → s = u
 | .int k, u, h => by
  cases u <;> simp only [Sh.beq, Bool.false_eq_true] at h
  rw [of_decide_eq_true h]
 | .bool, u, h => by cases u <;> simp only [Sh.beq, Bool.false_eq_true] at h; rfl
 | .str, u, h => by cases u <;> simp only [Sh.beq, Bool.false_eq_true] at h; rfl
 | .sl s, u, h => by
  cases u <;> simp only [Sh.beq, Bool.false_eq_true] at h
  rw [Sh.beq_eq h]
 | .agg l, u, h => by
  cases u <;> simp only [Sh.beq, Bool.false_eq_true] at h
  rw [Sh.beqs_eq h]
theorem Sh.beqs_eq : ∀ {l m : List Sh}, Sh.beqs l m = true → l = m
 | [], m, h => by cases m <;> simp only [Sh.beqs, Bool.false_eq_true] at h; rfl
 | s :: l, m, h => by
  cases m <;> simp only [Sh.beqs, Bool.false_eq_true, bae] at h
  rw [Sh.beq_eq h.1, Sh.beqs_eq h.2]
end

inductive AV where
 | bool (b : Bool)
 | int (k : IntKind) (n : Int)
 | float (k : FloatKind) (bits : Nat)
 | str (s : ByteArray)
 | nilptr
 | ptr (id off : Nat)
 | nilslice
 | slice (id off len cap : Nat) (opn : Bool)
 | hollow
 | empty
 | nilmap
 | mapv (id : Nat)
 | func (f : FuncId) (captured : List AV)
 | nilfunc
 | iface (t : TypeId) (v : AV)
 | niliface
 | agg (cs : List AV)
 | tuple (vs : List AV)
 | opq (i : Nat)
 | text (i : Nat)
 | any
 | byte (i : Nat)
 | lit (l : List AV)
 | nan (k : FloatKind)
 | sint (k : IntKind) (x : E)
 | sstr (n x : E)
 | sptr (id : Nat) (x : E)
 | sslice (id : Nat) (off len cap : E) (opn : Bool)
 | keep (i : Nat)
 | yieldf (id : Nat)
 | bound (f : FuncId) (first : List AV)
 | sflt (x : E)
 | sbits (x : E)
 | pv (s : Sh) (x : E)
 | pp (s : Sh) (x : E)
 | vslice (id z : Nat) (off len cap : E) (opn : Bool)
 | vptr (id z : Nat) (j : E) (f : Nat)
 | vfn (f : Fn)
 | pw (i : Nat) (s : Sh) (x : E)

def strOf (ns : List Int) : ByteArray := ns.foldl (fun r n => r.push (UInt8.ofNat n.toNat)) ByteArray.empty

structure Env where
 loc : Nat → Option Nat
 spare : Nat → Nat
 base : Nat → Nat
 opq : Om
 glob : ∀ g, loc (2 * g) = some g
 h : Nat → Option (Array Value)

def inK (k : IntKind) (n : Int) : Prop := k.min ≤ n ∧ n ≤ k.max

structure VB where
 elem : TypeId
 s : Sh
 n : E
 x : E
 opn : Bool

abbrev Pool := Nat → Option (Array Value)
mutual
def PC (h : Pool) : Sh → D → List Value → Prop
 | .int k, d, c => c = [.int k d.toInt] ∧ inK k d.toInt
 | .bool, d, c => c = [.bool (decide (d.toInt ≠ 0))]
 | .str, d, c => c = [.string (strOf d.ints)] ∧ ∀ x ∈ d.ints, inK .u8 x
 | .sl s, d, c => ∃ a, c = [a] ∧ ((d.toList = [] ∧ (a = .slice none 0 0 ∨ ∃ ad cp, a = .slice (some ad) 0 cp)) ∨
   ∃ b o cp arr, a = .slice (some ⟨b, o, none⟩) d.toList.length cp ∧ d.toList.length ≤ cp ∧ h b = some arr ∧ ∀ j x, d.toList[j]? = some x → PC h s x ((arr.toList.drop (o + j * s.size)).take s.size))
 | .agg l, d, c => PCs h l d.toList c
def PCs (h : Pool) : List Sh → List D → List Value → Prop
 | [], ds, c => ds = [] ∧ c = []
 | s :: l, ds, c => ∃ d r c1 c2, ds = d :: r ∧ c = c1 ++ c2 ∧ PC h s d c1 ∧ PCs h l r c2
end
def Pool.le (h h' : Pool) : Prop := ∀ k arr, h k = some arr → h' k = some arr
mutual
theorem PC.mono {h h' : Pool} (H : h.le h') : ∀ (s : Sh) (d : D) (c : List Value), PC h s d c → PC h' s d c
 | .int _, _, _, k => by simpa only [PC] using k
 | .bool, _, _, k => by simpa only [PC] using k
 | .str, _, _, k => by simpa only [PC] using k
 | .sl s, d, c, k => by
  simp only [PC] at k ⊢;obtain ⟨a, rfl, g | ⟨b, o, cp, arr, g1, g2, g3, g4⟩⟩ := k
  ·exact ⟨a, rfl, .inl g⟩
  ·exact ⟨a, rfl, .inr ⟨b, o, cp, arr, g1, g2, H _ _ g3, fun j x hj => PC.mono H s x _ (g4 j x hj)⟩⟩
 | .agg l, d, c, k => by
  simp only [PC] at k ⊢;exact PCs.mono H l _ _ k
theorem PCs.mono {h h' : Pool} (H : h.le h') : ∀ (l : List Sh) (ds : List D) (c : List Value), PCs h l ds c → PCs h' l ds c
 | [], _, _, k => by simpa only [PCs] using k
 | s :: l, ds, c, k => by
  simp only [PCs] at k ⊢;obtain ⟨d, r, c1, c2, rfl, rfl, k1, k2⟩ := k;exact ⟨d, r, c1, c2, rfl, rfl, PC.mono H s _ _ k1, PCs.mono H l _ _ k2⟩
end
mutual
theorem PC.length {h : Pool} : ∀ (s : Sh) (d : D) (c : List Value), PC h s d c → c.length = s.size
 | .int _, _, _, k => by simp only [PC] at k; rw [k.1]; rfl
 | .bool, _, _, k => by simp only [PC] at k; rw [k]; rfl
 | .str, _, _, k => by simp only [PC] at k; rw [k.1]; rfl
 | .sl s, d, c, k => by simp only [PC] at k; obtain ⟨a, rfl, _⟩ := k; rfl
 | .agg l, d, c, k => by simp only [PC] at k; simpa only [Sh.size] using PCs.length l _ _ k
theorem PCs.length {h : Pool} : ∀ (l : List Sh) (ds : List D) (c : List Value), PCs h l ds c → c.length = Sh.sizes l
 | [], _, _, k => by simp only [PCs] at k; rw [k.2]; rfl
 | s :: l, ds, c, k => by
  simp only [PCs] at k;obtain ⟨d, r, c1, c2, rfl, rfl, k1, k2⟩ := k;rw [List.length_append, PC.length s _ _ k1, PCs.length l _ _ k2]; rfl
end

mutual
def VR (e : Env) : AV → Value → Prop
 | .bool b, a => a = .bool b
 | .int k n, a => a = .int k n
 | .float k n, a => a = .float k n
 | .str s, a => a = .string s
 | .nilptr, a => a = .pointer none
 | .ptr i o, a => ∃ b, e.loc i = some b ∧ a = .pointer (some ⟨b, o, none⟩)
 | .nilslice, a => a = .slice none 0 0
 | .slice i o l c opn, a => ∃ b, e.loc i = some b ∧ a = .slice (some ⟨b, o, none⟩) l (c + if opn then e.spare i else 0)
 | .hollow, a => ∃ ad c, a = .slice (some ad) 0 c
 | .empty, a => a = .slice none 0 0 ∨ ∃ ad c, a = .slice (some ad) 0 c
 | .nilmap, a => a = .map none
 | .mapv i, a => ∃ b, e.loc i = some b ∧ a = .map (some b)
 | .func f cs, a => ∃ as, a = .func (.func f) #[] as ∧ VRs e cs as.toList
 | .bound f cs, a => ∃ as, a = .func (.func f) as #[] ∧ VRs e cs as.toList
 | .nilfunc, a => a = .nilFunc
 | .iface t v, a => ∃ x, a = .iface t x ∧ VR e v x
 | .niliface, a => a = .nilIface
 | .agg cs, a => ∃ as, a = .agg as ∧ VRs e cs as.toList
 | .tuple cs, a => ∃ as, a = .tuple as ∧ VRs e cs as.toList
 | .opq i, a => a = e.opq.v i ∧ a.oneCell' = true
 | .sint k x, a => a = .int k (x.i e.opq) ∧ inK k (x.i e.opq)
 | .sstr n x, a => a = .string (strOf (x.s e.opq)) ∧ n.i e.opq = (x.s e.opq).length ∧ ∀ c ∈ x.s e.opq, inK .u8 c
 | .sptr i x, a => ∃ b, e.loc i = some b ∧ a = .pointer (some ⟨b, e.base i + x.n e.opq, none⟩)
 | .sslice i o l c opn, a => ∃ b p, e.loc i = some b ∧ a = .slice (some ⟨b, p, none⟩) (l.n e.opq) (c.n e.opq + if opn then e.spare i else 0) ∧
   ((c.n e.opq + if opn then e.spare i else 0) ≠ 0 → p = e.base i + o.n e.opq) ∧ 0 ≤ l.i e.opq ∧ 0 ≤ o.i e.opq ∧ l.i e.opq ≤ c.i e.opq
 | .keep i, a => a = e.opq.v i
 | .yieldf i, a => ∃ b, e.loc i = some b ∧ a = .func (.yield b) #[] #[]
 | .sflt x, a => ∃ b, a = .float .f64 b ∧ x.i e.opq = nrmI b ∧ x.i e.opq < 18446744073709551616
 | .sbits x, a => a = .float .f64 (x.n e.opq) ∧ inK .u64 (x.i e.opq)
 | .pv s x, a => PC e.h (.sl s) (x.den e.opq) [a]
 | .pp s x, a => ∃ b o arr, a = .pointer (some ⟨b, o, none⟩) ∧ e.h b = some arr ∧ PC e.h s (x.den e.opq) ((arr.toList.drop o).take s.size)
 | .vslice i z o l c opn, a => ∃ b p, e.loc i = some b ∧ a = .slice (some ⟨b, p, none⟩) (l.n e.opq) (c.n e.opq + if opn then e.spare i else 0) ∧
   ((c.n e.opq + if opn then e.spare i else 0) ≠ 0 → p = o.n e.opq * z) ∧ 0 ≤ l.i e.opq ∧ 0 ≤ o.i e.opq ∧ l.i e.opq ≤ c.i e.opq
 | .vptr i z j f, a => ∃ b, e.loc i = some b ∧ a = .pointer (some ⟨b, j.n e.opq * z + f, none⟩)
 | .vfn f, a => a = .func f #[] #[]
 | .pw i s x, a => a = e.opq.v i ∧ PC e.h (.sl s) (x.den e.opq) [a]
 | .text i, a => ∃ t, a = .string t ∧ e.opq.v i = .string t
 | .nan k, a => ∃ b, a = .float k b ∧ (k.format.read b).isNaN = true
 | .any, a => a.oneCell' = true
 | .byte i, a => ∃ n, a = .int .u8 n ∧ e.opq.v i = .int .u8 n
 | .lit l, a => ∃ ns : List Int, a = .string (strOf ns) ∧ VRs e l (ns.map (Value.int .u8))
def VRs (e : Env) : List AV → List Value → Prop
 | [], l => l = []
 | c :: cs, l => ∃ x r, l = x :: r ∧ VR e c x ∧ VRs e cs r
end

structure Env.le (e e' : Env) : Prop where
 loc : ∀ i b, e.loc i = some b → e'.loc i = some b ∧ e'.spare i = e.spare i ∧ e'.base i = e.base i
 opq : e'.opq = e.opq
 h : Pool.le e.h e'.h

theorem Env.le_refl (e : Env) : e.le e := ⟨fun _ _ h => ⟨h, rfl, rfl⟩, rfl, fun _ _ h => h⟩
theorem Env.le_trans {a b c : Env} (h : a.le b) (k : b.le c) : a.le c :=
 ⟨fun i x hx => ⟨(k.loc i x (h.loc i x hx).1).1, (k.loc i x (h.loc i x hx).1).2.1.trans (h.loc i x hx).2.1, (k.loc i x (h.loc i x hx).1).2.2.trans (h.loc i x hx).2.2⟩, k.opq.trans h.opq, fun i x hx => k.h i x (h.h i x hx)⟩

mutual
theorem VR.mono {e e' : Env} (h : e.le e') : ∀ (v : AV) (a : Value), VR e v a → VR e' v a
 | .bool _, _, H | .int _ _, _, H | .float _ _, _, H | .str _, _, H | .nilptr, _, H | .nilslice, _, H | .hollow, _, H | .empty, _, H | .nilmap, _, H | .nilfunc, _, H | .niliface, _, H | .any, _, H | .nan _, _, H => by simpa [VR] using H
 | .vfn _, _, H => by simp only [VR] at H ⊢; exact H
 | .text i, _, H => by simp only [VR] at H ⊢; rw [h.opq]; exact H
 | .byte i, _, H => by simp only [VR] at H ⊢; rw [h.opq]; exact H
 | .lit l, _, H => by simp only [VR] at H ⊢; obtain ⟨ns, rfl, hs⟩ := H; exact ⟨ns, rfl, VRs.mono h l _ hs⟩
 | .ptr i o, _, H => by simp only [VR] at H ⊢; obtain ⟨b, hb, rfl⟩ := H; exact ⟨b, (h.loc _ _ hb).1, rfl⟩
 | .slice i o l c opn, _, H => by simp only [VR] at H ⊢; obtain ⟨b, hb, rfl⟩ := H; exact ⟨b, (h.loc _ _ hb).1, by rw [(h.loc _ _ hb).2.1]⟩
 | .mapv i, _, H => by simp only [VR] at H ⊢; obtain ⟨b, hb, rfl⟩ := H; exact ⟨b, (h.loc _ _ hb).1, rfl⟩
 | .func f cs, _, H => by simp only [VR] at H ⊢; obtain ⟨as, rfl, hs⟩ := H; exact ⟨as, rfl, VRs.mono h cs _ hs⟩
 | .bound f cs, _, H => by simp only [VR] at H ⊢; obtain ⟨as, rfl, hs⟩ := H; exact ⟨as, rfl, VRs.mono h cs _ hs⟩
 | .iface t v, _, H => by simp only [VR] at H ⊢; obtain ⟨x, rfl, hs⟩ := H; exact ⟨x, rfl, VR.mono h v _ hs⟩
 | .agg cs, _, H => by simp only [VR] at H ⊢; obtain ⟨as, rfl, hs⟩ := H; exact ⟨as, rfl, VRs.mono h cs _ hs⟩
 | .tuple cs, _, H => by simp only [VR] at H ⊢; obtain ⟨as, rfl, hs⟩ := H; exact ⟨as, rfl, VRs.mono h cs _ hs⟩
 | .opq i, _, H => by simp only [VR] at H ⊢; rw [h.opq]; exact H
 | .keep i, _, H => by simp only [VR] at H ⊢; rw [h.opq]; exact H
 | .yieldf i, _, H => by simp only [VR] at H ⊢; obtain ⟨b, hb, rfl⟩ := H; exact ⟨b, (h.loc _ _ hb).1, rfl⟩
 | .sint k x, _, H => by simp only [VR] at H ⊢; rw [h.opq]; exact H
 | .sflt x, _, H => by simp only [VR] at H ⊢; rw [h.opq]; exact H
 | .sbits x, _, H => by simp only [VR] at H ⊢; rw [h.opq]; exact H
 | .sstr _ x, _, H => by simp only [VR] at H ⊢; rw [h.opq]; exact H
 | .sptr i x, _, H => by simp only [VR] at H ⊢; obtain ⟨b, hb, rfl⟩ := H; exact ⟨b, (h.loc _ _ hb).1, by rw [(h.loc _ _ hb).2.2, h.opq]⟩
 | .sslice i o l c opn, _, H => by
  simp only [VR] at H ⊢;obtain ⟨b, p, hb, rfl, h2, h3⟩ := H;rw [(h.loc _ _ hb).2.1, (h.loc _ _ hb).2.2, h.opq];exact ⟨b, p, (h.loc _ _ hb).1, rfl, h2, h3⟩
 | .pv s x, _, H => by simp only [VR] at H ⊢; rw [h.opq]; exact PC.mono h.h _ _ _ H
 | .pw i s x, _, H => by simp only [VR] at H ⊢; rw [h.opq]; exact ⟨H.1, PC.mono h.h _ _ _ H.2⟩
 | .pp s x, _, H => by
  simp only [VR] at H ⊢;obtain ⟨b, o, arr, rfl, h1, h2⟩ := H;rw [h.opq];exact ⟨b, o, arr, rfl, h.h _ _ h1, PC.mono h.h _ _ _ h2⟩
 | .vslice i z o l c opn, _, H => by
  simp only [VR] at H ⊢;obtain ⟨b, p, hb, rfl, h2, h3⟩ := H;rw [(h.loc _ _ hb).2.1, h.opq];exact ⟨b, p, (h.loc _ _ hb).1, rfl, h2, h3⟩
 | .vptr i z j f, _, H => by
  simp only [VR] at H ⊢;obtain ⟨b, hb, rfl⟩ := H;rw [h.opq];exact ⟨b, (h.loc _ _ hb).1, rfl⟩
theorem VRs.mono {e e' : Env} (h : e.le e') : ∀ (v : List AV) (a : List Value), VRs e v a → VRs e' v a
 | [], _, H => by simpa [VRs] using H
 | c :: cs, _, H => by
  simp only [VRs] at H ⊢;obtain ⟨x, r, rfl, h1, h2⟩ := H;exact ⟨x, r, rfl, VR.mono h c _ h1, VRs.mono h cs _ h2⟩
end

theorem VRs_nil {e : Env} : VRs e [] [] := by simp [VRs]
theorem VRs_cons {e : Env} {c : AV} {cs : List AV} {x : Value} {r : List Value} (h : VR e c x) (k : VRs e cs r) : VRs e (c :: cs) (x :: r) := by
 simp only [VRs]; exact ⟨x, r, rfl, h, k⟩

theorem VRs.length {e : Env} : ∀ {l : List AV} {a : List Value}, VRs e l a → a.length = l.length
 | [], _, h => by simp only [VRs] at h; subst h; rfl
 | c :: cs, _, h => by
  simp only [VRs] at h;obtain ⟨x, r, rfl, _, h2⟩ := h;simp [h2.length]

theorem VRs.at {e : Env} : ∀ {l : List AV} {a : List Value}, VRs e l a → ∀ (i : Nat) (v : AV), l[i]? = some v → ∃ x : Value, a[i]? = some x ∧ VR e v x
 | [], _, _, i, v, hi => by simp at hi
 | c :: cs, _, h, i, v, hi => by
  simp only [VRs] at h;obtain ⟨x, r, rfl, h1, h2⟩ := h;cases i with
  | zero => simp at hi; subst hi; exact ⟨x, rfl, h1⟩
  | succ i => simp at hi; simpa using h2.at i v hi

theorem VRs_of_at {e : Env} : ∀ (l : List AV) (a : List Value), a.length = l.length → (∀ (i : Nat) (v : AV) (x : Value), l[i]? = some v → a[i]? = some x → VR e v x) → VRs e l a
 | [], a, h, _ => by simp only [VRs]; exact List.eq_nil_of_length_eq_zero (by simpa using h)
 | c :: cs, [], h, _ => by simp at h
 | c :: cs, x :: r, h, k => VRs_cons (k 0 c x rfl rfl) (VRs_of_at cs r (by simpa using h) fun i v y h1 h2 => k (i + 1) v y (by simpa using h1) (by simpa using h2))

theorem VRs.append {e : Env} : ∀ {l m : List AV} {a b : List Value}, VRs e l a → VRs e m b → VRs e (l ++ m) (a ++ b)
 | [], _, _, _, h, k => by simp only [VRs] at h; subst h; simpa using k
 | c :: cs, _, _, _, h, k => by
  simp only [VRs] at h;obtain ⟨x, r, rfl, h1, h2⟩ := h;exact VRs_cons h1 (h2.append k)

mutual
def Sh.ok : Sh → D → Prop
 | .int k, d => inK k d.toInt
 | .bool, _ => True
 | .str, d => ∀ x ∈ d.ints, inK .u8 x
 | .sl s, d => ∀ x ∈ d.toList, s.ok x
 | .agg l, d => Sh.oks l d.toList
def Sh.oks : List Sh → List D → Prop
 | [], ds => ds = []
 | s :: l, ds => ∃ d r, ds = d :: r ∧ s.ok d ∧ Sh.oks l r
end
mutual
theorem PC.ok {h : Pool} : ∀ (s : Sh) (d : D) (c : List Value), PC h s d c → s.ok d
 | .int _, _, _, k => by simp only [PC] at k; simpa only [Sh.ok] using k.2
 | .bool, _, _, _ => by simp only [Sh.ok]
 | .str, _, _, k => by simp only [PC] at k; simpa only [Sh.ok] using k.2
 | .sl s, d, c, k => by
  simp only [PC] at k;simp only [Sh.ok];intro x hx;obtain ⟨a, _, ⟨h0, _⟩ | ⟨b, o, cp, arr, _, _, _, g⟩⟩ := k
  ·rw [h0] at hx; cases hx
  ·obtain ⟨j, hj, rfl⟩ := List.getElem_of_mem hx;exact PC.ok s _ _ (g j _ (List.getElem?_eq_getElem hj))
 | .agg l, d, c, k => by
  simp only [PC] at k;simp only [Sh.ok];exact PCs.ok l _ _ k
theorem PCs.ok {h : Pool} : ∀ (l : List Sh) (ds : List D) (c : List Value), PCs h l ds c → Sh.oks l ds
 | [], _, _, k => by simp only [PCs] at k; simpa only [Sh.oks] using k.1
 | s :: l, ds, c, k => by
  simp only [PCs] at k;simp only [Sh.oks];obtain ⟨d, r, c1, c2, rfl, rfl, k1, k2⟩ := k;exact ⟨d, r, rfl, PC.ok s _ _ k1, PCs.ok l _ _ k2⟩
end

theorem PC.slice {h : Pool} {s : Sh} {d : D} {a : Value} (k : PC h (.sl s) d [a]) : a = .slice none 0 0 ∨ ∃ ad l c, a = .slice (some ad) l c := by
 simp only [PC, List.cons.injEq, and_true] at k;obtain ⟨_, rfl, ⟨_, rfl | ⟨ad, cp, rfl⟩⟩ | ⟨b, o, cp, arr, rfl, _⟩⟩ := k
 ·exact .inl rfl
 ·exact .inr ⟨_, _, _, rfl⟩
 ·exact .inr ⟨_, _, _, rfl⟩

def AV.one : AV → Bool
 | .agg _ | .tuple _ | .keep _ => false
 | _ => true
theorem VR.one {e : Env} {v : AV} {a : Value} (h : VR e v a) (k : v.one = true) : a.oneCell' = true := by
 cases v <;> simp only [AV.one, Bool.false_eq_true] at k <;> simp only [VR] at h
 all_goals first
  | (subst h; rfl)
  | (rcases PC.slice (by simp only [PC]; exact h) with rfl | ⟨_, _, _, rfl⟩ <;> rfl)
  | (rcases PC.slice (by simp only [PC]; exact h.2) with rfl | ⟨_, _, _, rfl⟩ <;> rfl)
  | (rcases (h : _ ∨ _) with rfl | ⟨_, _, rfl⟩ <;> rfl)
  | exact h.2
  | exact h
  | (obtain ⟨_, _, rfl⟩ := h; rfl)
  | (obtain ⟨_, _, _, rfl⟩ := h; rfl)
  | (obtain ⟨_, rfl, _⟩ := h; rfl)
  | (obtain ⟨rfl, _⟩ := h; rfl)
  | (obtain ⟨_, _, _, rfl, _⟩ := h; rfl)

def AV.cells : AV → List AV
 | .agg cs => cs
 | v => [v]
def AV.isOpq : AV → Bool
 | .keep _ => true
 | _ => false

theorem VR.cells {e : Env} {v : AV} {a : Value} (h : VR e v a) (hk : v.isOpq = false) : VRs e v.cells a.cells.toList := by
 cases v;case keep => cases hk
 case agg cs => simp only [VR] at h; obtain ⟨as, rfl, hs⟩ := h; exact hs
 case any =>
  have hx : a.cells = #[a] := by
   simp only [VR] at h;cases a <;> first | rfl | (simp [Value.oneCell'] at h)
  rw [hx];exact VRs_cons h VRs_nil
 case opq i =>
  have hx : a.cells = #[a] := by
   simp only [VR] at h;have := h.2;cases a <;> first | rfl | (simp [Value.oneCell'] at this)
  rw [hx];exact VRs_cons h VRs_nil
 all_goals
  have hx : a.cells = #[a] := by
   simp only [VR] at h
   first
    | (subst h; rfl)
    | (rcases PC.slice (by simp only [PC]; exact h.2) with rfl | ⟨_, _, _, rfl⟩ <;> rfl)
    | (rcases PC.slice (by simp only [PC]; exact h) with rfl | ⟨_, _, _, rfl⟩ <;> rfl)
    | (rcases (h : _ ∨ _) with rfl | ⟨_, _, rfl⟩ <;> rfl)
    | (obtain ⟨_, _, rfl⟩ := h; rfl)
    | (obtain ⟨_, _, _, rfl⟩ := h; rfl)
    | (obtain ⟨_, rfl, _⟩ := h; rfl)
    | (obtain ⟨rfl, _⟩ := h; rfl)
    | (obtain ⟨_, _, _, rfl, _⟩ := h; rfl)
  rw [hx];exact VRs_cons h VRs_nil

mutual
def toVal : AV → Option Value
 | .bool b => some (.bool b)
 | .int k n => some (.int k n)
 | .float k n => some (.float k n)
 | .str s => some (.string s)
 | .nilptr => some (.pointer none)
 | .nilslice => some (.slice none 0 0)
 | .nilmap => some (.map none)
 | .nilfunc => some .nilFunc
 | .niliface => some .nilIface
 | .vfn f => some (.func f #[] #[])
 | .iface t v => (toVal v).map (.iface t)
 | .agg cs => (toVals cs).map fun l => .agg l.toArray
 | .tuple cs => (toVals cs).map fun l => .tuple l.toArray
 | _ => none
def toVals : List AV → Option (List Value)
 | [] => some []
 | c :: cs => match toVal c, toVals cs with
  | some x, some r => some (x :: r)
  | _, _ => none
end

mutual
theorem VR.toVal {e : Env} : ∀ (v : AV) (a x : Value), VR e v a → toVal v = some x → a = x
 | .bool _, _, _, H, h | .int _ _, _, _, H, h | .float _ _, _, _, H, h | .str _, _, _, H, h | .nilptr, _, _, H, h | .nilslice, _, _, H, h | .nilmap, _, _, H, h | .nilfunc, _, _, H, h | .niliface, _, _, H, h | .vfn _, _, _, H, h => by
  simp only [VR] at H; simp only [Ev.toVal, sme] at h; rw [H, h]
 | .ptr _ _, _, _, _, h | .slice _ _ _ _ _, _, _, _, h | .hollow, _, _, _, h | .empty, _, _, _, h | .mapv _, _, _, _, h | .func _ _, _, _, _, h | .opq _, _, _, _, h | .text _, _, _, _, h | .any, _, _, _, h | .nan _, _, _, _, h | .byte _, _, _, _, h | .lit _, _, _, _, h | .sint _ _, _, _, _, h | .sstr _ _, _, _, _, h | .sptr _ _, _, _, _, h | .sslice _ _ _ _ _, _, _, _, h | .keep _, _, _, _, h | .bound _ _, _, _, _, h | .yieldf _, _, _, _, h | .sflt _, _, _, _, h | .sbits _, _, _, _, h | .pv _ _, _, _, _, h | .pw _ _ _, _, _, _, h | .pp _ _, _, _, _, h | .vslice _ _ _ _ _ _, _, _, _, h | .vptr _ _ _ _, _, _, _, h => by simp [Ev.toVal] at h
 | .iface t v, _, _, H, h => by
  simp only [VR] at H;obtain ⟨y, rfl, hy⟩ := H;simp only [Ev.toVal, Option.map_eq_some_iff] at h;obtain ⟨z, hz, rfl⟩ := h;rw [VR.toVal v y z hy hz]
 | .agg cs, _, _, H, h => by
  simp only [VR] at H;obtain ⟨as, rfl, hy⟩ := H;simp only [Ev.toVal, Option.map_eq_some_iff] at h;obtain ⟨z, hz, rfl⟩ := h;have := VRs.toVals cs _ z hy hz;rw [← this]
 | .tuple cs, _, _, H, h => by
  simp only [VR] at H;obtain ⟨as, rfl, hy⟩ := H;simp only [Ev.toVal, Option.map_eq_some_iff] at h;obtain ⟨z, hz, rfl⟩ := h;have := VRs.toVals cs _ z hy hz;rw [← this]
theorem VRs.toVals {e : Env} : ∀ (v : List AV) (a x : List Value), VRs e v a → toVals v = some x → a = x
 | [], _, _, H, h => by simp only [VRs] at H; simp only [Ev.toVals, sme] at h; rw [H, h]
 | c :: cs, _, x, H, h => by
  simp only [VRs] at H;obtain ⟨y, r, rfl, h1, h2⟩ := H;simp only [Ev.toVals] at h;split at h
  ·rename_i z s hz hs;simp only [sme] at h;rw [← h, VR.toVal c y z h1 hz, VRs.toVals cs r s h2 hs]
  ·cases h
end

def mapO {α β : Type} (f : α → Option β) : List α → Option (List β)
 | [] => some []
 | a :: r => match f a, mapO f r with
  | some x, some s => some (x :: s)
  | _, _ => none

def ofVal : Nat → Value → Option AV
 | 0, _ => none
 | n + 1, v => match v with
  | .bool b => some (.bool b)
  | .int k n => some (.int k n)
  | .float k n => some (.float k n)
  | .string s => some (.str s)
  | .pointer none => some .nilptr
  | .slice none 0 0 => some .nilslice
  | .map none => some .nilmap
  | .nilFunc => some .nilfunc
  | .nilIface => some .niliface
  | .iface t x => (ofVal n x).map (.iface t)
  | .agg cs => (mapO (ofVal n) cs.toList).map .agg
  | .tuple cs => (mapO (ofVal n) cs.toList).map .tuple
  | _ => none

theorem mapO_vrs {e : Env} {f : Value → Option AV} (h : ∀ v x, f v = some x → VR e x v) : ∀ (l : List Value) (m : List AV), mapO f l = some m → VRs e m l
 | [], m, k => by simp only [mapO, sme] at k; subst k; exact VRs_nil
 | a :: r, m, k => by
  simp only [mapO] at k;split at k
  ·rename_i x s hx hs;simp only [sme] at k;subst k;exact VRs_cons (h _ _ hx) (mapO_vrs h r s hs)
  ·cases k

theorem ofVal_vr {e : Env} : ∀ (n : Nat) (v : Value) (x : AV), ofVal n v = some x → VR e x v
 | 0, _, _, h => by simp [ofVal] at h
 | n + 1, v, x, h => by
  unfold ofVal at h;split at h;all_goals first
   | (simp only [sme] at h; subst h; simp only [VR]; done)
   | skip
  ·simp only [Option.map_eq_some_iff] at h;obtain ⟨y, hy, rfl⟩ := h;simp only [VR]; exact ⟨_, rfl, ofVal_vr n _ _ hy⟩
  ·simp only [Option.map_eq_some_iff] at h;obtain ⟨y, hy, rfl⟩ := h;simp only [VR]; exact ⟨_, rfl, mapO_vrs (ofVal_vr n) _ _ hy⟩
  ·simp only [Option.map_eq_some_iff] at h;obtain ⟨y, hy, rfl⟩ := h;simp only [VR]; exact ⟨_, rfl, mapO_vrs (ofVal_vr n) _ _ hy⟩
  ·cases h

def pureRun (P : Program) {α : Type} : Sem α → Option α
 | .pure a => some a
 | .program k => pureRun P (k P)
 | .mark _ k => pureRun P k
 | _ => none

theorem pureRun_run {P : Program} {α : Type} : ∀ (s : Sem α) (a : α), pureRun P s = some a → ∀ w, s.run P w = .ok a w
 | .pure b, a, h, w => by simp only [pureRun, sme] at h; subst h; rfl
 | .program k, a, h, w => by simp only [pureRun] at h; exact pureRun_run (k P) a h w
 | .mark _ k, a, h, w => by simp only [pureRun] at h; exact pureRun_run k a h w
 | .load .., _, h, _ | .store .., _, h, _ | .new .., _, h, _ | .shape .., _, h, _ | .freeze .., _, h, _ | .frozen .., _, h, _ | .getObj .., _, h, _ | .setObj .., _, h, _ | .choose .., _, h, _ | .sys .., _, h, _ | .halt .., _, h, _ => by simp [pureRun] at h

end Go.Ev
