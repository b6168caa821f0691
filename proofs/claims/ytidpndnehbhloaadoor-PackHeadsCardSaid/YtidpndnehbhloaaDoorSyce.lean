/- When two pieces of code are the same: told by program, for the operations that are met. No condition. -/
import Derived.Test.YtidpndnehbhloaaDoorSyn
namespace Go.Ev
open Go.RowKit

def eqBytes (a b : ByteArray) : Bool := decide (a.data.toList = b.data.toList)
theorem eqBytes_eq {a b : ByteArray} (h : eqBytes a b = true) : a = b := by
 have h := of_decide_eq_true h;cases a; cases b;simp only [Array.toList_inj] at h;rw [h]
def valSam : Value → Value → Bool
 | .bool a, .bool b => a == b
 | .int k n, .int l m => decide (k = l) && decide (n = m)
 | .float k n, .float l m => decide (k = l) && Nat.beq n m
 | .string s, .string t => eqBytes s t
 | .pointer none, .pointer none => true
 | .slice none a b, .slice none c d => Nat.beq a c && Nat.beq b d
 | .map none, .map none => true
 | .nilFunc, .nilFunc => true
 | .nilIface, .nilIface => true
 | _, _ => false
theorem valSam_eq {x y : Value} (h : valSam x y = true) : x = y := by
 unfold valSam at h;split at h <;> try simp only [bae, beq_iff_eq, decide_eq_true_eq, Bool.false_eq_true] at h
 ·rw [h]
 ·rw [h.1, h.2]
 ·rw [h.1, beq_t h.2]
 ·rw [eqBytes_eq h]
 ·rfl
 ·rw [beq_t h.1, beq_t h.2]
 ·rfl
 ·rfl
 ·rfl
def opdSam : Operand → Operand → Bool
 | .tmp a, .tmp b => Nat.beq a b
 | .const v, .const w => valSam v w
 | .global a, .global b => Nat.beq a b
 | .func a, .func b => Nat.beq a b
 | _, _ => false
theorem opdSam_eq {x y : Operand} (h : opdSam x y = true) : x = y := by
 unfold opdSam at h;split at h
 ·rw [beq_t h]
 ·rw [valSam_eq h]
 ·rw [beq_t h]
 ·rw [beq_t h]
 ·cases h
def samL {α : Type} (f : α → α → Bool) : List α → List α → Bool
 | [], [] => true
 | a :: l, b :: m => f a b && samL f l m
 | _, _ => false
theorem samL_eq {α : Type} {f : α → α → Bool} (hf : ∀ x y, f x y = true → x = y) : ∀ {l m : List α}, samL f l m = true → l = m
 | [], [], _ => rfl
 | [], _ :: _, h => by simp [samL] at h
 | _ :: _, [], h => by simp [samL] at h
 | a :: l, b :: m, h => by
  simp only [samL, bae] at h;rw [hf _ _ h.1, samL_eq hf h.2]

structure OpK where
 tag : Nat
 ns : List Nat
 os : List Operand
 bo : Option BinOp
 uo : Option UnOp
 bl : Option Builtin
 fn : Option Fn
def opkSam (a b : OpK) : Bool := Nat.beq a.tag b.tag && samL Nat.beq a.ns b.ns && samL opdSam a.os b.os && decide (a.bo = b.bo) && decide (a.uo = b.uo) && decide (a.bl = b.bl) && decide (a.fn = b.fn)
theorem opkSam_eq {a b : OpK} (h : opkSam a b = true) : a = b := by
 simp only [opkSam, bae, decide_eq_true_eq] at h;obtain ⟨⟨⟨⟨⟨⟨h1, h2⟩, h3⟩, h4⟩, h5⟩, h6⟩, h7⟩ := h;cases a; cases b;simp only at *;rw [beq_t h1, samL_eq (fun _ _ => beq_t) h2, samL_eq (fun _ _ => opdSam_eq) h3, h4, h5, h6, h7]
def k0 (tag : Nat) (ns : List Nat) (os : List Operand) : Option OpK := some ⟨tag, ns, os, none, none, none, none⟩
def optN : Option Operand → Nat
 | none => 0
 | some _ => 1
def opEnc : Op → Option OpK
 | .move x => k0 1 [] [x]
 | .assign x => k0 2 [] [x]
 | .pick c a b => k0 3 [] [c, a, b]
 | .alloc t => k0 4 [t] []
 | .box t v => k0 5 [t] [v]
 | .build t ps => k0 6 (t :: ps.toList.map (·.1)) (ps.toList.map (·.2))
 | .buildSlice t n ps => k0 7 (t :: n :: ps.toList.map (·.1)) (ps.toList.map (·.2))
 | .load t a => k0 8 [t] [a]
 | .store t a v => k0 9 [t] [a, v]
 | .ready g => k0 10 [g] []
 | .waits g => k0 11 [g] []
 | .nilCheck x => k0 12 [] [x]
 | .binOp op t x y u => some ⟨13, [t, u], [x, y], some op, none, none, none⟩
 | .unOp op t x => some ⟨14, [t], [x], none, some op, none, none⟩
 | .convert s d x => k0 15 [s, d] [x]
 | .makeInterface t x => k0 16 [t] [x]
 | .makeFunc f a b => some ⟨17, [a.size], a.toList ++ b.toList, none, none, none, some f⟩
 | .makeSlice t a b => k0 18 [t] [a, b]
 | .slice t x l h m => k0 19 [t, optN l, optN h, optN m] (x :: (l.toList ++ h.toList ++ m.toList))
 | .fieldAddr t x f => k0 20 [t, f] [x]
 | .field t x f => k0 21 [t, f] [x]
 | .indexAddr t x i => k0 22 [t] [x, i]
 | .index t x i => k0 23 [t] [x, i]
 | .lookup t x i b => k0 24 [t, b.toNat] [x, i]
 | .mapUpdate t m k v => k0 25 [t] [m, k, v]
 | .extract x i => k0 26 [i] [x]
 | .call c => match c.callee with
  | .value f => k0 27 c.argTypes.toList (f :: c.args.toList)
  | .builtin b => some ⟨28, c.argTypes.toList, c.args.toList, none, none, some b, none⟩
  | .invoke _ _ => none
 | .panic x => k0 29 [] [x]
 | .range t x => k0 30 [t] [x]
 | .next i b => k0 31 [b.toNat] [i]
 | .entry i => k0 32 [] [i]
 | .sliceToArrayPointer t x => k0 33 [t] [x]
 | _ => none
def takeO : Nat → List Operand → Option Operand × List Operand
 | 0, l => (none, l)
 | _, [] => (none, [])
 | _, x :: l => (some x, l)
def zipA (ns : List Nat) (os : List Operand) : Array (Nat × Operand) := (ns.zip os).toArray
def opDec (k : OpK) : Option Op := match k.tag, k.ns, k.os, k.bo, k.uo, k.bl, k.fn with
 | 1, _, [x], _, _, _, _ => some (.move x)
 | 2, _, [x], _, _, _, _ => some (.assign x)
 | 3, _, [c, a, b], _, _, _, _ => some (.pick c a b)
 | 4, [t], _, _, _, _, _ => some (.alloc t)
 | 5, [t], [v], _, _, _, _ => some (.box t v)
 | 6, t :: ns, os, _, _, _, _ => some (.build t (zipA ns os))
 | 7, t :: n :: ns, os, _, _, _, _ => some (.buildSlice t n (zipA ns os))
 | 8, [t], [a], _, _, _, _ => some (.load t a)
 | 9, [t], [a, v], _, _, _, _ => some (.store t a v)
 | 10, [g], _, _, _, _, _ => some (.ready g)
 | 11, [g], _, _, _, _, _ => some (.waits g)
 | 12, _, [x], _, _, _, _ => some (.nilCheck x)
 | 13, [t, u], [x, y], some op, _, _, _ => some (.binOp op t x y u)
 | 14, [t], [x], _, some op, _, _ => some (.unOp op t x)
 | 15, [s, d], [x], _, _, _, _ => some (.convert s d x)
 | 16, [t], [x], _, _, _, _ => some (.makeInterface t x)
 | 17, [n], os, _, _, _, some f => some (.makeFunc f (os.take n).toArray (os.drop n).toArray)
 | 18, [t], [a, b], _, _, _, _ => some (.makeSlice t a b)
 | 19, [t, a, b, c], x :: r, _, _, _, _ => some (.slice t x (takeO a r).1 (takeO b (takeO a r).2).1 (takeO c (takeO b (takeO a r).2).2).1)
 | 20, [t, f], [x], _, _, _, _ => some (.fieldAddr t x f)
 | 21, [t, f], [x], _, _, _, _ => some (.field t x f)
 | 22, [t], [x, i], _, _, _, _ => some (.indexAddr t x i)
 | 23, [t], [x, i], _, _, _, _ => some (.index t x i)
 | 24, [t, b], [x, i], _, _, _, _ => some (.lookup t x i (Nat.beq b 1))
 | 25, [t], [m, a, v], _, _, _, _ => some (.mapUpdate t m a v)
 | 26, [i], [x], _, _, _, _ => some (.extract x i)
 | 27, ts, f :: as, _, _, _, _ => some (.call ⟨.value f, as.toArray, ts.toArray⟩)
 | 28, ts, as, _, _, some b, _ => some (.call ⟨.builtin b, as.toArray, ts.toArray⟩)
 | 29, _, [x], _, _, _, _ => some (.panic x)
 | 30, [t], [x], _, _, _, _ => some (.range t x)
 | 31, [b], [i], _, _, _, _ => some (.next i (Nat.beq b 1))
 | 32, _, [i], _, _, _, _ => some (.entry i)
 | 33, [t], [x], _, _, _, _ => some (.sliceToArrayPointer t x)
 | _, _, _, _, _, _, _ => none
theorem zipA_eq (ps : Array (Nat × Operand)) : zipA (ps.toList.map (·.1)) (ps.toList.map (·.2)) = ps := by
 have : ∀ l : List (Nat × Operand), (l.map (·.1)).zip (l.map (·.2)) = l := by
  intro l;induction l with
  | nil => rfl
  | cons p l ih => simp only [List.map_cons, List.zip_cons_cons, ih]
 unfold zipA;rw [this]
theorem takeO_eq (a : Option Operand) (r : List Operand) : takeO (optN a) (a.toList ++ r) = (a, r) := by
 cases a with
 | none => cases r <;> rfl
 | some x => rfl
theorem opDec_enc {o : Op} {k : OpK} (h : opEnc o = some k) : opDec k = some o := by
 cases o;case build t ps => simp only [opEnc, k0, sme] at h; subst h; show some (Op.build t (zipA (ps.toList.map (·.1)) (ps.toList.map (·.2)))) = _; rw [zipA_eq]
 case buildSlice t n ps => simp only [opEnc, k0, sme] at h; subst h; show some (Op.buildSlice t n (zipA (ps.toList.map (·.1)) (ps.toList.map (·.2)))) = _; rw [zipA_eq]
 case makeFunc f a b =>
  simp only [opEnc, sme] at h;subst h;show some (Op.makeFunc f ((a.toList ++ b.toList).take a.size).toArray ((a.toList ++ b.toList).drop a.size).toArray) = _;rw [show a.size = a.toList.length from rfl, List.take_left, List.drop_left]
 case slice t x l h' m =>
  simp only [opEnc, k0, sme] at h;subst h;have e1 := takeO_eq l (h'.toList ++ m.toList);have e2 := takeO_eq h' m.toList;have e3 := takeO_eq m [];rw [List.append_nil] at e3;show some (Op.slice t x (takeO (optN l) (l.toList ++ h'.toList ++ m.toList)).1 (takeO (optN h') (takeO (optN l) (l.toList ++ h'.toList ++ m.toList)).2).1 (takeO (optN m) (takeO (optN h') (takeO (optN l) (l.toList ++ h'.toList ++ m.toList)).2).2).1) = _;rw [List.append_assoc, e1, e2, e3]
 case lookup t x i b => simp only [opEnc, k0, sme] at h; subst h; cases b <;> rfl
 case next i b => simp only [opEnc, k0, sme] at h; subst h; cases b <;> rfl
 case call c =>
  obtain ⟨ce, as, ts⟩ := c;cases ce;case value f => simp only [opEnc, k0, sme] at h; subst h; rfl
  case builtin b => simp only [opEnc, sme] at h; subst h; rfl
  case invoke r n => simp [opEnc] at h
 all_goals first
  | (simp only [opEnc, reduceCtorEq] at h; done)
  | (simp only [opEnc, k0, sme] at h; subst h; rfl)
def opSam (a b : Op) : Bool := match opEnc a, opEnc b with
 | some k, some l => opkSam k l
 | _, _ => false
theorem opSam_eq {a b : Op} (h : opSam a b = true) : a = b := by
 unfold opSam at h;split at h
 ·rename_i k l h1 h2;have := opkSam_eq h;subst this;exact Option.some.inj ((opDec_enc h1).symm.trans (opDec_enc h2))
 ·cases h

def edgeSam (a b : Edge) : Bool := Nat.beq a.on b.on && decide (a.ground = b.ground)
theorem edgeSam_eq {a b : Edge} (h : edgeSam a b = true) : a = b := by
 simp only [edgeSam, bae, decide_eq_true_eq] at h;cases a; cases b;simp only at h;rw [beq_t h.1, h.2]
def operSam (a b : Oper) : Bool := decide (a.dst = b.dst) && opSam a.op b.op && Nat.beq a.type b.type && decide (a.pos = b.pos) && samL edgeSam a.after.toList b.after.toList && decide (a.guard = b.guard)
theorem operSam_eq {a b : Oper} (h : operSam a b = true) : a = b := by
 simp only [operSam, bae, decide_eq_true_eq] at h;obtain ⟨⟨⟨⟨⟨h1, h2⟩, h3⟩, h4⟩, h5⟩, h6⟩ := h;have h5 := samL_eq (fun _ _ => edgeSam_eq) h5;cases a; cases b;simp only [Array.toList_inj] at *;rw [h1, opSam_eq h2, beq_t h3, h4, h5, h6]
def codeSam : Code → Code → Bool
 | .skip, .skip => true
 | .region i o d, .region j p e => Nat.beq i j && samL operSam o.toList p.toList && (d == e)
 | .seq a b, .seq c d => codeSam a c && codeSam b d
 | .cond x a b, .cond y c d => opdSam x y && codeSam a c && codeSam b d
 | .block i a, .block j b => Nat.beq i j && codeSam a b
 | .loop a, .loop b => codeSam a b
 | .rangeFunc f ps a b, .rangeFunc g qs c d => opdSam f g && decide (ps = qs) && codeSam a c && codeSam b d
 | .exit i, .exit j => Nat.beq i j
 | .scope a, .scope b => codeSam a b
 | .label i, .label j => Nat.beq i j
 | .goto i, .goto j => Nat.beq i j
 | .ret, .ret => true
 | _, _ => false
theorem codeSam_eq : ∀ {a b : Code}, codeSam a b = true → a = b
 | .skip, b, h => by cases b <;> simp only [codeSam, Bool.false_eq_true] at h; rfl
 | .region i o d, b, h => by
  cases b <;> simp only [codeSam, Bool.false_eq_true, bae, beq_iff_eq] at h
  have := samL_eq (fun _ _ => operSam_eq) h.1.2;rw [beq_t h.1.1, Array.toList_inj.1 this, h.2]
 | .seq a b, c, h => by
  cases c <;> simp only [codeSam, Bool.false_eq_true, bae] at h
  rw [codeSam_eq h.1, codeSam_eq h.2]
 | .cond x a b, c, h => by
  cases c <;> simp only [codeSam, Bool.false_eq_true, bae] at h
  rw [opdSam_eq h.1.1, codeSam_eq h.1.2, codeSam_eq h.2]
 | .block i a, c, h => by
  cases c <;> simp only [codeSam, Bool.false_eq_true, bae] at h
  rw [beq_t h.1, codeSam_eq h.2]
 | .loop a, c, h => by
  cases c <;> simp only [codeSam, Bool.false_eq_true] at h
  rw [codeSam_eq h]
 | .rangeFunc f ps a b, c, h => by
  cases c <;> simp only [codeSam, Bool.false_eq_true, bae, decide_eq_true_eq] at h
  rw [opdSam_eq h.1.1.1, h.1.1.2, codeSam_eq h.1.2, codeSam_eq h.2]
 | .exit i, c, h => by
  cases c <;> simp only [codeSam, Bool.false_eq_true] at h
  rw [beq_t h]
 | .scope a, c, h => by
  cases c <;> simp only [codeSam, Bool.false_eq_true] at h
  rw [codeSam_eq h]
 | .label i, c, h => by
  cases c <;> simp only [codeSam, Bool.false_eq_true] at h
  rw [beq_t h]
 | .goto i, c, h => by
  cases c <;> simp only [codeSam, Bool.false_eq_true] at h
  rw [beq_t h]
 | .ret, c, h => by cases c <;> simp only [codeSam, Bool.false_eq_true] at h; rfl
 | .refuse _, c, h => by cases c <;> simp [codeSam] at h

end Go.Ev
