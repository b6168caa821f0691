/- Terms for values that are not known: what they stand for, when two are the same, what is put in for their variables; questions about them. No condition. -/
import Derived.Calls
import Derived.IntWalk
import Derived.KernelRfl
import Ieee.Arith
namespace Go.Ev
theorem sme.{u} {α : Type u} (a b : α) : (some a = some b) = (a = b) := Option.some.injEq a b
theorem pme.{u, v} {α : Type u} {β : Type v} (a : α) (b : β) (c : α) (d : β) : ((a, b) = (c, d)) = (a = c ∧ b = d) := Prod.mk.injEq a b c d
theorem bae (a b : Bool) : ((a && b) = true) = (a = true ∧ b = true) := Bool.and_eq_true a b

inductive D where
 | int (n : Int)
 | list (l : List D)

def D.toInt : D → Int
 | .int n => n
 | .list _ => 0
def D.toList : D → List D
 | .list l => l
 | .int _ => []
def D.ints (d : D) : List Int := d.toList.map D.toInt
def D.ofInts (l : List Int) : D := .list (l.map .int)
def D.nat (d : D) : Nat := d.toInt.toNat

mutual
def D.code : D → List Int
 | .int n => [0, n]
 | .list l => 1 :: (l.length : Int) :: D.codes l
def D.codes : List D → List Int
 | [] => []
 | x :: l => x.code ++ D.codes l
end
mutual
theorem D.code_inj : ∀ (x y : D) (r s : List Int), x.code ++ r = y.code ++ s → x = y ∧ r = s
 | .int n, .int m, r, s, h => by
  simp only [D.code, List.cons_append, List.nil_append, List.cons.injEq] at h;exact ⟨by rw [h.2.1], h.2.2⟩
 | .int n, .list l, r, s, h => by simp [D.code] at h
 | .list l, .int m, r, s, h => by simp [D.code] at h
 | .list l, .list m, r, s, h => by
  simp only [D.code, List.cons_append, List.cons.injEq, true_and] at h;obtain ⟨h1, h2⟩ := D.codes_inj l m r s (by omega) h.2;exact ⟨by rw [h1], h2⟩
theorem D.codes_inj : ∀ (l m : List D) (r s : List Int), l.length = m.length → D.codes l ++ r = D.codes m ++ s → l = m ∧ r = s
 | [], [], r, s, _, h => ⟨rfl, by simpa [D.codes] using h⟩
 | [], _ :: _, _, _, hl, _ => by simp at hl
 | _ :: _, [], _, _, hl, _ => by simp at hl
 | x :: l, y :: m, r, s, hl, h => by
  simp only [D.codes, List.append_assoc] at h;obtain ⟨h1, h2⟩ := D.code_inj x y _ _ h;obtain ⟨h3, h4⟩ := D.codes_inj l m r s (by simpa using hl) h2;exact ⟨by rw [h1, h3], h4⟩
end
theorem D.code_eq {x y : D} (h : x.code = y.code) : x = y := (D.code_inj x y [] [] (by rw [h])).1

@[simp] theorem D.toInt_int (n : Int) : (D.int n).toInt = n := rfl
@[simp] theorem D.toList_list (l : List D) : (D.list l).toList = l := rfl
@[simp] theorem D.ints_ofInts (l : List Int) : (D.ofInts l).ints = l := by
 simp [D.ints, D.ofInts, Function.comp_def]

structure Om where
 v : Nat → Value
 d : Nat → D
 f : Nat → D → D

inductive UO where
 | len
 | one
 | wrap (k : IntKind)
 | nrm | fof | fceil | fint | fok | code
 deriving DecidableEq
inductive BO where
 | add | sub | mul
 | iop (op : BinOp) (k : IntKind)
 | sel | app | rep | pair | snoc
 | fop (op : BinOp)
 | fcm
 | fpick (neg : Bool)
 deriving DecidableEq

def nrmI (b : Nat) : Int := match Ieee.double.read b with
 | .nan _ _ => -1
 | _ => b
def fbinN (op : BinOp) (x y : Nat) : Option Nat := match op with
 | .add => Ieee.double.add x y
 | .sub => Ieee.double.sub x y
 | .mul => Ieee.double.mul x y
 | .quo => Ieee.double.div x y
 | _ => none
def fopI (op : BinOp) (x y : Int) : Int := match decide (0 ≤ x), decide (0 ≤ y) with
 | true, true => match fbinN op x.toNat y.toNat with
  | some z => nrmI z
  | none => -1
 | _, _ => -1
def fcmI (x y : Int) : Int := match decide (0 ≤ x), decide (0 ≤ y) with
 | true, true => match Ieee.double.order x.toNat y.toNat with
  | some .lt => -1
  | some .eq => 0
  | some .gt => 1
  | none => 2
 | _, _ => 2
def pickN (neg : Bool) (x y : Nat) : Nat :=
 let a := Ieee.double.read x
 let b := Ieee.double.read y
 if a == .infinity neg || b == .infinity neg then Ieee.double.write (.infinity neg)
 else if a.isNaN || b.isNaN then 0x7FF8000000000001
 else if a.isZero && b.isZero then (if a.neg == neg then x else y)
 else if a.order b == some (if neg then .lt else .gt) then x else y
def pickI (neg : Bool) (x y : Int) : Int := match decide (0 ≤ x), decide (0 ≤ y) with
 | true, true => nrmI (pickN neg x.toNat y.toNat)
 | _, _ => -1
def fofI (n : Int) : Int := nrmI (Ieee.double.write (.number (n < 0) n.natAbs 0))
def fceilI (x : Int) : Int := match decide (0 ≤ x) with
 | true => nrmI (Ieee.double.write ((Ieee.double.read x.toNat).integral .up))
 | false => -1
def fintO (x : Int) : Option Int := match decide (0 ≤ x) with
 | true => (Ieee.double.read x.toNat).toInt .zero
 | false => none
inductive TO where
 | cut | upd | splice | seg
 deriving DecidableEq

inductive E where
 | var (i : Nat)
 | int (n : Int)
 | lits (l : List Int)
 | fn (f : Nat) (x : E)
 | un (o : UO) (x : E)
 | bi (o : BO) (x y : E)
 | tr (o : TO) (x y z : E)

def iopI (op : BinOp) (k : IntKind) (x y : Int) : Int :=
 match op with
 | .add => k.wrap (x + y)
 | .sub => k.wrap (x - y)
 | .mul => k.wrap (x * y)
 | .quo => k.wrap (x.tdiv y)
 | .rem => x.tmod y
 | .and => k.wrap ((BitVec.ofInt k.bits x) &&& (BitVec.ofInt k.bits y)).toNat
 | .or => k.wrap ((BitVec.ofInt k.bits x) ||| (BitVec.ofInt k.bits y)).toNat
 | .xor => k.wrap ((BitVec.ofInt k.bits x) ^^^ (BitVec.ofInt k.bits y)).toNat
 | .andNot => k.wrap ((BitVec.ofInt k.bits x) &&& ~~~(BitVec.ofInt k.bits y)).toNat
 | .shl => k.wrap (x * 2 ^ (min y.toNat k.bits))
 | .shr => x.fdiv (2 ^ (min y.toNat k.bits))
 | _ => 0

def UO.den : UO → D → D
 | .len, x => .int x.toList.length
 | .one, x => .list [x]
 | .wrap k, x => .int (k.wrap x.toInt)
 | .nrm, x => .int (nrmI x.nat)
 | .fof, x => .int (fofI x.toInt)
 | .fceil, x => .int (fceilI x.toInt)
 | .fint, x => .int ((fintO x.toInt).getD 0)
 | .fok, x => .int (match fintO x.toInt with | some _ => 1 | none => 0)
 | .code, x => .ofInts x.code
def BO.den : BO → D → D → D
 | .add, x, y => .int (x.toInt + y.toInt)
 | .sub, x, y => .int (x.toInt - y.toInt)
 | .mul, x, y => .int (x.toInt * y.toInt)
 | .iop op k, x, y => .int (iopI op k x.toInt y.toInt)
 | .sel, x, y => (x.toList[y.nat]?).getD (.int 0)
 | .app, x, y => .list (x.toList ++ y.toList)
 | .rep, x, y => .list (List.replicate x.nat y)
 | .pair, x, y => .list [x, y]
 | .snoc, x, y => .list (x.toList ++ [y])
 | .fop op, x, y => .int (fopI op x.toInt y.toInt)
 | .fcm, x, y => .int (fcmI x.toInt y.toInt)
 | .fpick b, x, y => .int (pickI b x.toInt y.toInt)
def TO.den : TO → D → D → D → D
 | .cut, x, y, z => .list ((x.toList.take z.nat).drop y.nat)
 | .upd, x, y, z => .list (x.toList.set y.nat z)
 | .splice, x, y, z => .list (x.toList.take y.nat ++ z.toList ++ x.toList.drop (y.nat + z.toList.length))
 | .seg, x, y, z => .list ((List.range z.nat).map fun j => (x.toList[y.nat + j]?).getD (.int 0))

def E.den (Ω : Om) : E → D
 | .var i => Ω.d i
 | .int n => .int n
 | .lits l => .ofInts l
 | .fn f x => Ω.f f (x.den Ω)
 | .un o x => o.den (x.den Ω)
 | .bi o x y => o.den (x.den Ω) (y.den Ω)
 | .tr o x y z => o.den (x.den Ω) (y.den Ω) (z.den Ω)

def E.i (Ω : Om) (x : E) : Int := (x.den Ω).toInt
def E.n (Ω : Om) (x : E) : Nat := (x.den Ω).nat
def E.s (Ω : Om) (x : E) : List Int := (x.den Ω).ints

def eqInts : List Int → List Int → Bool
 | [], [] => true
 | a :: l, b :: m => decide (a = b) && eqInts l m
 | _, _ => false
theorem eqInts_iff : ∀ (l m : List Int), eqInts l m = decide (l = m)
 | [], [] => rfl
 | [], _ :: _ => rfl
 | _ :: _, [] => rfl
 | a :: l, b :: m => by
  simp only [eqInts, eqInts_iff l m, List.cons.injEq];by_cases h1 : a = b <;> by_cases h2 : l = m <;> simp [h1, h2]
theorem eqInts_eq : ∀ {l m : List Int}, eqInts l m = true → l = m
 | [], [], _ => rfl
 | [], _ :: _, h => by simp [eqInts] at h
 | _ :: _, [], h => by simp [eqInts] at h
 | a :: l, b :: m, h => by
  simp only [eqInts, bae, decide_eq_true_eq] at h;rw [h.1, eqInts_eq h.2]

def E.beq : E → E → Bool
 | .var i, .var j => Nat.beq i j
 | .int n, .int m => decide (n = m)
 | .lits l, .lits m => eqInts l m
 | .fn f x, .fn g y => Nat.beq f g && x.beq y
 | .un o x, .un p y => decide (o = p) && x.beq y
 | .bi o x y, .bi p u v => decide (o = p) && x.beq u && y.beq v
 | .tr o x y z, .tr p u v w => decide (o = p) && x.beq u && y.beq v && z.beq w
 | _, _ => false

theorem E.beq_eq : ∀ {x y : E}, x.beq y = true → x = y
 | .var i, y, h => by
  cases y <;> simp only [E.beq, Bool.false_eq_true] at h
  rw [Nat.eq_of_beq_eq_true h]
 | .int n, y, h => by
  cases y <;> simp only [E.beq, Bool.false_eq_true] at h
  rw [of_decide_eq_true h]
 | .lits n, y, h => by
  cases y <;> simp only [E.beq, Bool.false_eq_true] at h
  rw [eqInts_eq h]
 | .fn f x, y, h => by
  cases y <;> simp only [E.beq, Bool.false_eq_true, bae] at h
  rw [Nat.eq_of_beq_eq_true h.1, E.beq_eq h.2]
 | .un o x, y, h => by
  cases y <;> simp only [E.beq, Bool.false_eq_true, bae] at h
  rw [of_decide_eq_true h.1, E.beq_eq h.2]
 | .bi o x z, y, h => by
  cases y <;> simp only [E.beq, Bool.false_eq_true, bae] at h
  rw [of_decide_eq_true h.1.1, E.beq_eq h.1.2, E.beq_eq h.2]
 | .tr o x z u, y, h => by
  cases y <;> simp only [E.beq, Bool.false_eq_true, bae] at h
  rw [of_decide_eq_true h.1.1.1, E.beq_eq h.1.1.2, E.beq_eq h.1.2, E.beq_eq h.2]

def E.add : E → E → E
 | .int m, .int n => .int (m + n)
 | .bi .add x (.int m), .int n => match decide (m + n = 0) with
  | true => x
  | false => .bi .add x (.int (m + n))
 | x, .int n => match decide (n = 0) with
  | true => x
  | false => .bi .add x (.int n)
 | .int n, .bi .add x (.int m) => match decide (m + n = 0) with
  | true => x
  | false => .bi .add x (.int (m + n))
 | .int n, x => match decide (n = 0) with
  | true => x
  | false => .bi .add x (.int n)
 | x, y => .bi .add x y

theorem E.add_i (Ω : Om) (x y : E) : (x.add y).i Ω = x.i Ω + y.i Ω := by
 unfold E.add;split
 ·rfl
 ·rename_i x m n;split
  ·rename_i h; have := of_decide_eq_true h; simp only [E.i, E.den, BO.den, D.toInt_int]; omega
  ·simp only [E.i, E.den, BO.den, D.toInt_int]; omega
 ·rename_i n _ _;split
  ·rename_i h; have := of_decide_eq_true h; simp only [E.i, E.den, D.toInt_int]; omega
  ·simp only [E.i, E.den, BO.den, D.toInt_int]
 ·rename_i n x m;split
  ·rename_i h; have := of_decide_eq_true h; simp only [E.i, E.den, BO.den, D.toInt_int]; omega
  ·simp only [E.i, E.den, BO.den, D.toInt_int]; omega
 ·rename_i n _ _;split
  ·rename_i h; have := of_decide_eq_true h; simp only [E.i, E.den, D.toInt_int]; omega
  ·simp only [E.i, E.den, BO.den, D.toInt_int]; omega
 ·simp only [E.i, E.den, BO.den, D.toInt_int]

def E.sub : E → E → E
 | x, .int n => x.add (.int (-n))
 | .bi .add x (.int m), y => match x.beq y with
  | true => .int m
  | false => .bi .sub (.bi .add x (.int m)) y
 | x, y => match x.beq y with
  | true => .int 0
  | false => .bi .sub x y

theorem E.sub_i (Ω : Om) (x y : E) : (x.sub y).i Ω = x.i Ω - y.i Ω := by
 unfold E.sub;split
 ·rw [E.add_i]; simp only [E.i, E.den, D.toInt_int]; omega
 ·split
  ·rename_i h;have := E.beq_eq h;subst this;simp only [E.i, E.den, BO.den, D.toInt_int]; omega
  ·simp only [E.i, E.den, BO.den, D.toInt_int]
 ·split
  ·rename_i h;have := E.beq_eq h;subst this;simp only [E.i, E.den, D.toInt_int]; omega
  ·simp only [E.i, E.den, BO.den, D.toInt_int]

def E.mul : E → E → E
 | .int m, .int n => .int (m * n)
 | x, .int n => match decide (n = 1) with
  | true => x
  | false => .bi .mul x (.int n)
 | .int n, x => match decide (n = 1) with
  | true => x
  | false => .bi .mul x (.int n)
 | x, y => .bi .mul x y

theorem E.mul_i (Ω : Om) (x y : E) : (x.mul y).i Ω = x.i Ω * y.i Ω := by
 unfold E.mul;split
 ·rfl
 ·split
  ·rename_i h; have := of_decide_eq_true h; subst this; simp only [E.i, E.den, D.toInt_int]; omega
  ·simp only [E.i, E.den, BO.den, D.toInt_int]
 ·split
  ·rename_i h; have := of_decide_eq_true h; subst this; simp only [E.i, E.den, D.toInt_int]; omega
  ·simp only [E.i, E.den, BO.den, D.toInt_int]; rw [Int.mul_comm]
 ·simp only [E.i, E.den, BO.den, D.toInt_int]

def E.subst (θ : Nat → E) : E → E
 | .var i => θ i
 | .int n => .int n
 | .lits l => .lits l
 | .fn f x => .fn f (x.subst θ)
 | .un o x => .un o (x.subst θ)
 | .bi o x y => .bi o (x.subst θ) (y.subst θ)
 | .tr o x y z => .tr o (x.subst θ) (y.subst θ) (z.subst θ)

def Om.sub (Ω : Om) (θ : Nat → E) : Om := { Ω with d := fun i => (θ i).den Ω }

theorem E.den_subst (Ω : Om) (θ : Nat → E) : ∀ x : E, (x.subst θ).den Ω = x.den (Ω.sub θ)
 | .var i => rfl
 | .int n => rfl
 | .lits l => rfl
 | .fn f x => by simp only [E.subst, E.den, E.den_subst Ω θ x]; rfl
 | .un o x => by simp only [E.subst, E.den, E.den_subst Ω θ x]
 | .bi o x y => by simp only [E.subst, E.den, E.den_subst Ω θ x, E.den_subst Ω θ y]
 | .tr o x y z => by simp only [E.subst, E.den, E.den_subst Ω θ x, E.den_subst Ω θ y, E.den_subst Ω θ z]

inductive Q where
 | le (x y : E)
 | eq (x y : E)
 | fit (k : IntKind) (x : E)
 | same (x y : E)
 | less (x y : E)

def ltInts : List Int → List Int → Bool
 | _, [] => false
 | [], _ :: _ => true
 | a :: x, b :: y => decide (a < b) || (decide (a = b) && ltInts x y)

def Q.val (Ω : Om) : Q → Bool
 | .le x y => decide (x.i Ω ≤ y.i Ω)
 | .eq x y => decide (x.i Ω = y.i Ω)
 | .fit k x => decide (k.min ≤ x.i Ω ∧ x.i Ω ≤ k.max)
 | .same x y => decide (x.s Ω = y.s Ω)
 | .less x y => ltInts (x.s Ω) (y.s Ω)

def Q.beq : Q → Q → Bool
 | .le x y, .le u v => x.beq u && y.beq v
 | .eq x y, .eq u v => x.beq u && y.beq v
 | .fit k x, .fit l u => decide (k = l) && x.beq u
 | .same x y, .same u v => x.beq u && y.beq v
 | .less x y, .less u v => x.beq u && y.beq v
 | _, _ => false

theorem Q.beq_eq {p q : Q} (h : p.beq q = true) : p = q := by
 cases p <;> cases q <;> simp only [Q.beq, Bool.false_eq_true, bae] at h
 ·rw [E.beq_eq h.1, E.beq_eq h.2]
 ·rw [E.beq_eq h.1, E.beq_eq h.2]
 ·rw [of_decide_eq_true h.1, E.beq_eq h.2]
 ·rw [E.beq_eq h.1, E.beq_eq h.2]
 ·rw [E.beq_eq h.1, E.beq_eq h.2]

abbrev Ask := Q → Option Bool
def AskOK (Ω : Om) (A : Ask) : Prop := ∀ q b, A q = some b → q.val Ω = b

def askQ (A : Ask) (q : Q) : Option Bool :=
 match q with
 | .le (.int m) (.int n) => some (decide (m ≤ n))
 | .eq (.int m) (.int n) => some (decide (m = n))
 | .fit k (.int n) => some (decide (k.min ≤ n ∧ n ≤ k.max))
 | .same (.lits l) (.lits m) => some (eqInts l m)
 | .le x y => match x.beq y with
  | true => some true
  | false => A (.le x y)
 | .eq x y => match x.beq y with
  | true => some true
  | false => A (.eq x y)
 | .same x y => match x.beq y with
  | true => some true
  | false => A (.same x y)
 | q => A q

theorem askQ_val {Ω : Om} {A : Ask} (h : AskOK Ω A) {q : Q} {b : Bool} (k : askQ A q = some b) : q.val Ω = b := by
 unfold askQ at k;split at k
 ·simp only [sme] at k; subst k; rfl
 ·simp only [sme] at k; subst k; rfl
 ·simp only [sme] at k; subst k; rfl
 ·simp only [sme] at k; subst k;rw [eqInts_iff];simp only [Q.val, E.s, E.den, D.ints_ofInts]
 ·split at k
  ·rename_i hb;have := E.beq_eq hb;simp only [sme] at k; subst k; subst this;simp [Q.val]
  ·exact h _ _ k
 ·split at k
  ·rename_i hb;have := E.beq_eq hb;simp only [sme] at k; subst k; subst this;simp [Q.val]
  ·exact h _ _ k
 ·split at k
  ·rename_i hb;have := E.beq_eq hb;simp only [sme] at k; subst k; subst this;simp [Q.val]
  ·exact h _ _ k
 ·exact h _ _ k

def tellA : List (Q × Bool) → Ask
 | [], _ => none
 | (p, b) :: r, q => match p.beq q with
  | true => some b
  | false => tellA r q
theorem tellA_ok {Ω : Om} : ∀ {l : List (Q × Bool)}, (∀ p ∈ l, p.1.val Ω = p.2) → AskOK Ω (tellA l)
 | [], _, _, _, k => by simp [tellA] at k
 | (p, b) :: r, h, q, c, k => by
  simp only [tellA] at k;split at k
  ·rename_i hb;simp only [sme] at k;have := Q.beq_eq hb;subst this k;exact h (p, b) (by simp)
  ·exact tellA_ok (fun x hx => h x (by simp [hx])) q c k

def ge0 (A : Ask) (x : E) : Bool := match askQ A (.le (.int 0) x) with | some true => true | _ => false
def leB (A : Ask) (x y : E) : Bool := match askQ A (.le x y) with | some true => true | _ => false
def ltB (A : Ask) (x y : E) : Bool := match askQ A (.le y x) with | some false => true | _ => false
def fitB (A : Ask) (k : IntKind) (x : E) : Bool := match askQ A (.fit k x) with | some true => true | _ => false

theorem ge0_val {Ω : Om} {A : Ask} (h : AskOK Ω A) {x : E} (k : ge0 A x = true) : 0 ≤ x.i Ω := by
 unfold ge0 at k;split at k
 ·rename_i hq; have := askQ_val h hq; exact of_decide_eq_true this
 ·cases k
theorem leB_val {Ω : Om} {A : Ask} (h : AskOK Ω A) {x y : E} (k : leB A x y = true) : x.i Ω ≤ y.i Ω := by
 unfold leB at k;split at k
 ·rename_i hq; have := askQ_val h hq; simpa [Q.val] using this
 ·cases k
theorem ltB_val {Ω : Om} {A : Ask} (h : AskOK Ω A) {x y : E} (k : ltB A x y = true) : x.i Ω < y.i Ω := by
 unfold ltB at k;split at k
 ·rename_i hq; have := askQ_val h hq; simpa [Q.val] using this
 ·cases k
theorem fitB_val {Ω : Om} {A : Ask} (h : AskOK Ω A) {k : IntKind} {x : E} (hk : fitB A k x = true) : k.min ≤ x.i Ω ∧ x.i Ω ≤ k.max := by
 unfold fitB at hk;split at hk
 ·rename_i hq; have := askQ_val h hq; simpa [Q.val] using this
 ·cases hk

theorem wrap_fit {k : IntKind} {n : Int} (h : k.min ≤ n ∧ n ≤ k.max) : k.wrap n = n := by
 cases k <;> simp only [IntKind.min, IntKind.max, IntKind.signed, IntKind.bits, IntKind.wrap] at h ⊢ <;> simp at h ⊢ <;> omega

end Go.Ev
