/-
  What is known of two numbers in the law FieldOrder, for the evaluator. No condition.
-/
import Derived.Test.YtioeihajajacdaaDig
namespace Go.Proofs.Ytioeihajajacdaa.fieldOrder
open Go.RowKit Go.Ev Go.Ev.Dig

/-! ### what is known of the numbers: value 16 k + 8 b + j is, of the number b (0, 1), for k = 0 it divided by 128^j, for k = 1 the rest of that, for k = 2 this as a byte, for k = 3 the byte and 128 -/
structure Cfg where
  neg : Bool
  big : Bool
  k : Nat
  neg' : Bool
  big' : Bool
  k' : Nat
  lt : Bool
  eq : Bool

def Cfg.negOf (c : Cfg) (i : Nat) : Bool := match Nat.blt i 8 with | true => c.neg | false => c.neg'
def Cfg.bigOf (c : Cfg) (i : Nat) : Bool := match Nat.blt i 8 with | true => c.big | false => c.big'
def Cfg.kOf (c : Cfg) (i : Nat) : Nat := match Nat.blt i 8 with | true => c.k | false => c.k'

def idsOf : List AV → Option (List Nat)
  | [] => some []
  | .byte i :: r => (idsOf r).map (i :: ·)
  | _ => none
def eqNats : List Nat → List Nat → Bool
  | [], [] => true
  | a :: r, b :: s => Nat.beq a b && eqNats r s
  | _, _ => false
/-- The bytes' numbers, of the number at b (0 or 8). -/
def la (b : Nat) : Nat → List Nat
  | 0 => []
  | 1 => [32 + b]
  | k + 2 => (48 + b + (k + 1)) :: la b (k + 1)

def litIs (l : List AV) (m : List Nat) : Bool := match idsOf l with
  | some ids => eqNats ids m
  | none => false

def opt (b : Bool) (v : AV) : Option AV := match b with | true => some v | false => none

def known (c : Cfg) : Op → List AV → Option AV
  | .binOp .rem _ _ _ _, [.opq i, .int .i64 128] => opt (Nat.blt i 16) (.opq (i + 16))
  | .binOp .quo _ _ _ _, [.opq i, .int .i64 128] => opt (Nat.blt i 16 && Nat.blt (i % 8) 5) (.opq (i + 1))
  | .binOp .gtr _ _ _ _, [.opq i, .int .i64 0] => opt (Nat.blt i 16 && Nat.blt 0 (i % 8) && Nat.blt (i % 8) 6 && Nat.blt 0 (c.kOf i)) (.bool (Nat.blt (i % 8) (c.kOf i)))
  | .binOp .gtr _ _ _ _, [.opq i, .int .i64 2147483647] => opt (Nat.blt i 16 && Nat.beq (i % 8) 0) (.bool (c.bigOf i))
  | .binOp .lss _ _ _ _, [.opq i, .int .i64 0] => opt (Nat.blt i 16 && Nat.beq (i % 8) 0) (.bool (c.negOf i))
  | .binOp .geq _ _ _ _, [.opq i, .int .i64 0] => opt (Nat.blt i 16 && Nat.beq (i % 8) 0) (.bool (!c.negOf i))
  | .binOp .leq _ _ _ _, [.opq i, .int .i64 2147483647] => opt (Nat.blt i 16 && Nat.beq (i % 8) 0) (.bool (!c.bigOf i))
  | .binOp .geq _ _ _ _, [.opq 0, .opq 8] => some (.bool (!c.lt))
  | .binOp .neq _ _ _ _, [.opq 0, .opq 8] => some (.bool (!c.eq))
  | .convert 3 5 _, [.opq i] => opt (Nat.blt 15 i && Nat.blt i 32) (.byte (i + 16))
  | .binOp .add _ _ _ _, [.byte i, .int .u8 128] => opt (Nat.blt 31 i && Nat.blt i 48) (.byte (i + 16))
  | .binOp .eql _ _ _ _, [.lit l, .lit m] => match c.eq && litIs l (la 0 c.k) && litIs m (la 8 c.k') && Nat.beq c.k c.k' && Nat.blt 0 c.k with
    | true => some (.bool true)
    | false => opt (c.lt && litIs l (la 0 c.k) && litIs m ((la 8 c.k').take c.k) && Nat.blt 0 c.k && Nat.blt 0 c.k') (.bool false)
  | .binOp .geq _ _ _ _, [.lit l, .lit m] => opt (c.lt && Nat.beq c.k c.k' && litIs l (la 0 c.k) && litIs m (la 8 c.k') && Nat.blt 0 c.k) (.bool false)
  | _, _ => none

/-- The classes of a number: below 0; above 2^31 - 1; of 1 to 5 bytes. -/
def classes : List (Bool × Bool × Nat) := [(true, false, 0), (false, true, 0), (false, false, 1), (false, false, 2), (false, false, 3), (false, false, 4), (false, false, 5)]
def orders : List (Bool × Bool) := [(true, false), (false, true), (false, false)]
/-- May this be? -/
def maybe (x y : Bool × Bool × Nat) (r : Bool × Bool) : Bool :=
  match r.2 with
  | true => (match x.1, y.1 with | true, true => true | false, false => true | _, _ => false) && (match x.2.1, y.2.1 with | true, true => true | false, false => true | _, _ => false) && Nat.beq x.2.2 y.2.2
  | false => match r.1 with
    | true => Nat.beq y.2.2 0 || Nat.ble x.2.2 y.2.2
    | false => true

end Go.Proofs.Ytioeihajajacdaa.fieldOrder
