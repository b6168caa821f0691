/-
 Contracts of this seat: what loops and calls leave, for all inputs. No condition.
-/
import Derived.Test.YtceealenelhaiaaSycp
import Derived.Test.YtceealenelhaiaaSyfm
import Derived.Test.YtceealenelhaiaaCo
set_option linter.unusedSimpArgs false
set_option linter.unusedVariables false
namespace Go.Proofs.Ytceealenelhaiaa.Ga
open Go.RowKit Go.Ev Go.Proofs.Ytceealenelhaiaa.Co


def wI (c : Int) : Int := iopI .mul .u32 (iopI .add .u32 (iopI .mul .u32 2 c) 1) 2654435761
def stepI (n c : Int) : Int := iopI .add .u32 (iopI .mul .u32 3 n) (wI c)
def sumN (n : Int) (l : List Int) : Int := l.foldl stepI n
def tripI : Nat → Int → Int
 | 0, n => n
 | k + 1, n => tripI k (3 * n % 4294967296)
def ringN (x : List Int) (o : Int) : Nat → List Int
 | 0 => List.replicate 16 0
 | n + 1 => (ringN x o n).set (n % 16) ((x[(o + n).toNat]?).getD 0)
def winI (x : List Int) (o n : Int) : Int := sumN 0 (prt x (if n ≤ 16 then o else o + n - 16) (o + n))
def ringL (l : List Int) : List Int := ringN l 0 l.length
def winL (l : List Int) : Int := winI l 0 l.length
def rollI (s o c : Int) : Int := iopI .add .u32 (iopI .mul .u32 3 (iopI .sub .u32 s (iopI .mul .u32 (wI o) 14348907))) (wI c)
def pushI (s n : Int) (r : List Int) (c : Int) : Int := if 16 ≤ n then rollI s ((r[(n % 16).toNat]?).getD 0) c else stepI s c
def twoI (x : List Int) (o n : Int) (y : List Int) (p m : Int) : List Int := prt x o (o + n) ++ prt y p (p + m)
def markI (i : Int) : Int := 160 + i % 90
def lentI (l : List Int) : List Int := l ++ [markI l.length, markI (l.length + 1), markI (l.length + 2)]
def endB (x : List Int) (o i n : Int) : Bool := decide (n = 1024 ∨ 64 ≤ n ∧ winI x o i < 16777216)
def cutsN (x : List Int) (o : Int) : Nat → Int → Int → List Int × Int
 | 0, _, n => ([], n)
 | r + 1, i, n => if endB x o (i + 1) (n + 1) then ((n + 1) :: (cutsN x o r (i + 1) 0).1, (cutsN x o r (i + 1) 0).2) else cutsN x o r (i + 1) (n + 1)
abbrev dqGa (a b : E) (j : Int) : Duty := (true, .bi .sel a (.int j), .bi .sel b (.int j))
abbrev vu8Ga (a : E) (j : Int) : AV := .sint .u8 (.bi .sel a (.int j))
abbrev zGa58 : E := (.bi .add (.var 3) (.var 0))
abbrev txGa0 : E := (.bi .sel (.var 2) zGa58)
abbrev zGa3 : E := (.bi .add (.var 0) (.int 1))
abbrev txGa1 : E := (.bi .pair zGa3 (.int 0))
abbrev txGa2 : E := (.bi .pair (.bi .add (.var 4) (.int 1)) (.int 0))
abbrev zGa12 : E := (.bi .add (.var 1) (.int 1))
abbrev txGa3 : E := (.bi .pair zGa12 (.int 0))
abbrev txGa4 : E := (.bi .pair (.var 0) (.bi .pair (.int 0) (.int 0)))
abbrev txGa5 : E := (.bi .pair (.var 0) (.bi .pair (.var 1) (.int 0)))
abbrev txGa6 : E := (.bi .pair (.var 1) (.bi .pair (.var 10) (.int 0)))
abbrev txGa7 : E := (.bi .pair (.int 0) (.bi .pair (.lits []) (.int 0)))
abbrev zGa41 : E := (.bi (.iop .rem .i64) (.var 8) (.int 16))
abbrev txGa8 : E := (.bi .sel (.var 7) zGa41)
abbrev txGa9 : E := (.bi .pair zGa3 (.bi .pair (.int 1) (.int 0)))
abbrev txGa10 : E := (.bi .pair zGa3 (.bi .pair (.int 0) (.int 0)))
abbrev txGa11 : E := (.bi .pair zGa3 txGa3)
abbrev txGa12 : E := (.bi .pair (.var 2) (.bi .pair (.var 3) txGa1))
abbrev txGa13 : E := (.bi .pair (.var 2) (.bi .pair (.var 3) txGa2))
abbrev txGa14 : E := (.bi .pair (.var 3) (.bi .pair (.var 4) txGa4))
abbrev txGa15 : E := (.bi .pair (.var 3) (.bi .pair (.var 4) txGa5))
abbrev txGa16 : E := (.bi .pair (.var 4) (.bi .pair (.var 0) txGa6))
abbrev txGa17 : E := (.bi .pair zGa3 txGa7)
abbrev txGa18 : E := (.bi .pair (.var 4) (.bi .pair (.var 0) txGa7))
abbrev zGa15 : E := (.bi .app (.un .one txGa0) (.lits []))
abbrev txGa19 : E := (.bi .pair zGa15 (.int 0))
abbrev txGa20 : E := (.bi .app (.var 10) zGa15)
abbrev txGa21 : E := (.tr .upd (.var 7) zGa41 txGa0)
abbrev txGa22 : E := (.bi .pair (.var 3) (.bi .pair (.var 4) txGa9))
abbrev txGa23 : E := (.bi (.iop .add .u32) (.bi (.iop .mul .u32) (.int 2) txGa0) (.int 1))
abbrev txGa24 : E := (.bi .pair (.var 3) (.bi .pair (.var 4) txGa10))
abbrev txGa25 : E := (.bi (.iop .add .u32) (.bi (.iop .mul .u32) (.int 2) txGa8) (.int 1))
abbrev txGa26 : E := (.bi .pair (.var 3) (.bi .pair (.var 4) txGa11))
abbrev zGa27 : E := (.bi .pair (.var 2) txGa14)
abbrev txGa27 : E := (.un .len (.fn 20 zGa27))
abbrev zGa59 : E := (.bi .pair (.var 2) txGa15)
abbrev txGa28 : E := (.un .len (.fn 20 zGa59))
abbrev txGa29 : E := (.bi .pair (.var 2) (.bi .pair (.var 3) txGa16))
abbrev txGa30 : E := (.bi .pair (.var 3) (.bi .pair (.var 4) txGa17))
abbrev txGa31 : E := (.bi .pair (.var 2) (.bi .pair (.var 3) txGa18))
abbrev txGa32 : E := (.bi (.iop .mul .u32) txGa23 (.int 2654435761))
abbrev txGa33 : E := (.bi .pair zGa3 (.bi .pair (.int 1) txGa19))
abbrev txGa34 : E := (.bi .pair zGa12 (.bi .pair txGa20 (.int 0)))
abbrev txGa35 : E := (.bi (.iop .mul .u32) txGa25 (.int 2654435761))
abbrev zGa14 : E := (.un .len (.fn 30 txGa29))
abbrev txGa36 : E := (.bi .add (.var 11) zGa14)
abbrev zGa50 : E := (.bi .pair (.var 2) txGa30)
abbrev txGa37 : E := (.un .len (.fn 30 zGa50))
abbrev zGa39 : E := (.un .len (.fn 30 txGa31))
abbrev txGa38 : E := (.bi .add (.var 11) zGa39)
abbrev txGa39 : E := (.un .code (.bi .app (.var 12) (.fn 30 txGa29)))
abbrev txGa40 : E := (.un .code (.bi .app (.var 12) (.fn 30 txGa31)))
abbrev txGa41 : E := (.bi (.iop .mul .u32) txGa35 (.int 14348907))
abbrev txGa42 : E := (.bi .pair zGa3 txGa34)
abbrev txGa43 : E := (.bi .pair (.var 3) (.bi .pair (.var 4) txGa33))
abbrev txGa44 : E := (.bi (.iop .add .u32) (.bi (.iop .mul .u32) (.int 3) (.var 9)) txGa32)
abbrev zGa28 : E := (.bi .add (.var 11) (.int 1))
abbrev txGa45 : E := (.bi .add zGa28 txGa37)
abbrev txGa46 : E := (.bi .pair (.var 3) (.bi .pair (.var 4) txGa42))
abbrev zGa51 : E := (.bi .pair (.var 2) txGa43)
abbrev txGa47 : E := (.un .len (.fn 30 zGa51))
abbrev txGa48 : E := (.un .code (.fn 30 zGa51))
abbrev txGa49 : E := (.bi .app (.var 12) (.fn 30 zGa51))
abbrev txGa50 : E := (.bi (.iop .mul .u32) (.int 3) (.bi (.iop .sub .u32) (.var 9) txGa41))
abbrev zGa52 : E := (.bi .pair (.var 2) txGa46)
abbrev txGa51 : E := (.un .len (.fn 30 zGa52))
abbrev txGa52 : E := (.un .code (.fn 30 zGa52))
abbrev txGa53 : E := (.bi .app (.var 12) (.fn 30 zGa52))
abbrev zGa33 : E := (.bi .snoc (.var 12) txGa20)
abbrev txGa54 : E := (.bi .app zGa33 (.fn 30 zGa50))
abbrev zGa32 : E := (.bi .snoc (.lits []) txGa20)
abbrev txGa55 : E := (.bi .app zGa32 (.fn 30 zGa50))
abbrev zGa20 : E := (.fn 21 zGa59)
abbrev zGa0 : Duty := (true, (.fn 21 (.bi .pair (.var 2) txGa26)), zGa20)
abbrev zGa1 : Nat × RW := (1, .cells 52 0 false false [.ptr 1 0, .bool true, vu8Ga (.var 7) 0, vu8Ga (.var 7) 1, vu8Ga (.var 7) 2, vu8Ga (.var 7) 3, vu8Ga (.var 7) 4, vu8Ga (.var 7) 5, vu8Ga (.var 7) 6, vu8Ga (.var 7) 7, vu8Ga (.var 7) 8, vu8Ga (.var 7) 9, vu8Ga (.var 7) 10, vu8Ga (.var 7) 11, vu8Ga (.var 7) 12, vu8Ga (.var 7) 13, vu8Ga (.var 7) 14, vu8Ga (.var 7) 15, .sint .i64 (.var 8), .sint .u32 (.var 9), .sslice 3 (.int 0) (.var 1) (.var 1) true, .bool false])
abbrev zGa2 : Nat × RW := (1, .cells 52 0 false false [.ptr 1 0, .bool true, vu8Ga (.var 7) 0, vu8Ga (.var 7) 1, vu8Ga (.var 7) 2, vu8Ga (.var 7) 3, vu8Ga (.var 7) 4, vu8Ga (.var 7) 5, vu8Ga (.var 7) 6, vu8Ga (.var 7) 7, vu8Ga (.var 7) 8, vu8Ga (.var 7) 9, vu8Ga (.var 7) 10, vu8Ga (.var 7) 11, vu8Ga (.var 7) 12, vu8Ga (.var 7) 13, vu8Ga (.var 7) 14, vu8Ga (.var 7) 15, .sint .i64 (.var 8), .sint .u32 (.var 9), .nilslice, .bool false])
abbrev zGa4 : Nat × RW := (1, .cells 52 0 false false [.ptr 1 0, .bool true, vu8Ga (.fn 9 txGa13) 0, vu8Ga (.fn 9 txGa13) 1, vu8Ga (.fn 9 txGa13) 2, vu8Ga (.fn 9 txGa13) 3, vu8Ga (.fn 9 txGa13) 4, vu8Ga (.fn 9 txGa13) 5, vu8Ga (.fn 9 txGa13) 6, vu8Ga (.fn 9 txGa13) 7, vu8Ga (.fn 9 txGa13) 8, vu8Ga (.fn 9 txGa13) 9, vu8Ga (.fn 9 txGa13) 10, vu8Ga (.fn 9 txGa13) 11, vu8Ga (.fn 9 txGa13) 12, vu8Ga (.fn 9 txGa13) 13, vu8Ga (.fn 9 txGa13) 14, vu8Ga (.fn 9 txGa13) 15, .sint .i64 (.var 4), .sint .u32 (.fn 11 txGa13), .nilslice, .bool false])
noncomputable abbrev zGa5 : Nat × RW := (5, .loop 0 [(2, .ptr 15 0), (3, .ptr 1 0)] 21 (rangeAt Try.prog 29 [4, 1, 0, 1, 1]))
abbrev zGa6 : E := (.bi .add (.var 8) (.int 1))
abbrev zGa7 : E := (.bi (.iop .add .u32) txGa50 txGa32)
abbrev zGa8 : Duty := (true, (.fn 21 (.bi .pair (.var 2) txGa22)), (.fn 21 zGa27))
abbrev zGa9 : Nat × RW := (1, .cells 52 0 false false [.ptr 1 0, .bool true, vu8Ga (.fn 9 txGa13) 0, vu8Ga (.fn 9 txGa13) 1, vu8Ga (.fn 9 txGa13) 2, vu8Ga (.fn 9 txGa13) 3, vu8Ga (.fn 9 txGa13) 4, vu8Ga (.fn 9 txGa13) 5, vu8Ga (.fn 9 txGa13) 6, vu8Ga (.fn 9 txGa13) 7, vu8Ga (.fn 9 txGa13) 8, vu8Ga (.fn 9 txGa13) 9, vu8Ga (.fn 9 txGa13) 10, vu8Ga (.fn 9 txGa13) 11, vu8Ga (.fn 9 txGa13) 12, vu8Ga (.fn 9 txGa13) 13, vu8Ga (.fn 9 txGa13) 14, vu8Ga (.fn 9 txGa13) 15, .sint .i64 (.var 4), .sint .u32 (.fn 11 txGa13), .sslice 3 (.int 0) (.fn 21 zGa27) (.fn 21 zGa27) true, .bool false])
abbrev zGa10 : Nat × RW := (1, .cells 52 0 false false [.ptr 1 0, .bool true, vu8Ga (.fn 9 txGa13) 0, vu8Ga (.fn 9 txGa13) 1, vu8Ga (.fn 9 txGa13) 2, vu8Ga (.fn 9 txGa13) 3, vu8Ga (.fn 9 txGa13) 4, vu8Ga (.fn 9 txGa13) 5, vu8Ga (.fn 9 txGa13) 6, vu8Ga (.fn 9 txGa13) 7, vu8Ga (.fn 9 txGa13) 8, vu8Ga (.fn 9 txGa13) 9, vu8Ga (.fn 9 txGa13) 10, vu8Ga (.fn 9 txGa13) 11, vu8Ga (.fn 9 txGa13) 12, vu8Ga (.fn 9 txGa13) 13, vu8Ga (.fn 9 txGa13) 14, vu8Ga (.fn 9 txGa13) 15, .sint .i64 (.var 4), .sint .u32 (.fn 11 txGa13), .sslice 3 (.int 0) zGa20 zGa20 true, .bool false])
noncomputable abbrev zGa11 : Nat × RW := (7, .loop 0 [(2, .ptr 9 0)] 13 (rangeAt Try.prog 25 [4, 1, 0, 1]))
abbrev zGa13 : Duty := (true, (.fn 21 (.bi .pair (.var 2) txGa24)), zGa20)
abbrev zGa16 : Nat × RW := (15, .cells 60 0 false false [.yieldf 7])
abbrev zGa17 : Nat × RW := (13, .cells 25 0 false false [.ptr 1 0])
abbrev zGa18 : Duty := (true, (.bi .add (.var 11) txGa51), txGa36)
abbrev zGa19 : Duty := (false, (.fn 22 zGa52), (.fn 22 txGa29))
abbrev zGa21 : Duty := (true, (.bi .add (.var 11) txGa47), txGa38)
abbrev zGa22 : Duty := (true, txGa47, zGa39)
abbrev zGa23 : Duty := (true, (.bi .add (.int 1) txGa37), zGa14)
abbrev zGa24 : Duty := (false, (.fn 22 zGa51), (.fn 22 txGa31))
abbrev zGa25 : Nat × RW := (17, .eseq ⟨.u8, .var 6, .var 2⟩)
abbrev zGa26 : Nat × RW := (9, .cells 27 0 false false [.nilslice])
abbrev zGa29 : Nat × RW := (9, .cells 27 0 false false [.vslice 11 1 (.int 0) (.var 11) (.var 11) true])
abbrev zGa30 : E := (.bi .add (.var 3) (.var 4))
abbrev zGa31 : E := (.un .code (.fn 30 txGa29))
abbrev zGa34 : Duty := (false, (.fn 22 zGa50), (.fn 22 txGa29))
abbrev zGa35 : Nat × RW := (3, .seq ⟨5, .u8, .var 1, .var 10, true, false⟩)
abbrev zGa36 : Nat × RW := (11, .vseq ⟨22, (.sl (.int .u8)), .var 11, .var 12, true⟩)
abbrev zGa37 : Nat × RW := (3, .seq ⟨5, .u8, .fn 21 zGa59, .fn 22 txGa29, true, false⟩)
abbrev zGa38 : Duty := (false, (.un .code txGa53), txGa39)
abbrev zGa40 : Duty := (false, txGa48, (.un .code (.fn 30 txGa31)))
abbrev zGa42 : Nat × RW := (3, .seq ⟨5, .u8, .fn 21 zGa27, .fn 22 txGa31, true, false⟩)
abbrev zGa43 : Nat × RW := (11, .vseq ⟨22, (.sl (.int .u8)), .bi .add (.var 11) zGa39, .bi .app (.var 12) (.fn 30 txGa31), true⟩)
abbrev zGa44 : Nat × RW := (11, .vseq ⟨22, (.sl (.int .u8)), .bi .add (.var 11) zGa14, .bi .app (.var 12) (.fn 30 txGa29), true⟩)
abbrev zGa45 : Duty := (false, (.un .code txGa49), txGa40)
abbrev zGa46 : Duty := (false, (.un .code txGa54), txGa39)
abbrev zGa47 : Duty := (false, (.un .code txGa55), zGa31)
abbrev zGa48 : Nat × RW := (11, .vseq ⟨22, (.sl (.int .u8)), .un .len (.fn 30 txGa31), .fn 30 txGa31, true⟩)
abbrev zGa49 : Nat × RW := (11, .vseq ⟨22, (.sl (.int .u8)), .un .len (.fn 30 txGa29), .fn 30 txGa29, true⟩)
abbrev zGa53 : Nat × RW := (9, .cells 27 0 false false [.vslice 11 1 (.int 0) txGa38 txGa38 true])
abbrev zGa54 : Nat × RW := (9, .cells 27 0 false false [.vslice 11 1 (.int 0) txGa36 txGa36 true])
abbrev zGa55 : Nat × RW := (9, .cells 27 0 false false [.vslice 11 1 (.int 0) zGa39 zGa39 true])
abbrev zGa56 : Nat × RW := (9, .cells 27 0 false false [.vslice 11 1 (.int 0) zGa14 zGa14 true])
abbrev zGa57 : Duty := (true, (.var 9), (.fn 11 txGa13))
abbrev zGa60 : Duty := (true, (.var 8), (.var 4))
def sumL : List Int → Int
 | [] => 0
 | x :: l => x + sumL l
def okL (l : List Int) : Bool := l.all (fun y => decide (0 ≤ y)) && decide (sumL l ≤ 20000)
def lastL (n : Int) (l : List Int) : List Int := l.drop (l.length - n.toNat)
def cutsT (x : List Int) (o t i n : Int) : List Int × Int := cutsN x o (t - i).toNat i n
def allT (x : List Int) (o t : Int) : List Int := if 0 < (cutsT x o t 0 0).2 then (cutsT x o t 0 0).1 ++ [(cutsT x o t 0 0).2] else (cutsT x o t 0 0).1
def chN (x : List Int) (y : List D) (o : Int) : Nat → Int → Int → List D → List D
 | 0, _, _, _ => []
 | r + 1, i, n, l => if endB x o (i + 1) (n + 1) then .list (l ++ [y[(o + i).toNat]?.getD (.int 0)]) :: chN x y o r (i + 1) 0 [] else chN x y o r (i + 1) (n + 1) (l ++ [y[(o + i).toNat]?.getD (.int 0)])
def chT (x : D) (o t i n : Int) (l : D) : List D := chN x.ints x.toList o (t - i).toNat i n l.toList
def restT (x : D) (o t : Int) : D := D.ofInts (lastL (cutsT x.ints o t 0 0).2 ((D.ofInts []).ints ++ prt x.ints (o + 0) (o + t)))
def allC (x : D) (o t : Int) : List D := if 0 < (cutsT x.ints o t 0 0).2 then chT x o t 0 0 (D.ofInts []) ++ [restT x o t] else chT x o t 0 0 (D.ofInts [])
def catL (l : List D) : List Int := l.flatMap D.ints
def lowB (c : List Int) (k : Int) : Bool := decide (sumN 0 (prt c (k - 16) k) < 16777216)
def goodC (c : List Int) (last : Bool) : Bool := decide (1 ≤ c.length ∧ c.length ≤ 1024) && (last || (decide (64 ≤ c.length) && (decide (c.length = 1024) || lowB c c.length))) && (List.range c.length).all fun k => !(decide (64 ≤ k) && lowB c k)
def fitsL : List D → Bool
 | [] => true
 | [c] => goodC c.ints true
 | c :: d :: l => goodC c.ints false && fitsL (d :: l)
def F : Nat → D → D
 | 1 => fun a => .int (sumN (argD a 0).toInt (prt (argD a 1).ints (argD a 2).toInt (argD a 3).toInt))
 | 2 => fun a => .int (sumN 0 (prt (argD a 0).ints (argD a 1).toInt (argD a 2).toInt))
 | 6 => fun a => D.ofInts (lentI (prt (argD a 0).ints (argD a 1).toInt (argD a 2).toInt))
 | 7 => fun a => .int ((argD a 0).toInt % (argD a 1).toInt)
 | 8 => fun a => .int (tripI ((argD a 1).toInt - (argD a 0).toInt).toNat (argD a 2).toInt)
 | 9 => fun a => D.ofInts (ringN (argD a 0).ints (argD a 1).toInt ((argD a 2).toInt - 1).toNat)
 | 10 => fun a => .int ((argD a 0).toInt - 1).toNat
 | 11 => fun a => .int (winI (argD a 0).ints (argD a 1).toInt (((argD a 2).toInt - 1).toNat : Nat))
 | 12 => fun a => D.ofInts (ringL (twoI (argD a 0).ints (argD a 1).toInt (argD a 2).toInt (argD a 3).ints (argD a 4).toInt (argD a 5).toInt))
 | 13 => fun a => .int (winL (twoI (argD a 0).ints (argD a 1).toInt (argD a 2).toInt (argD a 3).ints (argD a 4).toInt (argD a 5).toInt))
 | 15 => fun a => .int (pushI (argD a 0).toInt (argD a 1).toInt (argD a 2).ints (argD a 3).toInt)
 | 20 => fun a => D.ofInts (cutsT (argD a 0).ints (argD a 1).toInt (argD a 2).toInt (argD a 3).toInt (argD a 4).toInt).1
 | 21 => fun a => .int (cutsT (argD a 0).ints (argD a 1).toInt (argD a 2).toInt (argD a 3).toInt (argD a 4).toInt).2
 | 22 => fun a => D.ofInts (lastL (cutsT (argD a 0).ints (argD a 1).toInt (argD a 2).toInt (argD a 3).toInt (argD a 4).toInt).2 ((argD a 5).ints ++ prt (argD a 0).ints ((argD a 1).toInt + (argD a 3).toInt) ((argD a 1).toInt + (argD a 2).toInt)))
 | 23 => fun a => D.ofInts (allT (argD a 0).ints (argD a 1).toInt (argD a 2).toInt)
 | 24 => fun a => .int (sumL ((argD a 0).ints.take (argD a 1).toInt.toNat))
 | 25 => fun a => .int (if okL (argD a 0).ints then 1 else 0)
 | 30 => fun a => .list (chT (argD a 0) (argD a 1).toInt (argD a 2).toInt (argD a 3).toInt (argD a 4).toInt (argD a 5))
 | 33 => fun a => .list (allC (argD a 0) (argD a 1).toInt (argD a 2).toInt)
 | 34 => fun a => D.ofInts (catL ((argD a 0).toList.take (argD a 1).toInt.toNat))
 | 35 => fun a => .int (if fitsL ((argD a 0).toList.drop (argD a 1).toInt.toNat) then 1 else 0)
 | 37 => fun a => .int (if (argD a 0).toList.map D.ints = (argD a 1).toList.map D.ints then 1 else 0)
 | 39 => fun a => .int (if (argD a 0).toList.map D.ints = (chT (argD a 1) 0 (argD a 2).toInt 0 0 (D.ofInts [])).map D.ints then 1 else 0)
 | 40 => fun a => .int (if (argD a 0).toInt ≤ (argD a 1).toInt ∨ (argD a 2).toInt = 0 then 1 else 0)
 | 41 => fun a => D.ofInts (argD a 0).ints
 | 36 => fun a => .int (if goodC (argD a 0).ints (decide ((argD a 1).toInt = 1)) then 1 else 0)
 | _ => fun x => x

theorem F1 (n x o t : D) : F 1 (.list [n, .list [x, .list [o, .list [t, .int 0]]]]) = .int (sumN n.toInt (prt x.ints o.toInt t.toInt)) := rfl
theorem F2 (x o t : D) : F 2 (.list [x, .list [o, .list [t, .int 0]]]) = .int (sumN 0 (prt x.ints o.toInt t.toInt)) := rfl
theorem F6 (x o t : D) : F 6 (.list [x, .list [o, .list [t, .int 0]]]) = D.ofInts (lentI (prt x.ints o.toInt t.toInt)) := rfl
theorem wrap32 (x : Int) : IntKind.u32.wrap x = x % 4294967296 := by simp [IntKind.wrap, IntKind.signed, IntKind.bits]
theorem add32 (x y : Int) : iopI .add .u32 x y = (x + y) % 4294967296 := wrap32 _
theorem sub32 (x y : Int) : iopI .sub .u32 x y = (x - y) % 4294967296 := wrap32 _
theorem mul32 (x y : Int) : iopI .mul .u32 x y = (x * y) % 4294967296 := wrap32 _
theorem wI_eq (c : Int) : wI c = ((2 * c) % 4294967296 + 1) % 4294967296 * 2654435761 % 4294967296 := by
 unfold wI; rw [mul32, mul32, add32]
theorem step_eq (n c : Int) : stepI n c = (3 * n % 4294967296 + wI c) % 4294967296 := by
 unfold stepI; rw [add32, mul32]
theorem step_in (n c : Int) : 0 ≤ stepI n c ∧ stepI n c ≤ 4294967295 := add_in .u32 _ _
theorem wI_in (c : Int) : 0 ≤ wI c ∧ wI c ≤ 4294967295 := mul_in .u32 _ _
theorem sum_in : ∀ (l : List Int) (n : Int), (0 ≤ n ∧ n ≤ 4294967295) → 0 ≤ sumN n l ∧ sumN n l ≤ 4294967295
 | [], n, h => h
 | c :: l, n, _ => sum_in l (stepI n c) (step_in n c)
theorem sum_app (n : Int) (l m : List Int) : sumN n (l ++ m) = sumN (sumN n l) m := List.foldl_append
theorem trip_add : ∀ (k : Nat) (a b : Int), tripI k ((a + b) % 4294967296) % 4294967296 = (tripI k a + tripI k b) % 4294967296
 | 0, a, b => by simp only [tripI]; omega
 | k + 1, a, b => by
  have h := trip_add k (3 * a % 4294967296) (3 * b % 4294967296)
  simp only [tripI]
  rw [← h, show 3 * ((a + b) % 4294967296) % 4294967296 = (3 * a % 4294967296 + 3 * b % 4294967296) % 4294967296 by omega]
theorem trip0 : ∀ k, tripI k 0 = 0
 | 0 => rfl
 | k + 1 => by simpa [tripI] using trip0 k
theorem cancelM {u v n m : Int} (huv : u * v % 4294967296 = 1) (h : u * n % 4294967296 = u * m % 4294967296) : n % 4294967296 = m % 4294967296 := by
 have h1 : v * (u * n) % 4294967296 = v * (u * m) % 4294967296 := by rw [Int.mul_emod, h, ← Int.mul_emod]
 have e : ∀ x : Int, v * (u * x) % 4294967296 = x % 4294967296 := fun x => by
  rw [← Int.mul_assoc, Int.mul_comm v u, Int.mul_emod, huv, Int.one_mul, Int.emod_emod_of_dvd _ (Int.dvd_refl _)]
 rw [e, e] at h1
 exact h1
theorem inj3 {n m : Int} (hn : 0 ≤ n ∧ n ≤ 4294967295) (hm : 0 ≤ m ∧ m ≤ 4294967295) (h : 3 * n % 4294967296 = 3 * m % 4294967296) : n = m := by
 have := cancelM (v := 2863311531) (by omega) h
 clear h
 omega
theorem injF {c d : Int} (hn : 0 ≤ c ∧ c ≤ 255) (hm : 0 ≤ d ∧ d ≤ 255) (h : (2 * c + 1) * 2654435761 % 4294967296 = (2 * d + 1) * 2654435761 % 4294967296) : c = d := by
 rw [Int.mul_comm, Int.mul_comm (2 * d + 1)] at h
 have := cancelM (v := 244002641) (by omega) h
 clear h
 omega
theorem step_injN {n m c : Int} (hn : 0 ≤ n ∧ n ≤ 4294967295) (hm : 0 ≤ m ∧ m ≤ 4294967295) (h : stepI n c = stepI m c) : n = m := by
 rw [step_eq, step_eq] at h
 refine inj3 hn hm ?_
 have h2 := Int.emod_nonneg (3 * n) (show (4294967296 : Int) ≠ 0 by decide)
 have h3 := Int.emod_lt_of_pos (3 * n) (show (0 : Int) < 4294967296 by decide)
 have h4 := Int.emod_nonneg (3 * m) (show (4294967296 : Int) ≠ 0 by decide)
 have h5 := Int.emod_lt_of_pos (3 * m) (show (0 : Int) < 4294967296 by decide)
 generalize 3 * n % 4294967296 = a at *
 generalize 3 * m % 4294967296 = b at *
 have := wI_in c
 generalize wI c = w at *
 omega
theorem wI_eq' {c : Int} (hc : 0 ≤ c ∧ c ≤ 255) : wI c = (2 * c + 1) * 2654435761 % 4294967296 := by
 rw [wI_eq, show (2 * c) % 4294967296 = 2 * c by omega, show (2 * c + 1) % 4294967296 = 2 * c + 1 by omega]
theorem wI_inj {c d : Int} (hc : 0 ≤ c ∧ c ≤ 255) (hd : 0 ≤ d ∧ d ≤ 255) (h : wI c = wI d) : c = d := by
 rw [wI_eq' hc, wI_eq' hd] at h
 exact injF hc hd h
theorem wI_odd {c : Int} (hc : 0 ≤ c ∧ c ≤ 255) : wI c % 2 = 1 := by
 rw [wI_eq' hc]; omega
theorem step_injC {n c d : Int} (hc : 0 ≤ c ∧ c ≤ 255) (hd : 0 ≤ d ∧ d ≤ 255) (h : stepI n c = stepI n d) : c = d := by
 refine wI_inj hc hd ?_
 rw [step_eq, step_eq] at h; have := wI_in c; have := wI_in d; omega
theorem sum_inj : ∀ (l : List Int) (n m : Int), (0 ≤ n ∧ n ≤ 4294967295) → (0 ≤ m ∧ m ≤ 4294967295) → sumN n l = sumN m l → n = m
 | [], n, m, _, _, h => h
 | c :: l, n, m, hn, hm, h => step_injN hn hm (sum_inj l (stepI n c) (stepI m c) (step_in _ _) (step_in _ _) h)
theorem sum_set {l : List Int} {k : Nat} {c : Int} (hk : k < l.length) (hl : ∀ x ∈ l, 0 ≤ x ∧ x ≤ 255) (hc : 0 ≤ c ∧ c ≤ 255) (h : sumN 0 (l.set k c) = sumN 0 l) : (l[k]?).getD 0 = c := by
 have e1 : l = l.take k ++ l[k] :: l.drop (k + 1) := by rw [← List.drop_eq_getElem_cons hk, List.take_append_drop]
 have e2 : l.set k c = l.take k ++ c :: l.drop (k + 1) := by rw [List.set_eq_take_append_cons_drop, if_pos hk]
 rw [e2] at h
 conv at h => rhs; rw [e1]
 rw [sum_app, sum_app] at h
 have h2 := sum_inj (l.drop (k + 1)) (stepI (sumN 0 (l.take k)) c) (stepI (sumN 0 (l.take k)) l[k]) (step_in _ _) (step_in _ _) h
 have h3 := step_injC hc (hl _ (List.getElem_mem hk)) h2
 rw [List.getElem?_eq_getElem hk, h3]; rfl
theorem set_same {l : List Int} {k : Nat} {c : Int} (hk : k < l.length) (h : (l[k]?).getD 0 = c) : l.set k c = l := by
 rw [List.getElem?_eq_getElem hk] at h
 have h : l[k] = c := h
 rw [← h]; exact List.set_getElem_self hk
theorem trip_mod (k : Nat) (a : Int) : tripI k (a % 4294967296) % 4294967296 = tripI k a % 4294967296 := by
 have h := trip_add k a 0
 have h0 : ∀ k, tripI k 0 = 0 := fun k => by induction k with
  | zero => rfl
  | succ k ih => simpa [tripI] using ih
 rw [h0, Int.add_zero, Int.add_zero] at h
 exact h
theorem sum_trip : ∀ (l : List Int) (n : Int), sumN n l % 4294967296 = (tripI l.length n + sumN 0 l) % 4294967296
 | [], n => by simp [sumN, tripI]
 | c :: l, n => by
  show sumN (stepI n c) l % _ = (tripI l.length (3 * n % 4294967296) + sumN (stepI 0 c) l) % _
  have h1 := sum_trip l (stepI n c)
  have h2 := sum_trip l (stepI 0 c)
  have e : stepI n c = (3 * n % 4294967296 + stepI 0 c) % 4294967296 := by rw [step_eq, step_eq]; omega
  have h3 := trip_add l.length (3 * n % 4294967296) (stepI 0 c)
  rw [← e] at h3
  omega
theorem trip15 (a : Int) : tripI 15 a % 4294967296 = a * 14348907 % 4294967296 := by
 simp only [tripI]; omega
theorem step0 (c : Int) : stepI 0 c = wI c := by rw [step_eq]; have := wI_in c; omega
theorem roll_sum (o c : Int) (l : List Int) (h : l.length = 15) : rollI (sumN 0 (o :: l)) o c = sumN 0 (l ++ [c]) := by
 rw [sum_app]
 show _ = stepI (sumN 0 l) c
 have h1 : sumN 0 (o :: l) = sumN (stepI 0 o) l := rfl
 have h2 := sum_trip l (stepI 0 o)
 have h3 := trip15 (wI o)
 rw [h, step0] at h2
 rw [step0] at h1
 rw [h1, step_eq]
 unfold rollI
 rw [add32, mul32, sub32, mul32]
 omega
theorem F8 (i t n : D) : F 8 (.list [i, .list [t, .list [n, .int 0]]]) = .int (tripI (t.toInt - i.toInt).toNat n.toInt) := rfl
theorem F9 (x o i : D) : F 9 (.list [x, .list [o, .list [i, .int 0]]]) = D.ofInts (ringN x.ints o.toInt (i.toInt - 1).toNat) := rfl
theorem F10 (i : D) : F 10 (.list [i, .int 0]) = .int ((i.toInt - 1).toNat : Nat) := rfl
theorem F11 (x o i : D) : F 11 (.list [x, .list [o, .list [i, .int 0]]]) = .int (winI x.ints o.toInt ((i.toInt - 1).toNat : Nat)) := rfl
theorem ring_len (x : List Int) (o : Int) : ∀ n, (ringN x o n).length = 16
 | 0 => by simp [ringN]
 | n + 1 => by simp [ringN, ring_len x o n]
theorem ring_get (x : List Int) (o : Int) : ∀ n j, j < n → n ≤ j + 16 → ((ringN x o n)[j % 16]?).getD 0 = (x[(o + j).toNat]?).getD 0
 | 0, j, h, _ => by omega
 | n + 1, j, h, g => by
  simp only [ringN]
  by_cases e : j = n
  ·subst e
   rw [List.getElem?_set_self (by rw [ring_len]; omega)]; rfl
  ·rw [List.getElem?_set_ne (by omega)]
   exact ring_get x o n j (by omega) (by omega)
theorem win_push {x : List Int} {o i : Int} (ho : 0 ≤ o) (h1 : 1 ≤ i) (h2 : i ≤ 16) (hx : o + i ≤ x.length) : stepI (winI x o ((i - 1).toNat : Nat)) ((x[(o + (i - 1)).toNat]?).getD 0) = sumN 0 (prt x o (o + i)) := by
 unfold winI
 rw [if_pos (by omega), show (((i - 1).toNat : Nat) : Int) = i - 1 by omega, prt_app (m := o + (i - 1)) (t := o + i) ho (by omega) (by omega) hx, sum_app, prt_step (o := o + (i - 1)) (by omega) (by omega) hx, prt_nil (o := o + (i - 1) + 1) (by omega) (by omega)]
 rfl
theorem win_roll {x : List Int} {o i : Int} (ho : 0 ≤ o) (h2 : 16 < i) (hx : o + i ≤ x.length) : rollI (winI x o ((i - 1).toNat : Nat)) (((ringN x o (i - 1).toNat)[((i - 1) % 16).toNat]?).getD 0) ((x[(o + (i - 1)).toNat]?).getD 0) = sumN 0 (prt x (o + (i - 16)) (o + i)) := by
 have hr := ring_get x o (i - 1).toNat ((i - 1).toNat - 16) (by omega) (by omega)
 rw [show ((i - 1).toNat - 16) % 16 = ((i - 1) % 16).toNat by omega] at hr
 rw [hr, show (o + (((i - 1).toNat - 16 : Nat) : Int)).toNat = (o + (i - 17)).toNat by omega]
 have e1 : winI x o ((i - 1).toNat : Nat) = sumN 0 (((x[(o + (i - 17)).toNat]?).getD 0) :: prt x (o + (i - 16)) (o + (i - 1))) := by
  unfold winI
  congr 1
  rw [show (((i - 1).toNat : Nat) : Int) = i - 1 by omega]
  split
  ·rw [prt_step (o := o) ho (by omega) (by omega), show o + (i - 17) = o by omega, show o + (i - 16) = o + 1 by omega]
  ·rw [prt_step (by omega) (by omega) (by omega), show o + (i - 1) - 16 = o + (i - 17) by omega, show o + (i - 17) + 1 = o + (i - 16) by omega]
 have e2 : prt x (o + (i - 16)) (o + i) = prt x (o + (i - 16)) (o + (i - 1)) ++ [((x[(o + (i - 1)).toNat]?).getD 0)] := by
  rw [prt_app (m := o + (i - 1)) (by omega) (by omega) (by omega) (by omega), prt_step (o := o + (i - 1)) (by omega) (by omega) (by omega), prt_nil (o := o + (i - 1) + 1) (by omega) (by omega)]
 have e3 := prt_length (x := x) (o := o + (i - 16)) (t := o + (i - 1)) (by omega) (by omega) (by omega)
 rw [e1, e2]
 exact roll_sum _ _ _ (by omega)
theorem F12 (x o n y p m : D) : F 12 (.list [x, .list [o, .list [n, .list [y, .list [p, .list [m, .int 0]]]]]]) = D.ofInts (ringL (twoI x.ints o.toInt n.toInt y.ints p.toInt m.toInt)) := rfl
theorem F13 (x o n y p m : D) : F 13 (.list [x, .list [o, .list [n, .list [y, .list [p, .list [m, .int 0]]]]]]) = .int (winL (twoI x.ints o.toInt n.toInt y.ints p.toInt m.toInt)) := rfl
theorem F15 (s n r c : D) : F 15 (.list [s, .list [n, .list [r, .list [c, .int 0]]]]) = .int (pushI s.toInt n.toInt r.ints c.toInt) := rfl
theorem ring_congr {x y : List Int} {o p : Int} : ∀ n, (∀ k : Nat, k < n → (x[(o + k).toNat]?).getD 0 = (y[(p + k).toNat]?).getD 0) → ringN x o n = ringN y p n
 | 0, _ => rfl
 | n + 1, h => by
  simp only [ringN]
  rw [ring_congr n fun k hk => h k (by omega), h n (by omega)]
theorem prt_get {x : List Int} {o t : Int} {k : Nat} (ho : 0 ≤ o) (h : o + k < t) : (prt x o t)[k]? = x[(o + k).toNat]? := by
 unfold prt
 rw [List.getElem?_drop, List.getElem?_take, if_pos (by omega)]
 congr 1; omega
theorem ringL_prt {x : List Int} {o n : Int} (ho : 0 ≤ o) (hn : 0 ≤ n) (hx : o + n ≤ x.length) : ringN x o n.toNat = ringL (prt x o (o + n)) := by
 unfold ringL
 have hl := prt_length (x := x) (o := o) (t := o + n) ho (by omega) hx
 rw [show (prt x o (o + n)).length = n.toNat by omega]
 refine ring_congr _ fun k hk => ?_
 rw [show ((0 : Int) + k).toNat = k by omega, prt_get ho (by omega)]
theorem winL_prt {x : List Int} {o n : Int} (ho : 0 ≤ o) (hn : 0 ≤ n) (hx : o + n ≤ x.length) : winI x o n = winL (prt x o (o + n)) := by
 have hl := prt_length (x := x) (o := o) (t := o + n) ho (by omega) hx
 unfold winL winI
 rw [hl]
 have e : ∀ a : Int, o ≤ a → prt x a (o + n) = prt (prt x o (o + n)) (a - o) n := by
  intro a ha
  have : prt (prt x o (o + n)) (a - o) n = (prt x o (o + n)).drop (a - o).toNat := by
   unfold prt
   rw [List.take_of_length_le (by simp; omega)]
  rw [this]
  unfold prt
  rw [List.drop_drop]
  congr 1; omega
 rw [show o + n - o = n by omega]
 simp only [Int.zero_add]
 split
 ·exact congrArg _ ((e o (by omega)).trans (by rw [show o - o = 0 by omega]))
 ·exact congrArg _ ((e (o + n - 16) (by omega)).trans (by rw [show o + n - 16 - o = n - 16 by omega]))
theorem ringL_snoc (l : List Int) (c : Int) : ringL (l ++ [c]) = (ringL l).set (l.length % 16) c := by
 unfold ringL
 rw [List.length_append, List.length_singleton]
 simp only [ringN]
 rw [ring_congr (x := l ++ [c]) (y := l) (o := 0) (p := 0) l.length fun k hk => by
  rw [List.getElem?_append_left (by omega)]]
 rw [List.getElem?_append_right (by omega)]
 simp
theorem winL_snoc (l : List Int) (c : Int) : pushI (winL l) l.length (ringL l) c = winL (l ++ [c]) := by
 have hx : (0 : Int) + ((l.length : Int) + 1) ≤ ((l ++ [c]).length : Nat) := by simp
 have hc : ((l ++ [c])[((0 : Int) + ((l.length : Int) + 1 - 1)).toNat]?).getD 0 = c := by
  rw [List.getElem?_append_right (by omega)]; simp
 have hw : winI (l ++ [c]) 0 (((l.length : Int) + 1 - 1).toNat : Nat) = winL l := by
  unfold winL winI
  rw [show ((((l.length : Int) + 1 - 1).toNat : Nat) : Int) = l.length by omega]
  have : ∀ a : Int, 0 ≤ a → prt (l ++ [c]) a (0 + l.length) = prt l a (0 + l.length) := by
   intro a _
   unfold prt
   rw [List.take_append_of_le_length (by omega)]
  split
  ·rw [this _ (by omega)]
  ·rw [this _ (by omega)]
 unfold pushI
 split
 ·have h := win_roll (x := l ++ [c]) (o := 0) (i := (l.length : Int) + 1) (by omega) (by omega) hx
  rw [hc, hw] at h
  have hr : ringN (l ++ [c]) 0 ((l.length : Int) + 1 - 1).toNat = ringL l := by
   unfold ringL
   rw [show ((l.length : Int) + 1 - 1).toNat = l.length by omega]
   exact ring_congr _ fun k hk => by rw [List.getElem?_append_left (by omega)]
  rw [hr, show (((l.length : Int) + 1 - 1) % 16) = (l.length : Int) % 16 by omega] at h
  rw [h]
  unfold winL winI
  rw [if_neg (by simp; omega)]
  congr 2
  ·first | (simp; done) | (simp; omega)
  ·first | (simp; done) | (simp; omega)
 ·have h := win_push (x := l ++ [c]) (o := 0) (i := (l.length : Int) + 1) (by omega) (by omega) (by omega) hx
  rw [hc, hw] at h
  rw [h]
  unfold winL winI
  rw [if_pos (by simp; omega)]
  congr 2
  simp
theorem two_step {x y : List Int} {o n p m : Int} (hp : 0 ≤ p) (hm : 0 ≤ m) (hy : p + (m + 1) ≤ y.length) : twoI x o n y p (m + 1) = twoI x o n y p m ++ [(y[(p + m).toNat]?).getD 0] := by
 unfold twoI
 rw [List.append_assoc, prt_app (m := p + m) (t := p + (m + 1)) hp (by omega) (by omega) hy, prt_step (o := p + m) (by omega) (by omega) hy, prt_nil (o := p + m + 1) (by omega) (by omega)]
theorem two_len {x y : List Int} {o n p m : Int} (ho : 0 ≤ o) (hn : 0 ≤ n) (hx : o + n ≤ x.length) (hp : 0 ≤ p) (hm : 0 ≤ m) (hy : p + m ≤ y.length) : ((twoI x o n y p m).length : Int) = n + m := by
 unfold twoI
 have h1 := prt_length (x := x) (o := o) (t := o + n) ho (by omega) hx
 have h2 := prt_length (x := y) (o := p) (t := p + m) hp (by omega) hy
 rw [List.length_append]; omega
theorem ringL_len (l : List Int) : (ringL l).length = 16 := ring_len _ _ _
theorem win_two {x y : List Int} {o n p m : Int} (ho : 0 ≤ o) (hn : 0 ≤ n) (hx : o + n ≤ x.length) (hp : 0 ≤ p) (hm : 16 ≤ m) (hy : p + m ≤ y.length) : winL (twoI x o n y p m) = sumN 0 (prt y (p + m - 16) (p + m)) := by
 have hl := two_len ho hn hx hp (by omega) hy
 have h1 := prt_length (x := x) (o := o) (t := o + n) ho (by omega) hx
 have h2 := prt_length (x := y) (o := p) (t := p + m) hp (by omega) hy
 unfold winL winI
 rw [hl]
 have e : prt (twoI x o n y p m) (n + m - 16) (n + m) = prt y (p + m - 16) (p + m) := by
  unfold twoI
  generalize prt x o (o + n) = A at *
  show ((A ++ prt y p (p + m)).take (n + m).toNat).drop (n + m - 16).toNat = _
  rw [List.take_of_length_le (by rw [List.length_append]; omega), List.drop_append, List.drop_eq_nil_of_le (by omega), List.nil_append]
  unfold prt
  rw [List.drop_drop]
  congr 1
  omega
 split
 ·rw [← e]; congr 2 <;> omega
 ·rw [← e]; congr 2 <;> omega
theorem F7 (x n : D) : F 7 (.list [x, .list [n, .int 0]]) = .int (x.toInt % n.toInt) := rfl
theorem F20 (x o t i n : D) : F 20 (.list [x, .list [o, .list [t, .list [i, .list [n, .int 0]]]]]) = D.ofInts (cutsT x.ints o.toInt t.toInt i.toInt n.toInt).1 := rfl
theorem F21 (x o t i n : D) : F 21 (.list [x, .list [o, .list [t, .list [i, .list [n, .int 0]]]]]) = .int (cutsT x.ints o.toInt t.toInt i.toInt n.toInt).2 := rfl
theorem F22 (x o t i n y : D) : F 22 (.list [x, .list [o, .list [t, .list [i, .list [n, .list [y, .int 0]]]]]]) = D.ofInts (lastL (cutsT x.ints o.toInt t.toInt i.toInt n.toInt).2 (y.ints ++ prt x.ints (o.toInt + i.toInt) (o.toInt + t.toInt))) := rfl
theorem F24 (s w : D) : F 24 (.list [s, .list [w, .int 0]]) = .int (sumL (s.ints.take w.toInt.toNat)) := rfl
theorem F25 (s : D) : F 25 (.list [s, .int 0]) = .int (if okL s.ints then 1 else 0) := rfl
theorem F23 (x o t : D) : F 23 (.list [x, .list [o, .list [t, .int 0]]]) = D.ofInts (allT x.ints o.toInt t.toInt) := rfl
theorem cuts_end {x : List Int} {o t i n : Int} (h : t ≤ i) : cutsT x o t i n = ([], n) := by
 unfold cutsT
 rw [show (t - i).toNat = 0 by omega]
 rfl
theorem cuts_step {x : List Int} {o t i n : Int} (h : i < t) : cutsT x o t i n = if endB x o (i + 1) (n + 1) then ((n + 1) :: (cutsT x o t (i + 1) 0).1, (cutsT x o t (i + 1) 0).2) else cutsT x o t (i + 1) (n + 1) := by
 unfold cutsT
 rw [show (t - i).toNat = (t - (i + 1)).toNat + 1 by omega]
 rfl
theorem cuts_yes {x : List Int} {o t i n : Int} (h : i < t) (e : n + 1 = 1024 ∨ 64 ≤ n + 1 ∧ winI x o (i + 1) < 16777216) : cutsT x o t i n = ((n + 1) :: (cutsT x o t (i + 1) 0).1, (cutsT x o t (i + 1) 0).2) := by
 rw [cuts_step h, if_pos (by simp only [endB, decide_eq_true_eq]; exact e)]
theorem cuts_no {x : List Int} {o t i n : Int} (h : i < t) (e : ¬ (n + 1 = 1024 ∨ 64 ≤ n + 1 ∧ winI x o (i + 1) < 16777216)) : cutsT x o t i n = cutsT x o t (i + 1) (n + 1) := by
 rw [cuts_step h, if_neg (by simp only [endB, decide_eq_true_eq]; exact e)]
theorem cutsN_in (x : List Int) (o : Int) : ∀ (r : Nat) (i n : Int), 0 ≤ n → 0 ≤ (cutsN x o r i n).2 ∧ (cutsN x o r i n).2 ≤ n + r
 | 0, i, n, h => by simp only [cutsN]; omega
 | r + 1, i, n, h => by
  simp only [cutsN]
  split
  ·have := cutsN_in x o r (i + 1) 0 (by omega)
   simp only; omega
  ·have := cutsN_in x o r (i + 1) (n + 1) (by omega)
   omega
theorem cuts_in {x : List Int} {o t i n : Int} (h : 0 ≤ n) (g : i ≤ t) : 0 ≤ (cutsT x o t i n).2 ∧ (cutsT x o t i n).2 ≤ n + (t - i) := by
 have := cutsN_in x o (t - i).toNat i n h
 unfold cutsT
 omega
theorem getT (d : D) (k : Nat) : (d.toList[k]?.getD (D.int 0)).toInt = d.ints[k]?.getD 0 := by
 rw [show d.ints = d.toList.map D.toInt from rfl, List.getElem?_map]
 cases d.toList[k]? <;> rfl
theorem ofInts0 : (D.ofInts []).toList = [] := rfl
theorem last_step {l m : List Int} {n : Int} (h : l = m) : lastL n l = lastL n m := by rw [h]
theorem last_cut {a b : List Int} {n : Int} (h : n ≤ b.length) : lastL n (a ++ b) = lastL n b := by
 unfold lastL
 rw [List.length_append, List.drop_append, List.drop_of_length_le (by omega), List.nil_append]
 congr 1
 omega
theorem last_cut3 {y P : List Int} {c m : Int} (h : m ≤ P.length) : lastL m P = lastL m (y ++ c :: P) := by
 rw [show y ++ c :: P = (y ++ [c]) ++ P by simp, last_cut h]
theorem last_all {l : List Int} {n : Int} (h : n = l.length) : lastL n l = l := by
 unfold lastL
 rw [h, show l.length - ((l.length : Int)).toNat = 0 by omega, List.drop_zero]
theorem push_all {x r : List Int} {o i s : Int} (ho : 0 ≤ o) (hi : 0 ≤ i) (hx : o + (i + 1) ≤ x.length) (hr : r = ringN x o i.toNat) (hs : s = winI x o i) :
  r.length = 16 ∧ pushI s i r (x[(o + i).toNat]?.getD 0) = winI x o (i + 1) ∧ ringN x o (i + 1).toNat = r.set (i % 16).toNat (x[(o + i).toNat]?.getD 0) := by
 have h1 := ringL_prt (x := x) (o := o) (n := i) (by omega) (by omega) (by omega)
 have h2 := winL_prt (x := x) (o := o) (n := i) (by omega) (by omega) (by omega)
 have h3 := ringL_prt (x := x) (o := o) (n := i + 1) (by omega) (by omega) (by omega)
 have h4 := winL_prt (x := x) (o := o) (n := i + 1) (by omega) (by omega) (by omega)
 have hl := prt_length (x := x) (o := o) (t := o + i) (by omega) (by omega) (by omega)
 have hp : prt x o (o + (i + 1)) = prt x o (o + i) ++ [(x[(o + i).toNat]?).getD 0] := by
  rw [prt_app (m := o + i) (by omega) (by omega) (by omega) (by omega), prt_step (o := o + i) (by omega) (by omega) (by omega), prt_nil (o := o + i + 1) (by omega) (by omega)]
 have hw := winL_snoc (prt x o (o + i)) ((x[(o + i).toNat]?).getD 0)
 have hg := ringL_snoc (prt x o (o + i)) ((x[(o + i).toNat]?).getD 0)
 rw [← hp, ← h1, ← h2, ← h4, hl, show o + i - o = i by omega] at hw
 rw [← hp, ← h1, ← h3, show (prt x o (o + i)).length % 16 = (i % 16).toNat by omega] at hg
 subst hr hs
 exact ⟨ring_len _ _ _, hw, hg⟩
theorem F30 (x o t i n l : D) : F 30 (.list [x, .list [o, .list [t, .list [i, .list [n, .list [l, .int 0]]]]]]) = .list (chT x o.toInt t.toInt i.toInt n.toInt l) := rfl
theorem F33 (x o t : D) : F 33 (.list [x, .list [o, .list [t, .int 0]]]) = .list (allC x o.toInt t.toInt) := rfl
theorem F34 (l i : D) : F 34 (.list [l, .list [i, .int 0]]) = D.ofInts (catL (l.toList.take i.toInt.toNat)) := rfl
theorem F35 (l i : D) : F 35 (.list [l, .list [i, .int 0]]) = .int (if fitsL (l.toList.drop i.toInt.toNat) then 1 else 0) := rfl
theorem F37 (g l : D) : F 37 (.list [g, .list [l, .int 0]]) = .int (if g.toList.map D.ints = l.toList.map D.ints then 1 else 0) := rfl
theorem F39 (g x t : D) : F 39 (.list [g, .list [x, .list [t, .int 0]]]) = .int (if g.toList.map D.ints = (chT x 0 t.toInt 0 0 (D.ofInts [])).map D.ints then 1 else 0) := rfl
theorem F40 (i m r : D) : F 40 (.list [i, .list [m, .list [r, .int 0]]]) = .int (if i.toInt ≤ m.toInt ∨ r.toInt = 0 then 1 else 0) := rfl
theorem F41 (x : D) : F 41 (.list [x, .int 0]) = D.ofInts x.ints := rfl
theorem F36 (c b : D) : F 36 (.list [c, .list [b, .int 0]]) = .int (if goodC c.ints (decide (b.toInt = 1)) then 1 else 0) := rfl
theorem chN_len (x : List Int) (y : List D) (o : Int) : ∀ (r : Nat) (i n : Int) (l : List D), (chN x y o r i n l).length = (cutsN x o r i n).1.length
 | 0, i, n, l => rfl
 | r + 1, i, n, l => by
  rw [chN, cutsN]
  split
  ·rw [List.length_cons, List.length_cons, chN_len]
  ·rw [chN_len]
theorem ch_len (x : D) (o t i n : Int) (l : D) : (chT x o t i n l).length = (cutsT x.ints o t i n).1.length := chN_len ..
theorem ch_end {x : D} {o t i n : Int} {l : D} (h : t ≤ i) : chT x o t i n l = [] := by
 unfold chT
 rw [show (t - i).toNat = 0 by omega]
 rfl
theorem ch_yes {x : D} {o t i n : Int} {l : D} (h : i < t) (e : n + 1 = 1024 ∨ 64 ≤ n + 1 ∧ winI x.ints o (i + 1) < 16777216) : chT x o t i n l = .list (l.toList ++ [x.toList[(o + i).toNat]?.getD (.int 0)]) :: chT x o t (i + 1) 0 (D.ofInts []) := by
 unfold chT
 rw [show (t - i).toNat = (t - (i + 1)).toNat + 1 by omega, chN, if_pos (by simp only [endB, decide_eq_true_eq]; exact e)]
 rfl
theorem ch_no {x : D} {o t i n : Int} {l : D} (h : i < t) (e : ¬ (n + 1 = 1024 ∨ 64 ≤ n + 1 ∧ winI x.ints o (i + 1) < 16777216)) : chT x o t i n l = chT x o t (i + 1) (n + 1) (.list (l.toList ++ [x.toList[(o + i).toNat]?.getD (.int 0)])) := by
 unfold chT
 rw [show (t - i).toNat = (t - (i + 1)).toNat + 1 by omega, chN, if_neg (by simp only [endB, decide_eq_true_eq]; exact e)]
 rfl
theorem list_back {d : D} (h : d.toList ≠ []) : D.list d.toList = d := by
 cases d with
 | int n => exact absurd rfl h
 | list l => rfl
theorem cg : type_of% ((And.intro @ints_list (And.intro @List.map_cons.{0, 0} (And.intro @List.map_append.{0, 0} (And.intro @List.map_nil.{0, 0} (And.intro @map_ints (And.intro @D.toList_list (And.intro @D.toInt_int (And.intro @D.ints_ofInts (And.intro @List.cons_append.{0} (And.intro @List.append_assoc.{0} (And.intro @List.nil_append.{0} (And.intro @List.length_cons.{0} (And.intro @List.length_append.{0} @List.length_nil.{0})))))))))))))) := (And.intro @ints_list (And.intro @List.map_cons.{0, 0} (And.intro @List.map_append.{0, 0} (And.intro @List.map_nil.{0, 0} (And.intro @map_ints (And.intro @D.toList_list (And.intro @D.toInt_int (And.intro @D.ints_ofInts (And.intro @List.cons_append.{0} (And.intro @List.append_assoc.{0} (And.intro @List.nil_append.{0} (And.intro @List.length_cons.{0} (And.intro @List.length_append.{0} @List.length_nil.{0})))))))))))))
theorem comm {x r : List Int} {o i t s k : Int} (ho : 0 ≤ o) (hi : 0 ≤ i) (h : i < t) (ht : o + t ≤ x.length) (hr : r = ringN x o (i + 1 - 1).toNat) (hs : s = winI x o ((i + 1 - 1).toNat : Nat)) (hk : k = i) :
  (16 ≤ i → rollI s ((r[(i % 16).toNat]?).getD 0) (x[(o + i).toNat]?.getD 0) = winI x o (i + 1)) ∧ (¬16 ≤ i → stepI s (x[(o + i).toNat]?.getD 0) = winI x o (i + 1)) ∧ r.length = 16 ∧ ringN x o (i + 1).toNat = r.set (i % 16).toNat (x[(o + i).toNat]?.getD 0) ∧
  prt x (o + i) (o + t) = x[(o + i).toNat]?.getD 0 :: prt x (o + (i + 1)) (o + t) ∧ ((prt x (o + (i + 1)) (o + t)).length : Int) = o + t - (o + (i + 1)) ∧ (i + 1 + 1 - 1).toNat = (i + 1).toNat ∧ (((i + 1 + 1 - 1).toNat : Nat) : Int) = i + 1 ∧ ((i + 1).toNat : Int) = i + 1 ∧ iopI .rem .i64 k 16 = i % 16 := by
 rw [show (i + 1 - 1).toNat = i.toNat by omega] at hr hs
 rw [show ((i.toNat : Nat) : Int) = i by omega] at hs
 obtain ⟨el, hw, hg⟩ := push_all (x := x) (o := o) (i := i) ho hi (by omega) hr hs
 refine ⟨fun f => ?_, fun f => ?_, el, hg, ?_, prt_length (by omega) (by omega) (by omega), by omega, by omega, by omega, by rw [hk, rem_emod _ hi]⟩
 ·unfold pushI at hw
  rw [if_pos f] at hw
  exact hw
 ·unfold pushI at hw
  rw [if_neg f] at hw
  exact hw
 ·rw [prt_step (o := o + i) (by omega) (by omega) (by omega), Int.add_assoc]
theorem lfy {X : D} {o t i n : Int} {l : D} (h : i < t) (e : n + 1 = 1024 ∨ 64 ≤ n + 1 ∧ winI X.ints o (i + 1) < 16777216) : cutsT X.ints o t i n = ((n + 1) :: (cutsT X.ints o t (i + 1) 0).1, (cutsT X.ints o t (i + 1) 0).2) ∧ chT X o t i n l = .list (l.toList ++ [X.toList[(o + i).toNat]?.getD (.int 0)]) :: chT X o t (i + 1) 0 (D.ofInts []) ∧ 0 ≤ (cutsT X.ints o t (i + 1) 0).2 ∧ (cutsT X.ints o t (i + 1) 0).2 ≤ 0 + (t - (i + 1)) :=
 ⟨cuts_yes h e, ch_yes h e, cuts_in (Int.le_refl 0) h⟩
theorem lfn {X : D} {o t i n : Int} {l : D} (h : i < t) (e : ¬ (n + 1 = 1024 ∨ 64 ≤ n + 1 ∧ winI X.ints o (i + 1) < 16777216)) : cutsT X.ints o t i n = cutsT X.ints o t (i + 1) (n + 1) ∧ chT X o t i n l = chT X o t (i + 1) (n + 1) (.list (l.toList ++ [X.toList[(o + i).toNat]?.getD (.int 0)])) ∧ 0 ≤ (cutsT X.ints o t (i + 1) 0).2 ∧ (cutsT X.ints o t (i + 1) 0).2 ≤ 0 + (t - (i + 1)) :=
 ⟨cuts_no h e, ch_no h e, cuts_in (Int.le_refl 0) h⟩
theorem gq : type_of% ((And.intro @F9 (And.intro @F11 (And.intro @F20 (And.intro @F21 (And.intro @F22 @F30)))))) := (And.intro @F9 (And.intro @F11 (And.intro @F20 (And.intro @F21 (And.intro @F22 @F30)))))

noncomputable def gA00 : LSpec := { n := 41, next := 9, pat := [(0, .yieldf 5), (2, .ptr 13 0), (6, .sslice 17 (.var 3) (.var 4) (.var 5) false), (7, .sint .i64 (.var 4)), (8, .sint .i64 (.var 0))], rows := [zGa17, zGa2, zGa5, zGa16, zGa11, zGa26, zGa25], pre := [(.le (.int 0) (.var 0), true), (.le (.var 0) (.var 4), true), (.le (.int 0) (.var 3), true), (.le zGa30 (.var 6), true), (.le (.var 4) (.var 5), true), (.le (.var 4) (.int 20000), true), (.same (.var 7) (.fn 9 txGa12), true), (.eq (.var 8) (.var 0), true), (.eq (.var 9) (.fn 11 txGa12), true), (.le (.int 1) (.fn 21 zGa27), true), (.le (.int 1) txGa27, false)], x := 0, fin := [], frows := [zGa17, zGa9, zGa5, zGa16, zGa11, zGa26, zGa42], same := [1, 5, 7, 9, 13, 15], chg := [0, 2, 5, 6, 7, 8, 9, 10, 11, 12, 13, 14, 15, 16, 17, 18, 19, 20, 21, 22, 23, 24, 25, 26, 27, 28, 29, 30, 31, 32, 33, 34, 35, 36, 37, 38, 39, 40] }
noncomputable def gA10 : LSpec := { n := 41, next := 9, pat := [(0, .yieldf 5), (2, .ptr 13 0), (6, .sslice 17 (.var 3) (.var 4) (.var 5) false), (7, .sint .i64 (.var 4)), (8, .sint .i64 (.var 0))], rows := [zGa17, zGa1, zGa5, zGa16, zGa11, zGa26, zGa25, zGa35], pre := [(.le (.int 0) (.var 0), true), (.le (.var 0) (.var 4), true), (.le (.int 0) (.var 3), true), (.le zGa30 (.var 6), true), (.le (.var 4) (.var 5), true), (.le (.var 4) (.int 20000), true), (.same (.var 7) (.fn 9 txGa12), true), (.eq (.var 8) (.var 0), true), (.eq (.var 9) (.fn 11 txGa12), true), (.le (.int 1) (.var 1), true), (.le (.var 1) (.int 1023), true), (.le (.var 1) (.var 0), true), (.le (.int 1) zGa20, true), (.le (.int 1) txGa28, false)], x := 0, fin := [], frows := [zGa17, zGa10, zGa5, zGa16, zGa11, zGa26, zGa37], same := [1, 5, 7, 9, 13, 15], chg := [0, 2, 5, 6, 7, 8, 9, 10, 11, 12, 13, 14, 15, 16, 17, 18, 19, 20, 21, 22, 23, 24, 25, 26, 27, 28, 29, 30, 31, 32, 33, 34, 35, 36, 37, 38, 39, 40] }
noncomputable def gA : Nat → LSpec
 | 0 => gA00
 | _ => gA10
abbrev asGa0 : Q × Bool := ((.le (.var 4) (.var 0)), false)
abbrev asGa1 : Q × Bool := ((.le (.int 0) (.var 0)), true)
abbrev asGa2 : Q × Bool := ((.le (.int 0) zGa58), true)
abbrev asGa3 : Q × Bool := ((.le (.var 6) zGa58), false)
abbrev asGa4 : Q × Bool := ((.le (.int 0) zGa41), true)
abbrev asGa5 : Q × Bool := ((.le (.int 16) zGa41), false)
abbrev asGa6 : Q × Bool := ((.le (.int 16) (.var 8)), false)
abbrev asGa7 : Q × Bool := ((.le (.int 16) (.un .len (.var 7))), true)
abbrev asGa8 : Q × Bool := ((.fit .i64 zGa6), true)
abbrev asGa9 : Q × Bool := ((.fit .i64 zGa3), true)
def gA00_t0 : List (Q × Bool) := [asGa0, asGa1, asGa2, asGa3, asGa4, asGa5, asGa6, asGa7, asGa8, asGa9]
def gA00_d0 : List Duty := [zGa8, zGa8, zGa8, zGa24]
def gA00_h0 : List (Nat × E) := [(10, zGa15), (6, (.var 6)), (2, (.var 2)), (1, (.int 1)), (9, txGa44), (8, zGa6), (7, txGa21), (0, zGa3), (3, (.var 3)), (4, (.var 4)), (5, (.var 5))]
theorem gA00_h0_a : lookE gA00_h0 0 = zGa3 ∧ lookE gA00_h0 1 = (.int 1) ∧ lookE gA00_h0 2 = (.var 2) ∧ lookE gA00_h0 3 = (.var 3) ∧ lookE gA00_h0 4 = (.var 4) ∧ lookE gA00_h0 5 = (.var 5) ∧ lookE gA00_h0 6 = (.var 6) ∧ lookE gA00_h0 7 = txGa21 ∧ lookE gA00_h0 8 = zGa6 ∧ lookE gA00_h0 9 = txGa44 ∧ lookE gA00_h0 10 = zGa15 := ⟨rfl, rfl, rfl, rfl, rfl, rfl, rfl, rfl, rfl, rfl, rfl⟩
theorem gA00_y0 : nextJ (gA 0) (gA 1) gA00_h0 [(9, 9), (7, 7), (15, 15), (3, 21), (1, 1), (17, 17), (13, 13), (5, 5)] (roundC Try.prog [] [] [] 3000 40 26 [4, 1] (tellA gA00_t0) (gA 0)) = some gA00_d0 := by kernel_rfl
abbrev asGa10 : Q × Bool := ((.le (.int 16) (.var 8)), true)
def gA00_t1 : List (Q × Bool) := [asGa0, asGa1, asGa2, asGa3, asGa4, asGa5, asGa10, asGa7, asGa8, asGa9]
def gA00_d1 : List Duty := [zGa8, zGa8, zGa8, zGa24]
def gA00_h1 : List (Nat × E) := [(10, zGa15), (6, (.var 6)), (2, (.var 2)), (1, (.int 1)), (9, zGa7), (8, zGa6), (7, txGa21), (0, zGa3), (3, (.var 3)), (4, (.var 4)), (5, (.var 5))]
theorem gA00_h1_a : lookE gA00_h1 0 = zGa3 ∧ lookE gA00_h1 1 = (.int 1) ∧ lookE gA00_h1 2 = (.var 2) ∧ lookE gA00_h1 3 = (.var 3) ∧ lookE gA00_h1 4 = (.var 4) ∧ lookE gA00_h1 5 = (.var 5) ∧ lookE gA00_h1 6 = (.var 6) ∧ lookE gA00_h1 7 = txGa21 ∧ lookE gA00_h1 8 = zGa6 ∧ lookE gA00_h1 9 = zGa7 ∧ lookE gA00_h1 10 = zGa15 := ⟨rfl, rfl, rfl, rfl, rfl, rfl, rfl, rfl, rfl, rfl, rfl⟩
theorem gA00_y1 : nextJ (gA 0) (gA 1) gA00_h1 [(9, 9), (7, 7), (15, 15), (3, 21), (1, 1), (17, 17), (13, 13), (5, 5)] (roundC Try.prog [] [] [] 3000 40 26 [4, 1] (tellA gA00_t1) (gA 0)) = some gA00_d1 := by kernel_rfl
abbrev asGa11 : Q × Bool := ((.le (.int 1) (.var 1)), true)
abbrev asGa12 : Q × Bool := ((.le (.bi .mul zGa12 (.int 2)) (.int 281474976710656)), true)
abbrev asGa13 : Q × Bool := ((.fit .i64 zGa12), true)
abbrev asGa14 : Q × Bool := ((.le (.int 1) zGa12), true)
abbrev asGa15 : Q × Bool := ((.eq zGa12 (.int 1024)), false)
abbrev asGa16 : Q × Bool := ((.le (.int 64) zGa12), false)
def gA10_t0 : List (Q × Bool) := [asGa0, asGa1, asGa2, asGa3, asGa11, asGa12, asGa13, asGa4, asGa5, asGa6, asGa7, asGa8, asGa14, asGa15, asGa16, asGa9]
def gA10_d0 : List Duty := [zGa0, zGa0, zGa0, zGa19]
def gA10_h0 : List (Nat × E) := [(10, txGa20), (6, (.var 6)), (2, (.var 2)), (1, zGa12), (9, txGa44), (8, zGa6), (7, txGa21), (0, zGa3), (3, (.var 3)), (4, (.var 4)), (5, (.var 5))]
theorem gA10_h0_a : lookE gA10_h0 0 = zGa3 ∧ lookE gA10_h0 1 = zGa12 ∧ lookE gA10_h0 2 = (.var 2) ∧ lookE gA10_h0 3 = (.var 3) ∧ lookE gA10_h0 4 = (.var 4) ∧ lookE gA10_h0 5 = (.var 5) ∧ lookE gA10_h0 6 = (.var 6) ∧ lookE gA10_h0 7 = txGa21 ∧ lookE gA10_h0 8 = zGa6 ∧ lookE gA10_h0 9 = txGa44 ∧ lookE gA10_h0 10 = txGa20 := ⟨rfl, rfl, rfl, rfl, rfl, rfl, rfl, rfl, rfl, rfl, rfl⟩
theorem gA10_y0 : nextJ (gA 1) (gA 1) gA10_h0 [(9, 9), (7, 7), (15, 15), (3, 21), (1, 1), (17, 17), (13, 13), (5, 5)] (roundC Try.prog [] [] [] 3000 40 26 [4, 1] (tellA gA10_t0) (gA 1)) = some gA10_d0 := by kernel_rfl
def gA10_t1 : List (Q × Bool) := [asGa0, asGa1, asGa2, asGa3, asGa11, asGa12, asGa13, asGa4, asGa5, asGa10, asGa7, asGa8, asGa14, asGa15, asGa16, asGa9]
def gA10_d1 : List Duty := [zGa0, zGa0, zGa0, zGa19]
def gA10_h1 : List (Nat × E) := [(10, txGa20), (6, (.var 6)), (2, (.var 2)), (1, zGa12), (9, zGa7), (8, zGa6), (7, txGa21), (0, zGa3), (3, (.var 3)), (4, (.var 4)), (5, (.var 5))]
theorem gA10_h1_a : lookE gA10_h1 0 = zGa3 ∧ lookE gA10_h1 1 = zGa12 ∧ lookE gA10_h1 2 = (.var 2) ∧ lookE gA10_h1 3 = (.var 3) ∧ lookE gA10_h1 4 = (.var 4) ∧ lookE gA10_h1 5 = (.var 5) ∧ lookE gA10_h1 6 = (.var 6) ∧ lookE gA10_h1 7 = txGa21 ∧ lookE gA10_h1 8 = zGa6 ∧ lookE gA10_h1 9 = zGa7 ∧ lookE gA10_h1 10 = txGa20 := ⟨rfl, rfl, rfl, rfl, rfl, rfl, rfl, rfl, rfl, rfl, rfl⟩
theorem gA10_y1 : nextJ (gA 1) (gA 1) gA10_h1 [(9, 9), (7, 7), (15, 15), (3, 21), (1, 1), (17, 17), (13, 13), (5, 5)] (roundC Try.prog [] [] [] 3000 40 26 [4, 1] (tellA gA10_t1) (gA 1)) = some gA10_d1 := by kernel_rfl
abbrev asGa17 : Q × Bool := ((.le (.int 64) zGa12), true)
abbrev asGa18 : Q × Bool := ((.le (.int 16777216) zGa7), true)
def gA10_t2 : List (Q × Bool) := [asGa0, asGa1, asGa2, asGa3, asGa11, asGa12, asGa13, asGa4, asGa5, asGa10, asGa7, asGa8, asGa14, asGa15, asGa17, asGa18, asGa9]
def gA10_d2 : List Duty := [zGa0, zGa0, zGa0, zGa19]
def gA10_h2 : List (Nat × E) := [(10, txGa20), (6, (.var 6)), (2, (.var 2)), (1, zGa12), (9, zGa7), (8, zGa6), (7, txGa21), (0, zGa3), (3, (.var 3)), (4, (.var 4)), (5, (.var 5))]
theorem gA10_h2_a : lookE gA10_h2 0 = zGa3 ∧ lookE gA10_h2 1 = zGa12 ∧ lookE gA10_h2 2 = (.var 2) ∧ lookE gA10_h2 3 = (.var 3) ∧ lookE gA10_h2 4 = (.var 4) ∧ lookE gA10_h2 5 = (.var 5) ∧ lookE gA10_h2 6 = (.var 6) ∧ lookE gA10_h2 7 = txGa21 ∧ lookE gA10_h2 8 = zGa6 ∧ lookE gA10_h2 9 = zGa7 ∧ lookE gA10_h2 10 = txGa20 := ⟨rfl, rfl, rfl, rfl, rfl, rfl, rfl, rfl, rfl, rfl, rfl⟩
theorem gA10_y2 : nextJ (gA 1) (gA 1) gA10_h2 [(9, 9), (7, 7), (15, 15), (3, 21), (1, 1), (17, 17), (13, 13), (5, 5)] (roundC Try.prog [] [] [] 3000 40 26 [4, 1] (tellA gA10_t2) (gA 1)) = some gA10_d2 := by kernel_rfl
abbrev asGa19 : Q × Bool := ((.le (.var 4) (.var 0)), true)
def gA10_t3 : List (Q × Bool) := [asGa19]
def gA10_d3 : List Duty := [dqGa (.var 7) (.fn 9 txGa13) 0, dqGa (.var 7) (.fn 9 txGa13) 1, dqGa (.var 7) (.fn 9 txGa13) 2, dqGa (.var 7) (.fn 9 txGa13) 3, dqGa (.var 7) (.fn 9 txGa13) 4, dqGa (.var 7) (.fn 9 txGa13) 5, dqGa (.var 7) (.fn 9 txGa13) 6, dqGa (.var 7) (.fn 9 txGa13) 7, dqGa (.var 7) (.fn 9 txGa13) 8, dqGa (.var 7) (.fn 9 txGa13) 9, dqGa (.var 7) (.fn 9 txGa13) 10, dqGa (.var 7) (.fn 9 txGa13) 11, dqGa (.var 7) (.fn 9 txGa13) 12, dqGa (.var 7) (.fn 9 txGa13) 13, dqGa (.var 7) (.fn 9 txGa13) 14, dqGa (.var 7) (.fn 9 txGa13) 15, zGa60, zGa57, (true, (.var 1), zGa20), (true, (.var 1), zGa20), (true, (.var 1), zGa20), (false, (.var 10), (.fn 22 txGa29))]
theorem gA10_y3 : endD (gA 1) [(3, 3), (1, 1), (5, 5), (7, 7), (9, 9), (13, 13), (15, 15)] 1000 (roundC Try.prog [] [] [] 3000 40 26 [4, 1] (tellA gA10_t3) (gA 1)) = some gA10_d3 := by kernel_rfl
set_option maxHeartbeats 16000000 in
theorem gA_holds : ∀ i, i < 2 → LHolds Try.prog (loopAt Try.prog 26 [4, 1]) (gA i) F := by
 refine loop_famC sound (tableNil _ _) (specsNil _ _) (oversNil _ _) (fuel := 3000) (depth := 40) (by kernel_rfl) (fun i d => match i with | 0 => ((d 4).toInt - (d 0).toInt).toNat | _ => ((d 4).toInt - (d 0).toInt).toNat) ?_
 intro i hi d hp hR hA
 match i, hi with
 | 0, _ =>
   have hp := allTold'_iff.2 hp
   simp only [gA, gA00, tl] at hp hR hA
   simp only [gq, D.toInt_int, D.ints_ofInts, UO.den] at hp
   obtain ⟨p1, p2, p3, p4, p5, p6, p7, p8, p9, pf, pz⟩ := hp
   have hb : True := trivial
   by_cases h : (d 4).toInt ≤ (d 0).toInt
   ·exfalso
    have ce := cuts_end (x := (d 2).ints) (o := (d 3).toInt) (t := (d 4).toInt) (i := (d 0).toInt) (n := 0) (by omega)
    simp only [ce, List.length_nil] at pf pz
    all_goals omega
   ·obtain ⟨wf, wn, el, hr, hy, hz, e6, e7, e8, er⟩ := comm p3 p1 (by omega : (d 0).toInt < (d 4).toInt) (by omega) p7 p9 p8
    have ly := @lfy (d 2) (d 3).toInt (d 4).toInt (d 0).toInt (0) (D.ofInts []) (by omega)
    have ln := @lfn (d 2) (d 3).toInt (d 4).toInt (d 0).toInt (0) (D.ofInts []) (by omega)
    simp only [rollI, stepI, wI] at wf wn
    rw [show (0 : Int) + 1 = 1 from rfl] at ly ln
    by_cases f : 16 ≤ (d 0).toInt
    ·have hw := wf f
     obtain ⟨cn, cc, ci⟩ := ln (by omega)
     rw [cn] at pf pz
     refine ⟨tellA gA00_t1, tellA_ok (allTold'_iff.1 ?_), .inr ⟨1, gA00_h1, _, _, by decide, gA00_y1, dutiesTold_ok ?_, allTold'_iff.1 ?_, ?_⟩⟩
     all_goals (try simp only [gA00_t1, gA00_d1, gA, gA00, gA10, gA00_h1_a, gq, er, hw, e6, e8, cn, cc, tl]); all_goals try simp only [hy, getT, ofInts0, cg]
     all_goals first | done | omega | (and_intros <;> first | exact True.intro | rfl | omega | exact hr.symm | exact last_cut3 (by omega) | assumption)
    ·have hw := wn f
     obtain ⟨cn, cc, ci⟩ := ln (by omega)
     rw [cn] at pf pz
     refine ⟨tellA gA00_t0, tellA_ok (allTold'_iff.1 ?_), .inr ⟨1, gA00_h0, _, _, by decide, gA00_y0, dutiesTold_ok ?_, allTold'_iff.1 ?_, ?_⟩⟩
     all_goals (try simp only [gA00_t0, gA00_d0, gA, gA00, gA10, gA00_h0_a, gq, er, hw, e6, e8, cn, cc, tl]); all_goals try simp only [hy, getT, ofInts0, cg]
     all_goals first | done | omega | (and_intros <;> first | exact True.intro | rfl | omega | exact hr.symm | exact last_cut3 (by omega) | assumption)
 | 1, _ =>
   have hp := allTold'_iff.2 hp
   simp only [gA, gA10, tl] at hp hR hA
   simp only [gq, D.toInt_int, D.ints_ofInts, UO.den] at hp
   obtain ⟨p1, p2, p3, p4, p5, p6, p7, p8, p9, p10, p11, p12, pf, pz⟩ := hp
   have hb : True := trivial
   by_cases h : (d 4).toInt ≤ (d 0).toInt
   ·have ce := cuts_end (x := (d 2).ints) (o := (d 3).toInt) (t := (d 4).toInt) (i := (d 0).toInt) (n := (d 1).toInt) (by omega)
    have cf := ch_end (x := d 2) (o := (d 3).toInt) (t := (d 4).toInt) (i := (d 0).toInt) (n := (d 1).toInt) (l := (d 10)) (by omega)
    have i4 : (d 0).toInt = (d 4).toInt := by omega
    rw [← i4] at ce cf
    refine ⟨tellA gA10_t3, tellA_ok (allTold'_iff.1 ?_), .inl ⟨_, _, _, gA10_y3, dutiesTold_ok ?_⟩⟩
    ·simp only [gA10_t3, tl]
     omega
    ·simp only [gA10_d3, gq, tl]
     (try simp only [← i4, ce, cf, p7, Int.natCast_zero, Int.add_zero, prt_nil (x := (d 2).ints) (o := (d 3).toInt + (d 0).toInt) (t := (d 3).toInt + (d 0).toInt) (by omega) (by omega), List.append_nil, List.length_nil, D.ints_ofInts]); first | done | (and_intros <;> first | exact True.intro | rfl | omega | exact (last_all (by omega)) | exact (last_all (by omega)).symm | (rw [list_back hb]; done) | exact (congrArg D.code (list_back hb)).symm | assumption)
   ·obtain ⟨wf, wn, el, hr, hy, hz, e6, e7, e8, er⟩ := comm p3 p1 (by omega : (d 0).toInt < (d 4).toInt) (by omega) p7 p9 p8
    have ly := @lfy (d 2) (d 3).toInt (d 4).toInt (d 0).toInt (d 1).toInt (d 10) (by omega)
    have ln := @lfn (d 2) (d 3).toInt (d 4).toInt (d 0).toInt (d 1).toInt (d 10) (by omega)
    simp only [rollI, stepI, wI] at wf wn
    by_cases q : (d 1).toInt + 1 < 64
    ·by_cases f : 16 ≤ (d 0).toInt
     ·have hw := wf f
      obtain ⟨cn, cc, ci⟩ := ln (by omega)
      rw [cn] at pf pz
      refine ⟨tellA gA10_t1, tellA_ok (allTold'_iff.1 ?_), .inr ⟨1, gA10_h1, _, _, by decide, gA10_y1, dutiesTold_ok ?_, allTold'_iff.1 ?_, ?_⟩⟩
      all_goals (try simp only [gA10_t1, gA10_d1, gA, gA00, gA10, gA10_h1_a, gq, er, hw, e6, e8, cn, cc, tl]); all_goals try simp only [hy, getT, ofInts0, cg]
      all_goals first | done | omega | (and_intros <;> first | exact True.intro | rfl | omega | exact hr.symm | exact last_cut3 (by omega) | assumption)
     ·have hw := wn f
      obtain ⟨cn, cc, ci⟩ := ln (by omega)
      rw [cn] at pf pz
      refine ⟨tellA gA10_t0, tellA_ok (allTold'_iff.1 ?_), .inr ⟨1, gA10_h0, _, _, by decide, gA10_y0, dutiesTold_ok ?_, allTold'_iff.1 ?_, ?_⟩⟩
      all_goals (try simp only [gA10_t0, gA10_d0, gA, gA00, gA10, gA10_h0_a, gq, er, hw, e6, e8, cn, cc, tl]); all_goals try simp only [hy, getT, ofInts0, cg]
      all_goals first | done | omega | (and_intros <;> first | exact True.intro | rfl | omega | exact hr.symm | exact last_cut3 (by omega) | assumption)
    ·have hw := wf (by omega)
     by_cases g : (d 1).toInt + 1 = 1024
     ·exfalso
      obtain ⟨cn, cc, ci⟩ := ly (by omega)
      simp only [cn, List.length_cons] at pz
      omega
     ·by_cases w : winI (d 2).ints (d 3).toInt ((d 0).toInt + 1) < 16777216
      ·exfalso
       obtain ⟨cn, cc, ci⟩ := ly (by omega)
       simp only [cn, List.length_cons] at pz
       omega
      ·obtain ⟨cn, cc, ci⟩ := ln (by omega)
       rw [cn] at pf pz
       refine ⟨tellA gA10_t2, tellA_ok (allTold'_iff.1 ?_), .inr ⟨1, gA10_h2, _, _, by decide, gA10_y2, dutiesTold_ok ?_, allTold'_iff.1 ?_, ?_⟩⟩
       all_goals (try simp only [gA10_t2, gA10_d2, gA, gA00, gA10, gA10_h2_a, gq, er, hw, e6, e8, cn, cc, tl]); all_goals try simp only [hy, getT, ofInts0, cg]
       all_goals first | done | omega | (and_intros <;> first | exact True.intro | rfl | omega | exact hr.symm | exact last_cut3 (by omega) | assumption)
theorem gA00_holds : LHolds Try.prog (loopAt Try.prog 26 [4, 1]) gA00 F := gA_holds 0 (by decide)
theorem gA10_holds : LHolds Try.prog (loopAt Try.prog 26 [4, 1]) gA10 F := gA_holds 1 (by decide)

noncomputable def gB00 : LSpec := { n := 41, next := 9, pat := [(0, .yieldf 5), (2, .ptr 13 0), (6, .sslice 17 (.var 3) (.var 4) (.var 5) false), (7, .sint .i64 (.var 4)), (8, .sint .i64 (.var 0))], rows := [zGa17, zGa2, zGa5, zGa16, zGa11, zGa26, zGa25], pre := [(.le (.int 0) (.var 0), true), (.le (.var 0) (.var 4), true), (.le (.int 0) (.var 3), true), (.le zGa30 (.var 6), true), (.le (.var 4) (.var 5), true), (.le (.var 4) (.int 20000), true), (.same (.var 7) (.fn 9 txGa12), true), (.eq (.var 8) (.var 0), true), (.eq (.var 9) (.fn 11 txGa12), true), (.le (.int 1) (.fn 21 zGa27), false), (.le (.int 1) txGa27, true)], x := 0, fin := [], frows := [zGa17, zGa4, zGa5, zGa16, zGa11, zGa55, zGa48], same := [1, 5, 7, 9, 13, 15], chg := [0, 2, 5, 6, 7, 8, 9, 10, 11, 12, 13, 14, 15, 16, 17, 18, 19, 20, 21, 22, 23, 24, 25, 26, 27, 28, 29, 30, 31, 32, 33, 34, 35, 36, 37, 38, 39, 40] }
noncomputable def gB01 : LSpec := { n := 41, next := 9, pat := [(0, .yieldf 5), (2, .ptr 13 0), (6, .sslice 17 (.var 3) (.var 4) (.var 5) false), (7, .sint .i64 (.var 4)), (8, .sint .i64 (.var 0))], rows := [zGa17, zGa2, zGa5, zGa16, zGa11, zGa29, zGa25, zGa36], pre := [(.le (.int 0) (.var 0), true), (.le (.var 0) (.var 4), true), (.le (.int 0) (.var 3), true), (.le zGa30 (.var 6), true), (.le (.var 4) (.var 5), true), (.le (.var 4) (.int 20000), true), (.same (.var 7) (.fn 9 txGa12), true), (.eq (.var 8) (.var 0), true), (.eq (.var 9) (.fn 11 txGa12), true), (.le (.int 1) (.var 11), true), (.le (.var 11) (.var 0), true), (.le (.int 1) (.fn 21 zGa27), false)], x := 0, fin := [], frows := [zGa17, zGa4, zGa5, zGa16, zGa11, zGa53, zGa43], same := [1, 5, 7, 9, 13, 15], chg := [0, 2, 5, 6, 7, 8, 9, 10, 11, 12, 13, 14, 15, 16, 17, 18, 19, 20, 21, 22, 23, 24, 25, 26, 27, 28, 29, 30, 31, 32, 33, 34, 35, 36, 37, 38, 39, 40] }
noncomputable def gB10 : LSpec := { n := 41, next := 9, pat := [(0, .yieldf 5), (2, .ptr 13 0), (6, .sslice 17 (.var 3) (.var 4) (.var 5) false), (7, .sint .i64 (.var 4)), (8, .sint .i64 (.var 0))], rows := [zGa17, zGa1, zGa5, zGa16, zGa11, zGa26, zGa25, zGa35], pre := [(.le (.int 0) (.var 0), true), (.le (.var 0) (.var 4), true), (.le (.int 0) (.var 3), true), (.le zGa30 (.var 6), true), (.le (.var 4) (.var 5), true), (.le (.var 4) (.int 20000), true), (.same (.var 7) (.fn 9 txGa12), true), (.eq (.var 8) (.var 0), true), (.eq (.var 9) (.fn 11 txGa12), true), (.le (.int 1) (.var 1), true), (.le (.var 1) (.int 1023), true), (.le (.var 1) (.var 0), true), (.le (.int 1) zGa20, false), (.le (.int 1) txGa28, true)], x := 0, fin := [], frows := [zGa17, zGa4, zGa5, zGa16, zGa11, zGa56, zGa49], same := [1, 5, 7, 9, 13, 15], chg := [0, 2, 5, 6, 7, 8, 9, 10, 11, 12, 13, 14, 15, 16, 17, 18, 19, 20, 21, 22, 23, 24, 25, 26, 27, 28, 29, 30, 31, 32, 33, 34, 35, 36, 37, 38, 39, 40] }
noncomputable def gB11 : LSpec := { n := 41, next := 9, pat := [(0, .yieldf 5), (2, .ptr 13 0), (6, .sslice 17 (.var 3) (.var 4) (.var 5) false), (7, .sint .i64 (.var 4)), (8, .sint .i64 (.var 0))], rows := [zGa17, zGa1, zGa5, zGa16, zGa11, zGa29, zGa25, zGa35, zGa36], pre := [(.le (.int 0) (.var 0), true), (.le (.var 0) (.var 4), true), (.le (.int 0) (.var 3), true), (.le zGa30 (.var 6), true), (.le (.var 4) (.var 5), true), (.le (.var 4) (.int 20000), true), (.same (.var 7) (.fn 9 txGa12), true), (.eq (.var 8) (.var 0), true), (.eq (.var 9) (.fn 11 txGa12), true), (.le (.int 1) (.var 1), true), (.le (.var 1) (.int 1023), true), (.le (.var 1) (.var 0), true), (.le (.int 1) (.var 11), true), (.le (.var 11) (.var 0), true), (.le (.int 1) zGa20, false)], x := 0, fin := [], frows := [zGa17, zGa4, zGa5, zGa16, zGa11, zGa54, zGa44], same := [1, 5, 7, 9, 13, 15], chg := [0, 2, 5, 6, 7, 8, 9, 10, 11, 12, 13, 14, 15, 16, 17, 18, 19, 20, 21, 22, 23, 24, 25, 26, 27, 28, 29, 30, 31, 32, 33, 34, 35, 36, 37, 38, 39, 40] }
noncomputable def gB : Nat → LSpec
 | 0 => gB00
 | 1 => gB01
 | 2 => gB10
 | _ => gB11
def gB00_t0 : List (Q × Bool) := [asGa0, asGa1, asGa2, asGa3, asGa4, asGa5, asGa6, asGa7, asGa8, asGa9]
def gB00_d0 : List Duty := [zGa22, zGa22, zGa22, zGa40]
def gB00_h0 : List (Nat × E) := [(10, zGa15), (6, (.var 6)), (2, (.var 2)), (1, (.int 1)), (9, txGa44), (8, zGa6), (7, txGa21), (0, zGa3), (3, (.var 3)), (4, (.var 4)), (5, (.var 5))]
theorem gB00_h0_a : lookE gB00_h0 0 = zGa3 ∧ lookE gB00_h0 1 = (.int 1) ∧ lookE gB00_h0 2 = (.var 2) ∧ lookE gB00_h0 3 = (.var 3) ∧ lookE gB00_h0 4 = (.var 4) ∧ lookE gB00_h0 5 = (.var 5) ∧ lookE gB00_h0 6 = (.var 6) ∧ lookE gB00_h0 7 = txGa21 ∧ lookE gB00_h0 8 = zGa6 ∧ lookE gB00_h0 9 = txGa44 ∧ lookE gB00_h0 10 = zGa15 := ⟨rfl, rfl, rfl, rfl, rfl, rfl, rfl, rfl, rfl, rfl, rfl⟩
theorem gB00_y0 : nextJ (gB 0) (gB 2) gB00_h0 [(9, 9), (7, 7), (15, 15), (3, 21), (1, 1), (17, 17), (13, 13), (5, 5)] (roundC Try.prog [] [] [] 3000 40 26 [4, 1] (tellA gB00_t0) (gB 0)) = some gB00_d0 := by kernel_rfl
def gB00_t1 : List (Q × Bool) := [asGa0, asGa1, asGa2, asGa3, asGa4, asGa5, asGa10, asGa7, asGa8, asGa9]
def gB00_d1 : List Duty := [zGa22, zGa22, zGa22, zGa40]
def gB00_h1 : List (Nat × E) := [(10, zGa15), (6, (.var 6)), (2, (.var 2)), (1, (.int 1)), (9, zGa7), (8, zGa6), (7, txGa21), (0, zGa3), (3, (.var 3)), (4, (.var 4)), (5, (.var 5))]
theorem gB00_h1_a : lookE gB00_h1 0 = zGa3 ∧ lookE gB00_h1 1 = (.int 1) ∧ lookE gB00_h1 2 = (.var 2) ∧ lookE gB00_h1 3 = (.var 3) ∧ lookE gB00_h1 4 = (.var 4) ∧ lookE gB00_h1 5 = (.var 5) ∧ lookE gB00_h1 6 = (.var 6) ∧ lookE gB00_h1 7 = txGa21 ∧ lookE gB00_h1 8 = zGa6 ∧ lookE gB00_h1 9 = zGa7 ∧ lookE gB00_h1 10 = zGa15 := ⟨rfl, rfl, rfl, rfl, rfl, rfl, rfl, rfl, rfl, rfl, rfl⟩
theorem gB00_y1 : nextJ (gB 0) (gB 2) gB00_h1 [(9, 9), (7, 7), (15, 15), (3, 21), (1, 1), (17, 17), (13, 13), (5, 5)] (roundC Try.prog [] [] [] 3000 40 26 [4, 1] (tellA gB00_t1) (gB 0)) = some gB00_d1 := by kernel_rfl
def gB01_t0 : List (Q × Bool) := [asGa0, asGa1, asGa2, asGa3, asGa4, asGa5, asGa6, asGa7, asGa8, asGa9]
def gB01_d0 : List Duty := [zGa21, zGa21, zGa21, zGa45]
def gB01_h0 : List (Nat × E) := [(12, (.var 12)), (10, zGa15), (6, (.var 6)), (2, (.var 2)), (11, (.var 11)), (1, (.int 1)), (9, txGa44), (8, zGa6), (7, txGa21), (0, zGa3), (3, (.var 3)), (4, (.var 4)), (5, (.var 5))]
theorem gB01_h0_a : lookE gB01_h0 0 = zGa3 ∧ lookE gB01_h0 1 = (.int 1) ∧ lookE gB01_h0 2 = (.var 2) ∧ lookE gB01_h0 3 = (.var 3) ∧ lookE gB01_h0 4 = (.var 4) ∧ lookE gB01_h0 5 = (.var 5) ∧ lookE gB01_h0 6 = (.var 6) ∧ lookE gB01_h0 7 = txGa21 ∧ lookE gB01_h0 8 = zGa6 ∧ lookE gB01_h0 9 = txGa44 ∧ lookE gB01_h0 10 = zGa15 ∧ lookE gB01_h0 11 = (.var 11) ∧ lookE gB01_h0 12 = (.var 12) := ⟨rfl, rfl, rfl, rfl, rfl, rfl, rfl, rfl, rfl, rfl, rfl, rfl, rfl⟩
theorem gB01_y0 : nextJ (gB 1) (gB 3) gB01_h0 [(11, 11), (9, 9), (7, 7), (15, 15), (3, 21), (1, 1), (17, 17), (13, 13), (5, 5)] (roundC Try.prog [] [] [] 3000 40 26 [4, 1] (tellA gB01_t0) (gB 1)) = some gB01_d0 := by kernel_rfl
def gB01_t1 : List (Q × Bool) := [asGa0, asGa1, asGa2, asGa3, asGa4, asGa5, asGa10, asGa7, asGa8, asGa9]
def gB01_d1 : List Duty := [zGa21, zGa21, zGa21, zGa45]
def gB01_h1 : List (Nat × E) := [(12, (.var 12)), (10, zGa15), (6, (.var 6)), (2, (.var 2)), (11, (.var 11)), (1, (.int 1)), (9, zGa7), (8, zGa6), (7, txGa21), (0, zGa3), (3, (.var 3)), (4, (.var 4)), (5, (.var 5))]
theorem gB01_h1_a : lookE gB01_h1 0 = zGa3 ∧ lookE gB01_h1 1 = (.int 1) ∧ lookE gB01_h1 2 = (.var 2) ∧ lookE gB01_h1 3 = (.var 3) ∧ lookE gB01_h1 4 = (.var 4) ∧ lookE gB01_h1 5 = (.var 5) ∧ lookE gB01_h1 6 = (.var 6) ∧ lookE gB01_h1 7 = txGa21 ∧ lookE gB01_h1 8 = zGa6 ∧ lookE gB01_h1 9 = zGa7 ∧ lookE gB01_h1 10 = zGa15 ∧ lookE gB01_h1 11 = (.var 11) ∧ lookE gB01_h1 12 = (.var 12) := ⟨rfl, rfl, rfl, rfl, rfl, rfl, rfl, rfl, rfl, rfl, rfl, rfl, rfl⟩
theorem gB01_y1 : nextJ (gB 1) (gB 3) gB01_h1 [(11, 11), (9, 9), (7, 7), (15, 15), (3, 21), (1, 1), (17, 17), (13, 13), (5, 5)] (roundC Try.prog [] [] [] 3000 40 26 [4, 1] (tellA gB01_t1) (gB 1)) = some gB01_d1 := by kernel_rfl
def gB01_t2 : List (Q × Bool) := [asGa19]
def gB01_d2 : List Duty := [dqGa (.var 7) (.fn 9 txGa13) 0, dqGa (.var 7) (.fn 9 txGa13) 1, dqGa (.var 7) (.fn 9 txGa13) 2, dqGa (.var 7) (.fn 9 txGa13) 3, dqGa (.var 7) (.fn 9 txGa13) 4, dqGa (.var 7) (.fn 9 txGa13) 5, dqGa (.var 7) (.fn 9 txGa13) 6, dqGa (.var 7) (.fn 9 txGa13) 7, dqGa (.var 7) (.fn 9 txGa13) 8, dqGa (.var 7) (.fn 9 txGa13) 9, dqGa (.var 7) (.fn 9 txGa13) 10, dqGa (.var 7) (.fn 9 txGa13) 11, dqGa (.var 7) (.fn 9 txGa13) 12, dqGa (.var 7) (.fn 9 txGa13) 13, dqGa (.var 7) (.fn 9 txGa13) 14, dqGa (.var 7) (.fn 9 txGa13) 15, zGa60, zGa57, (true, (.var 11), txGa38), (true, (.var 11), txGa38), (true, (.var 11), txGa38), (false, (.un .code (.var 12)), txGa40)]
theorem gB01_y2 : endD (gB 1) [(11, 11), (1, 1), (5, 5), (7, 7), (9, 9), (13, 13), (15, 15)] 1000 (roundC Try.prog [] [] [] 3000 40 26 [4, 1] (tellA gB01_t2) (gB 1)) = some gB01_d2 := by kernel_rfl
def gB10_t0 : List (Q × Bool) := [asGa0, asGa1, asGa2, asGa3, asGa11, asGa12, asGa13, asGa4, asGa5, asGa6, asGa7, asGa8, asGa14, asGa15, asGa16, asGa9]
def gB10_d0 : List Duty := [(true, txGa51, zGa14), (true, txGa51, zGa14), (true, txGa51, zGa14), (false, txGa52, zGa31)]
def gB10_h0 : List (Nat × E) := [(10, txGa20), (6, (.var 6)), (2, (.var 2)), (1, zGa12), (9, txGa44), (8, zGa6), (7, txGa21), (0, zGa3), (3, (.var 3)), (4, (.var 4)), (5, (.var 5))]
theorem gB10_h0_a : lookE gB10_h0 0 = zGa3 ∧ lookE gB10_h0 1 = zGa12 ∧ lookE gB10_h0 2 = (.var 2) ∧ lookE gB10_h0 3 = (.var 3) ∧ lookE gB10_h0 4 = (.var 4) ∧ lookE gB10_h0 5 = (.var 5) ∧ lookE gB10_h0 6 = (.var 6) ∧ lookE gB10_h0 7 = txGa21 ∧ lookE gB10_h0 8 = zGa6 ∧ lookE gB10_h0 9 = txGa44 ∧ lookE gB10_h0 10 = txGa20 := ⟨rfl, rfl, rfl, rfl, rfl, rfl, rfl, rfl, rfl, rfl, rfl⟩
theorem gB10_y0 : nextJ (gB 2) (gB 2) gB10_h0 [(9, 9), (7, 7), (15, 15), (3, 21), (1, 1), (17, 17), (13, 13), (5, 5)] (roundC Try.prog [] [] [] 3000 40 26 [4, 1] (tellA gB10_t0) (gB 2)) = some gB10_d0 := by kernel_rfl
def gB10_t1 : List (Q × Bool) := [asGa0, asGa1, asGa2, asGa3, asGa11, asGa12, asGa13, asGa4, asGa5, asGa10, asGa7, asGa8, asGa14, asGa15, asGa16, asGa9]
def gB10_d1 : List Duty := [(true, txGa51, zGa14), (true, txGa51, zGa14), (true, txGa51, zGa14), (false, txGa52, zGa31)]
def gB10_h1 : List (Nat × E) := [(10, txGa20), (6, (.var 6)), (2, (.var 2)), (1, zGa12), (9, zGa7), (8, zGa6), (7, txGa21), (0, zGa3), (3, (.var 3)), (4, (.var 4)), (5, (.var 5))]
theorem gB10_h1_a : lookE gB10_h1 0 = zGa3 ∧ lookE gB10_h1 1 = zGa12 ∧ lookE gB10_h1 2 = (.var 2) ∧ lookE gB10_h1 3 = (.var 3) ∧ lookE gB10_h1 4 = (.var 4) ∧ lookE gB10_h1 5 = (.var 5) ∧ lookE gB10_h1 6 = (.var 6) ∧ lookE gB10_h1 7 = txGa21 ∧ lookE gB10_h1 8 = zGa6 ∧ lookE gB10_h1 9 = zGa7 ∧ lookE gB10_h1 10 = txGa20 := ⟨rfl, rfl, rfl, rfl, rfl, rfl, rfl, rfl, rfl, rfl, rfl⟩
theorem gB10_y1 : nextJ (gB 2) (gB 2) gB10_h1 [(9, 9), (7, 7), (15, 15), (3, 21), (1, 1), (17, 17), (13, 13), (5, 5)] (roundC Try.prog [] [] [] 3000 40 26 [4, 1] (tellA gB10_t1) (gB 2)) = some gB10_d1 := by kernel_rfl
def gB10_t2 : List (Q × Bool) := [asGa0, asGa1, asGa2, asGa3, asGa11, asGa12, asGa13, asGa4, asGa5, asGa10, asGa7, asGa8, asGa14, asGa15, asGa17, asGa18, asGa9]
def gB10_d2 : List Duty := [(true, txGa51, zGa14), (true, txGa51, zGa14), (true, txGa51, zGa14), (false, txGa52, zGa31)]
def gB10_h2 : List (Nat × E) := [(10, txGa20), (6, (.var 6)), (2, (.var 2)), (1, zGa12), (9, zGa7), (8, zGa6), (7, txGa21), (0, zGa3), (3, (.var 3)), (4, (.var 4)), (5, (.var 5))]
theorem gB10_h2_a : lookE gB10_h2 0 = zGa3 ∧ lookE gB10_h2 1 = zGa12 ∧ lookE gB10_h2 2 = (.var 2) ∧ lookE gB10_h2 3 = (.var 3) ∧ lookE gB10_h2 4 = (.var 4) ∧ lookE gB10_h2 5 = (.var 5) ∧ lookE gB10_h2 6 = (.var 6) ∧ lookE gB10_h2 7 = txGa21 ∧ lookE gB10_h2 8 = zGa6 ∧ lookE gB10_h2 9 = zGa7 ∧ lookE gB10_h2 10 = txGa20 := ⟨rfl, rfl, rfl, rfl, rfl, rfl, rfl, rfl, rfl, rfl, rfl⟩
theorem gB10_y2 : nextJ (gB 2) (gB 2) gB10_h2 [(9, 9), (7, 7), (15, 15), (3, 21), (1, 1), (17, 17), (13, 13), (5, 5)] (roundC Try.prog [] [] [] 3000 40 26 [4, 1] (tellA gB10_t2) (gB 2)) = some gB10_d2 := by kernel_rfl
abbrev asGa20 : Q × Bool := ((.le (.int 16777216) zGa7), false)
def gB10_t3 : List (Q × Bool) := [asGa0, asGa1, asGa2, asGa3, asGa11, asGa12, asGa13, asGa4, asGa5, asGa10, asGa7, asGa8, asGa14, asGa15, asGa17, asGa20, asGa9]
def gB10_d3 : List Duty := [zGa23, zGa23, zGa23, zGa47]
def gB10_h3 : List (Nat × E) := [(12, zGa32), (6, (.var 6)), (2, (.var 2)), (11, (.int 1)), (9, zGa7), (8, zGa6), (7, txGa21), (0, zGa3), (3, (.var 3)), (4, (.var 4)), (5, (.var 5))]
theorem gB10_h3_a : lookE gB10_h3 0 = zGa3 ∧ lookE gB10_h3 2 = (.var 2) ∧ lookE gB10_h3 3 = (.var 3) ∧ lookE gB10_h3 4 = (.var 4) ∧ lookE gB10_h3 5 = (.var 5) ∧ lookE gB10_h3 6 = (.var 6) ∧ lookE gB10_h3 7 = txGa21 ∧ lookE gB10_h3 8 = zGa6 ∧ lookE gB10_h3 9 = zGa7 ∧ lookE gB10_h3 11 = (.int 1) ∧ lookE gB10_h3 12 = zGa32 := ⟨rfl, rfl, rfl, rfl, rfl, rfl, rfl, rfl, rfl, rfl, rfl⟩
theorem gB10_y3 : nextJ (gB 2) (gB 1) gB10_h3 [(11, 25), (9, 9), (7, 7), (15, 15), (1, 1), (17, 17), (13, 13), (5, 5)] (roundC Try.prog [] [] [] 3000 40 26 [4, 1] (tellA gB10_t3) (gB 2)) = some gB10_d3 := by kernel_rfl
abbrev asGa21 : Q × Bool := ((.eq zGa12 (.int 1024)), true)
def gB10_t4 : List (Q × Bool) := [asGa0, asGa1, asGa2, asGa3, asGa11, asGa12, asGa13, asGa4, asGa5, asGa10, asGa7, asGa8, asGa14, asGa21, asGa9]
def gB10_d4 : List Duty := [zGa23, zGa23, zGa23, zGa47]
def gB10_h4 : List (Nat × E) := [(12, zGa32), (6, (.var 6)), (2, (.var 2)), (11, (.int 1)), (9, zGa7), (8, zGa6), (7, txGa21), (0, zGa3), (3, (.var 3)), (4, (.var 4)), (5, (.var 5))]
theorem gB10_h4_a : lookE gB10_h4 0 = zGa3 ∧ lookE gB10_h4 2 = (.var 2) ∧ lookE gB10_h4 3 = (.var 3) ∧ lookE gB10_h4 4 = (.var 4) ∧ lookE gB10_h4 5 = (.var 5) ∧ lookE gB10_h4 6 = (.var 6) ∧ lookE gB10_h4 7 = txGa21 ∧ lookE gB10_h4 8 = zGa6 ∧ lookE gB10_h4 9 = zGa7 ∧ lookE gB10_h4 11 = (.int 1) ∧ lookE gB10_h4 12 = zGa32 := ⟨rfl, rfl, rfl, rfl, rfl, rfl, rfl, rfl, rfl, rfl, rfl⟩
theorem gB10_y4 : nextJ (gB 2) (gB 1) gB10_h4 [(11, 25), (9, 9), (7, 7), (15, 15), (1, 1), (17, 17), (13, 13), (5, 5)] (roundC Try.prog [] [] [] 3000 40 26 [4, 1] (tellA gB10_t4) (gB 2)) = some gB10_d4 := by kernel_rfl
def gB11_t0 : List (Q × Bool) := [asGa0, asGa1, asGa2, asGa3, asGa11, asGa12, asGa13, asGa4, asGa5, asGa6, asGa7, asGa8, asGa14, asGa15, asGa16, asGa9]
def gB11_d0 : List Duty := [zGa18, zGa18, zGa18, zGa38]
def gB11_h0 : List (Nat × E) := [(12, (.var 12)), (10, txGa20), (6, (.var 6)), (2, (.var 2)), (11, (.var 11)), (1, zGa12), (9, txGa44), (8, zGa6), (7, txGa21), (0, zGa3), (3, (.var 3)), (4, (.var 4)), (5, (.var 5))]
theorem gB11_h0_a : lookE gB11_h0 0 = zGa3 ∧ lookE gB11_h0 1 = zGa12 ∧ lookE gB11_h0 2 = (.var 2) ∧ lookE gB11_h0 3 = (.var 3) ∧ lookE gB11_h0 4 = (.var 4) ∧ lookE gB11_h0 5 = (.var 5) ∧ lookE gB11_h0 6 = (.var 6) ∧ lookE gB11_h0 7 = txGa21 ∧ lookE gB11_h0 8 = zGa6 ∧ lookE gB11_h0 9 = txGa44 ∧ lookE gB11_h0 10 = txGa20 ∧ lookE gB11_h0 11 = (.var 11) ∧ lookE gB11_h0 12 = (.var 12) := ⟨rfl, rfl, rfl, rfl, rfl, rfl, rfl, rfl, rfl, rfl, rfl, rfl, rfl⟩
theorem gB11_y0 : nextJ (gB 3) (gB 3) gB11_h0 [(11, 11), (9, 9), (7, 7), (15, 15), (3, 21), (1, 1), (17, 17), (13, 13), (5, 5)] (roundC Try.prog [] [] [] 3000 40 26 [4, 1] (tellA gB11_t0) (gB 3)) = some gB11_d0 := by kernel_rfl
def gB11_t1 : List (Q × Bool) := [asGa0, asGa1, asGa2, asGa3, asGa11, asGa12, asGa13, asGa4, asGa5, asGa10, asGa7, asGa8, asGa14, asGa15, asGa16, asGa9]
def gB11_d1 : List Duty := [zGa18, zGa18, zGa18, zGa38]
def gB11_h1 : List (Nat × E) := [(12, (.var 12)), (10, txGa20), (6, (.var 6)), (2, (.var 2)), (11, (.var 11)), (1, zGa12), (9, zGa7), (8, zGa6), (7, txGa21), (0, zGa3), (3, (.var 3)), (4, (.var 4)), (5, (.var 5))]
theorem gB11_h1_a : lookE gB11_h1 0 = zGa3 ∧ lookE gB11_h1 1 = zGa12 ∧ lookE gB11_h1 2 = (.var 2) ∧ lookE gB11_h1 3 = (.var 3) ∧ lookE gB11_h1 4 = (.var 4) ∧ lookE gB11_h1 5 = (.var 5) ∧ lookE gB11_h1 6 = (.var 6) ∧ lookE gB11_h1 7 = txGa21 ∧ lookE gB11_h1 8 = zGa6 ∧ lookE gB11_h1 9 = zGa7 ∧ lookE gB11_h1 10 = txGa20 ∧ lookE gB11_h1 11 = (.var 11) ∧ lookE gB11_h1 12 = (.var 12) := ⟨rfl, rfl, rfl, rfl, rfl, rfl, rfl, rfl, rfl, rfl, rfl, rfl, rfl⟩
theorem gB11_y1 : nextJ (gB 3) (gB 3) gB11_h1 [(11, 11), (9, 9), (7, 7), (15, 15), (3, 21), (1, 1), (17, 17), (13, 13), (5, 5)] (roundC Try.prog [] [] [] 3000 40 26 [4, 1] (tellA gB11_t1) (gB 3)) = some gB11_d1 := by kernel_rfl
def gB11_t2 : List (Q × Bool) := [asGa0, asGa1, asGa2, asGa3, asGa11, asGa12, asGa13, asGa4, asGa5, asGa10, asGa7, asGa8, asGa14, asGa15, asGa17, asGa18, asGa9]
def gB11_d2 : List Duty := [zGa18, zGa18, zGa18, zGa38]
def gB11_h2 : List (Nat × E) := [(12, (.var 12)), (10, txGa20), (6, (.var 6)), (2, (.var 2)), (11, (.var 11)), (1, zGa12), (9, zGa7), (8, zGa6), (7, txGa21), (0, zGa3), (3, (.var 3)), (4, (.var 4)), (5, (.var 5))]
theorem gB11_h2_a : lookE gB11_h2 0 = zGa3 ∧ lookE gB11_h2 1 = zGa12 ∧ lookE gB11_h2 2 = (.var 2) ∧ lookE gB11_h2 3 = (.var 3) ∧ lookE gB11_h2 4 = (.var 4) ∧ lookE gB11_h2 5 = (.var 5) ∧ lookE gB11_h2 6 = (.var 6) ∧ lookE gB11_h2 7 = txGa21 ∧ lookE gB11_h2 8 = zGa6 ∧ lookE gB11_h2 9 = zGa7 ∧ lookE gB11_h2 10 = txGa20 ∧ lookE gB11_h2 11 = (.var 11) ∧ lookE gB11_h2 12 = (.var 12) := ⟨rfl, rfl, rfl, rfl, rfl, rfl, rfl, rfl, rfl, rfl, rfl, rfl, rfl⟩
theorem gB11_y2 : nextJ (gB 3) (gB 3) gB11_h2 [(11, 11), (9, 9), (7, 7), (15, 15), (3, 21), (1, 1), (17, 17), (13, 13), (5, 5)] (roundC Try.prog [] [] [] 3000 40 26 [4, 1] (tellA gB11_t2) (gB 3)) = some gB11_d2 := by kernel_rfl
abbrev asGa22 : Q × Bool := ((.le (.bi .mul zGa28 (.int 48)) (.int 281474976710656)), true)
def gB11_t3 : List (Q × Bool) := [asGa0, asGa1, asGa2, asGa3, asGa11, asGa12, asGa13, asGa4, asGa5, asGa10, asGa7, asGa8, asGa14, asGa15, asGa17, asGa20, asGa22, asGa9]
def gB11_d3 : List Duty := [(true, txGa45, txGa36), (true, txGa45, txGa36), (true, txGa45, txGa36), zGa46]
def gB11_h3 : List (Nat × E) := [(12, zGa33), (6, (.var 6)), (2, (.var 2)), (11, zGa28), (9, zGa7), (8, zGa6), (7, txGa21), (0, zGa3), (3, (.var 3)), (4, (.var 4)), (5, (.var 5))]
theorem gB11_h3_a : lookE gB11_h3 0 = zGa3 ∧ lookE gB11_h3 2 = (.var 2) ∧ lookE gB11_h3 3 = (.var 3) ∧ lookE gB11_h3 4 = (.var 4) ∧ lookE gB11_h3 5 = (.var 5) ∧ lookE gB11_h3 6 = (.var 6) ∧ lookE gB11_h3 7 = txGa21 ∧ lookE gB11_h3 8 = zGa6 ∧ lookE gB11_h3 9 = zGa7 ∧ lookE gB11_h3 11 = zGa28 ∧ lookE gB11_h3 12 = zGa33 := ⟨rfl, rfl, rfl, rfl, rfl, rfl, rfl, rfl, rfl, rfl, rfl⟩
theorem gB11_y3 : nextJ (gB 3) (gB 1) gB11_h3 [(11, 25), (9, 9), (7, 7), (15, 15), (1, 1), (17, 17), (13, 13), (5, 5)] (roundC Try.prog [] [] [] 3000 40 26 [4, 1] (tellA gB11_t3) (gB 3)) = some gB11_d3 := by kernel_rfl
def gB11_t4 : List (Q × Bool) := [asGa0, asGa1, asGa2, asGa3, asGa11, asGa12, asGa13, asGa4, asGa5, asGa10, asGa7, asGa8, asGa14, asGa21, asGa22, asGa9]
def gB11_d4 : List Duty := [(true, txGa45, txGa36), (true, txGa45, txGa36), (true, txGa45, txGa36), zGa46]
def gB11_h4 : List (Nat × E) := [(12, zGa33), (6, (.var 6)), (2, (.var 2)), (11, zGa28), (9, zGa7), (8, zGa6), (7, txGa21), (0, zGa3), (3, (.var 3)), (4, (.var 4)), (5, (.var 5))]
theorem gB11_h4_a : lookE gB11_h4 0 = zGa3 ∧ lookE gB11_h4 2 = (.var 2) ∧ lookE gB11_h4 3 = (.var 3) ∧ lookE gB11_h4 4 = (.var 4) ∧ lookE gB11_h4 5 = (.var 5) ∧ lookE gB11_h4 6 = (.var 6) ∧ lookE gB11_h4 7 = txGa21 ∧ lookE gB11_h4 8 = zGa6 ∧ lookE gB11_h4 9 = zGa7 ∧ lookE gB11_h4 11 = zGa28 ∧ lookE gB11_h4 12 = zGa33 := ⟨rfl, rfl, rfl, rfl, rfl, rfl, rfl, rfl, rfl, rfl, rfl⟩
theorem gB11_y4 : nextJ (gB 3) (gB 1) gB11_h4 [(11, 25), (9, 9), (7, 7), (15, 15), (1, 1), (17, 17), (13, 13), (5, 5)] (roundC Try.prog [] [] [] 3000 40 26 [4, 1] (tellA gB11_t4) (gB 3)) = some gB11_d4 := by kernel_rfl
set_option maxHeartbeats 16000000 in
theorem gB_holds : ∀ i, i < 4 → LHolds Try.prog (loopAt Try.prog 26 [4, 1]) (gB i) F := by
 refine loop_famC sound (tableNil _ _) (specsNil _ _) (oversNil _ _) (fuel := 3000) (depth := 40) (by kernel_rfl) (fun i d => match i with | 0 => ((d 4).toInt - (d 0).toInt).toNat | 1 => ((d 4).toInt - (d 0).toInt).toNat | 2 => ((d 4).toInt - (d 0).toInt).toNat | _ => ((d 4).toInt - (d 0).toInt).toNat) ?_
 intro i hi d hp hR hA
 match i, hi with
 | 0, _ =>
   have hp := allTold'_iff.2 hp
   simp only [gB, gB00, tl] at hp hR hA
   simp only [gq, D.toInt_int, D.ints_ofInts, UO.den] at hp
   obtain ⟨p1, p2, p3, p4, p5, p6, p7, p8, p9, pf, pz⟩ := hp
   have hb : True := trivial
   by_cases h : (d 4).toInt ≤ (d 0).toInt
   ·exfalso
    have ce := cuts_end (x := (d 2).ints) (o := (d 3).toInt) (t := (d 4).toInt) (i := (d 0).toInt) (n := 0) (by omega)
    simp only [ce, List.length_nil] at pf pz
    all_goals omega
   ·obtain ⟨wf, wn, el, hr, hy, hz, e6, e7, e8, er⟩ := comm p3 p1 (by omega : (d 0).toInt < (d 4).toInt) (by omega) p7 p9 p8
    have ly := @lfy (d 2) (d 3).toInt (d 4).toInt (d 0).toInt (0) (D.ofInts []) (by omega)
    have ln := @lfn (d 2) (d 3).toInt (d 4).toInt (d 0).toInt (0) (D.ofInts []) (by omega)
    simp only [rollI, stepI, wI] at wf wn
    rw [show (0 : Int) + 1 = 1 from rfl] at ly ln
    by_cases f : 16 ≤ (d 0).toInt
    ·have hw := wf f
     obtain ⟨cn, cc, ci⟩ := ln (by omega)
     rw [cn] at pf pz
     refine ⟨tellA gB00_t1, tellA_ok (allTold'_iff.1 ?_), .inr ⟨2, gB00_h1, _, _, by decide, gB00_y1, dutiesTold_ok ?_, allTold'_iff.1 ?_, ?_⟩⟩
     all_goals (try simp only [gB00_t1, gB00_d1, gB, gB00, gB01, gB10, gB11, gB00_h1_a, gq, er, hw, e6, e8, cn, cc, tl]); all_goals try simp only [hy, getT, ofInts0, cg]
     all_goals first | done | omega | (and_intros <;> first | exact True.intro | rfl | omega | exact hr.symm | exact last_cut3 (by omega) | assumption)
    ·have hw := wn f
     obtain ⟨cn, cc, ci⟩ := ln (by omega)
     rw [cn] at pf pz
     refine ⟨tellA gB00_t0, tellA_ok (allTold'_iff.1 ?_), .inr ⟨2, gB00_h0, _, _, by decide, gB00_y0, dutiesTold_ok ?_, allTold'_iff.1 ?_, ?_⟩⟩
     all_goals (try simp only [gB00_t0, gB00_d0, gB, gB00, gB01, gB10, gB11, gB00_h0_a, gq, er, hw, e6, e8, cn, cc, tl]); all_goals try simp only [hy, getT, ofInts0, cg]
     all_goals first | done | omega | (and_intros <;> first | exact True.intro | rfl | omega | exact hr.symm | exact last_cut3 (by omega) | assumption)
 | 1, _ =>
   have hp := allTold'_iff.2 hp
   simp only [gB, gB01, tl] at hp hR hA
   simp only [gq, D.toInt_int, D.ints_ofInts, UO.den] at hp
   obtain ⟨p1, p2, p3, p4, p5, p6, p7, p8, p9, p10, p11, pf⟩ := hp
   have h12 : (d 12).ints.length = (d 12).toList.length := List.length_map ..
   have hb : (d 12).toList ≠ [] := fun e => by have := congrArg List.length e; simp only [List.length_nil] at this; omega
   by_cases h : (d 4).toInt ≤ (d 0).toInt
   ·have ce := cuts_end (x := (d 2).ints) (o := (d 3).toInt) (t := (d 4).toInt) (i := (d 0).toInt) (n := 0) (by omega)
    have cf := ch_end (x := d 2) (o := (d 3).toInt) (t := (d 4).toInt) (i := (d 0).toInt) (n := 0) (l := (D.ofInts [])) (by omega)
    have i4 : (d 0).toInt = (d 4).toInt := by omega
    rw [← i4] at ce cf
    refine ⟨tellA gB01_t2, tellA_ok (allTold'_iff.1 ?_), .inl ⟨_, _, _, gB01_y2, dutiesTold_ok ?_⟩⟩
    ·simp only [gB01_t2, tl]
     omega
    ·simp only [gB01_d2, gq, tl]
     (try simp only [← i4, ce, cf, p7, Int.natCast_zero, Int.add_zero, prt_nil (x := (d 2).ints) (o := (d 3).toInt + (d 0).toInt) (t := (d 3).toInt + (d 0).toInt) (by omega) (by omega), List.append_nil, List.length_nil, D.ints_ofInts]); first | done | (and_intros <;> first | exact True.intro | rfl | omega | exact (last_all (by omega)) | exact (last_all (by omega)).symm | (rw [list_back hb]; done) | exact (congrArg D.code (list_back hb)).symm | assumption)
   ·obtain ⟨wf, wn, el, hr, hy, hz, e6, e7, e8, er⟩ := comm p3 p1 (by omega : (d 0).toInt < (d 4).toInt) (by omega) p7 p9 p8
    have ly := @lfy (d 2) (d 3).toInt (d 4).toInt (d 0).toInt (0) (D.ofInts []) (by omega)
    have ln := @lfn (d 2) (d 3).toInt (d 4).toInt (d 0).toInt (0) (D.ofInts []) (by omega)
    simp only [rollI, stepI, wI] at wf wn
    rw [show (0 : Int) + 1 = 1 from rfl] at ly ln
    by_cases f : 16 ≤ (d 0).toInt
    ·have hw := wf f
     obtain ⟨cn, cc, ci⟩ := ln (by omega)
     rw [cn] at pf
     refine ⟨tellA gB01_t1, tellA_ok (allTold'_iff.1 ?_), .inr ⟨3, gB01_h1, _, _, by decide, gB01_y1, dutiesTold_ok ?_, allTold'_iff.1 ?_, ?_⟩⟩
     all_goals (try simp only [gB01_t1, gB01_d1, gB, gB00, gB01, gB10, gB11, gB01_h1_a, gq, er, hw, e6, e8, cn, cc, tl]); all_goals try simp only [hy, getT, ofInts0, cg]
     all_goals first | done | omega | (and_intros <;> first | exact True.intro | rfl | omega | exact hr.symm | exact last_cut3 (by omega) | assumption)
    ·have hw := wn f
     obtain ⟨cn, cc, ci⟩ := ln (by omega)
     rw [cn] at pf
     refine ⟨tellA gB01_t0, tellA_ok (allTold'_iff.1 ?_), .inr ⟨3, gB01_h0, _, _, by decide, gB01_y0, dutiesTold_ok ?_, allTold'_iff.1 ?_, ?_⟩⟩
     all_goals (try simp only [gB01_t0, gB01_d0, gB, gB00, gB01, gB10, gB11, gB01_h0_a, gq, er, hw, e6, e8, cn, cc, tl]); all_goals try simp only [hy, getT, ofInts0, cg]
     all_goals first | done | omega | (and_intros <;> first | exact True.intro | rfl | omega | exact hr.symm | exact last_cut3 (by omega) | assumption)
 | 2, _ =>
   have hp := allTold'_iff.2 hp
   simp only [gB, gB10, tl] at hp hR hA
   simp only [gq, D.toInt_int, D.ints_ofInts, UO.den] at hp
   obtain ⟨p1, p2, p3, p4, p5, p6, p7, p8, p9, p10, p11, p12, pf, pz⟩ := hp
   have hb : True := trivial
   by_cases h : (d 4).toInt ≤ (d 0).toInt
   ·exfalso
    have ce := cuts_end (x := (d 2).ints) (o := (d 3).toInt) (t := (d 4).toInt) (i := (d 0).toInt) (n := (d 1).toInt) (by omega)
    simp only [ce, List.length_nil] at pf pz
    all_goals omega
   ·obtain ⟨wf, wn, el, hr, hy, hz, e6, e7, e8, er⟩ := comm p3 p1 (by omega : (d 0).toInt < (d 4).toInt) (by omega) p7 p9 p8
    have ly := @lfy (d 2) (d 3).toInt (d 4).toInt (d 0).toInt (d 1).toInt (d 10) (by omega)
    have ln := @lfn (d 2) (d 3).toInt (d 4).toInt (d 0).toInt (d 1).toInt (d 10) (by omega)
    simp only [rollI, stepI, wI] at wf wn
    by_cases q : (d 1).toInt + 1 < 64
    ·by_cases f : 16 ≤ (d 0).toInt
     ·have hw := wf f
      obtain ⟨cn, cc, ci⟩ := ln (by omega)
      rw [cn] at pf pz
      refine ⟨tellA gB10_t1, tellA_ok (allTold'_iff.1 ?_), .inr ⟨2, gB10_h1, _, _, by decide, gB10_y1, dutiesTold_ok ?_, allTold'_iff.1 ?_, ?_⟩⟩
      all_goals (try simp only [gB10_t1, gB10_d1, gB, gB00, gB01, gB10, gB11, gB10_h1_a, gq, er, hw, e6, e8, cn, cc, tl]); all_goals try simp only [hy, getT, ofInts0, cg]
      all_goals first | done | omega | (and_intros <;> first | exact True.intro | rfl | omega | exact hr.symm | exact last_cut3 (by omega) | assumption)
     ·have hw := wn f
      obtain ⟨cn, cc, ci⟩ := ln (by omega)
      rw [cn] at pf pz
      refine ⟨tellA gB10_t0, tellA_ok (allTold'_iff.1 ?_), .inr ⟨2, gB10_h0, _, _, by decide, gB10_y0, dutiesTold_ok ?_, allTold'_iff.1 ?_, ?_⟩⟩
      all_goals (try simp only [gB10_t0, gB10_d0, gB, gB00, gB01, gB10, gB11, gB10_h0_a, gq, er, hw, e6, e8, cn, cc, tl]); all_goals try simp only [hy, getT, ofInts0, cg]
      all_goals first | done | omega | (and_intros <;> first | exact True.intro | rfl | omega | exact hr.symm | exact last_cut3 (by omega) | assumption)
    ·have hw := wf (by omega)
     by_cases g : (d 1).toInt + 1 = 1024
     ·obtain ⟨cn, cc, ci⟩ := ly (by omega)
      rw [cn] at pf pz
      refine ⟨tellA gB10_t4, tellA_ok (allTold'_iff.1 ?_), .inr ⟨1, gB10_h4, _, _, by decide, gB10_y4, dutiesTold_ok ?_, allTold'_iff.1 ?_, ?_⟩⟩
      all_goals (try simp only [gB10_t4, gB10_d4, gB, gB00, gB01, gB10, gB11, gB10_h4_a, gq, er, hw, e6, e8, cn, cc, tl]); all_goals try simp only [hy, getT, ofInts0, cg]
      all_goals first | done | omega | (and_intros <;> first | exact True.intro | rfl | omega | exact hr.symm | exact last_cut3 (by omega) | assumption)
     ·by_cases w : winI (d 2).ints (d 3).toInt ((d 0).toInt + 1) < 16777216
      ·obtain ⟨cn, cc, ci⟩ := ly (by omega)
       rw [cn] at pf pz
       refine ⟨tellA gB10_t3, tellA_ok (allTold'_iff.1 ?_), .inr ⟨1, gB10_h3, _, _, by decide, gB10_y3, dutiesTold_ok ?_, allTold'_iff.1 ?_, ?_⟩⟩
       all_goals (try simp only [gB10_t3, gB10_d3, gB, gB00, gB01, gB10, gB11, gB10_h3_a, gq, er, hw, e6, e8, cn, cc, tl]); all_goals try simp only [hy, getT, ofInts0, cg]
       all_goals first | done | omega | (and_intros <;> first | exact True.intro | rfl | omega | exact hr.symm | exact last_cut3 (by omega) | assumption)
      ·obtain ⟨cn, cc, ci⟩ := ln (by omega)
       rw [cn] at pf pz
       refine ⟨tellA gB10_t2, tellA_ok (allTold'_iff.1 ?_), .inr ⟨2, gB10_h2, _, _, by decide, gB10_y2, dutiesTold_ok ?_, allTold'_iff.1 ?_, ?_⟩⟩
       all_goals (try simp only [gB10_t2, gB10_d2, gB, gB00, gB01, gB10, gB11, gB10_h2_a, gq, er, hw, e6, e8, cn, cc, tl]); all_goals try simp only [hy, getT, ofInts0, cg]
       all_goals first | done | omega | (and_intros <;> first | exact True.intro | rfl | omega | exact hr.symm | exact last_cut3 (by omega) | assumption)
 | 3, _ =>
   have hp := allTold'_iff.2 hp
   simp only [gB, gB11, tl] at hp hR hA
   simp only [gq, D.toInt_int, D.ints_ofInts, UO.den] at hp
   obtain ⟨p1, p2, p3, p4, p5, p6, p7, p8, p9, p10, p11, p12, p13, p14, pf⟩ := hp
   have h12 : (d 12).ints.length = (d 12).toList.length := List.length_map ..
   have hb : (d 12).toList ≠ [] := fun e => by have := congrArg List.length e; simp only [List.length_nil] at this; omega
   by_cases h : (d 4).toInt ≤ (d 0).toInt
   ·exfalso
    have ce := cuts_end (x := (d 2).ints) (o := (d 3).toInt) (t := (d 4).toInt) (i := (d 0).toInt) (n := (d 1).toInt) (by omega)
    simp only [ce, List.length_nil] at pf
    all_goals omega
   ·obtain ⟨wf, wn, el, hr, hy, hz, e6, e7, e8, er⟩ := comm p3 p1 (by omega : (d 0).toInt < (d 4).toInt) (by omega) p7 p9 p8
    have ly := @lfy (d 2) (d 3).toInt (d 4).toInt (d 0).toInt (d 1).toInt (d 10) (by omega)
    have ln := @lfn (d 2) (d 3).toInt (d 4).toInt (d 0).toInt (d 1).toInt (d 10) (by omega)
    simp only [rollI, stepI, wI] at wf wn
    by_cases q : (d 1).toInt + 1 < 64
    ·by_cases f : 16 ≤ (d 0).toInt
     ·have hw := wf f
      obtain ⟨cn, cc, ci⟩ := ln (by omega)
      rw [cn] at pf
      refine ⟨tellA gB11_t1, tellA_ok (allTold'_iff.1 ?_), .inr ⟨3, gB11_h1, _, _, by decide, gB11_y1, dutiesTold_ok ?_, allTold'_iff.1 ?_, ?_⟩⟩
      all_goals (try simp only [gB11_t1, gB11_d1, gB, gB00, gB01, gB10, gB11, gB11_h1_a, gq, er, hw, e6, e8, cn, cc, tl]); all_goals try simp only [hy, getT, ofInts0, cg]
      all_goals first | done | omega | (and_intros <;> first | exact True.intro | rfl | omega | exact hr.symm | exact last_cut3 (by omega) | assumption)
     ·have hw := wn f
      obtain ⟨cn, cc, ci⟩ := ln (by omega)
      rw [cn] at pf
      refine ⟨tellA gB11_t0, tellA_ok (allTold'_iff.1 ?_), .inr ⟨3, gB11_h0, _, _, by decide, gB11_y0, dutiesTold_ok ?_, allTold'_iff.1 ?_, ?_⟩⟩
      all_goals (try simp only [gB11_t0, gB11_d0, gB, gB00, gB01, gB10, gB11, gB11_h0_a, gq, er, hw, e6, e8, cn, cc, tl]); all_goals try simp only [hy, getT, ofInts0, cg]
      all_goals first | done | omega | (and_intros <;> first | exact True.intro | rfl | omega | exact hr.symm | exact last_cut3 (by omega) | assumption)
    ·have hw := wf (by omega)
     by_cases g : (d 1).toInt + 1 = 1024
     ·obtain ⟨cn, cc, ci⟩ := ly (by omega)
      rw [cn] at pf
      refine ⟨tellA gB11_t4, tellA_ok (allTold'_iff.1 ?_), .inr ⟨1, gB11_h4, _, _, by decide, gB11_y4, dutiesTold_ok ?_, allTold'_iff.1 ?_, ?_⟩⟩
      all_goals (try simp only [gB11_t4, gB11_d4, gB, gB00, gB01, gB10, gB11, gB11_h4_a, gq, er, hw, e6, e8, cn, cc, tl]); all_goals try simp only [hy, getT, ofInts0, cg]
      all_goals first | done | omega | (and_intros <;> first | exact True.intro | rfl | omega | exact hr.symm | exact last_cut3 (by omega) | assumption)
     ·by_cases w : winI (d 2).ints (d 3).toInt ((d 0).toInt + 1) < 16777216
      ·obtain ⟨cn, cc, ci⟩ := ly (by omega)
       rw [cn] at pf
       refine ⟨tellA gB11_t3, tellA_ok (allTold'_iff.1 ?_), .inr ⟨1, gB11_h3, _, _, by decide, gB11_y3, dutiesTold_ok ?_, allTold'_iff.1 ?_, ?_⟩⟩
       all_goals (try simp only [gB11_t3, gB11_d3, gB, gB00, gB01, gB10, gB11, gB11_h3_a, gq, er, hw, e6, e8, cn, cc, tl]); all_goals try simp only [hy, getT, ofInts0, cg]
       all_goals first | done | omega | (and_intros <;> first | exact True.intro | rfl | omega | exact hr.symm | exact last_cut3 (by omega) | assumption)
      ·obtain ⟨cn, cc, ci⟩ := ln (by omega)
       rw [cn] at pf
       refine ⟨tellA gB11_t2, tellA_ok (allTold'_iff.1 ?_), .inr ⟨3, gB11_h2, _, _, by decide, gB11_y2, dutiesTold_ok ?_, allTold'_iff.1 ?_, ?_⟩⟩
       all_goals (try simp only [gB11_t2, gB11_d2, gB, gB00, gB01, gB10, gB11, gB11_h2_a, gq, er, hw, e6, e8, cn, cc, tl]); all_goals try simp only [hy, getT, ofInts0, cg]
       all_goals first | done | omega | (and_intros <;> first | exact True.intro | rfl | omega | exact hr.symm | exact last_cut3 (by omega) | assumption)
theorem gB00_holds : LHolds Try.prog (loopAt Try.prog 26 [4, 1]) gB00 F := gB_holds 0 (by decide)
theorem gB01_holds : LHolds Try.prog (loopAt Try.prog 26 [4, 1]) gB01 F := gB_holds 1 (by decide)
theorem gB10_holds : LHolds Try.prog (loopAt Try.prog 26 [4, 1]) gB10 F := gB_holds 2 (by decide)
theorem gB11_holds : LHolds Try.prog (loopAt Try.prog 26 [4, 1]) gB11 F := gB_holds 3 (by decide)

noncomputable def gC00 : LSpec := { n := 41, next := 9, pat := [(0, .yieldf 5), (2, .ptr 13 0), (6, .sslice 17 (.var 3) (.var 4) (.var 5) false), (7, .sint .i64 (.var 4)), (8, .sint .i64 (.var 0))], rows := [zGa17, zGa2, zGa5, zGa16, zGa11, zGa26, zGa25], pre := [(.le (.int 0) (.var 0), true), (.le (.var 0) (.var 4), true), (.le (.int 0) (.var 3), true), (.le zGa30 (.var 6), true), (.le (.var 4) (.var 5), true), (.le (.var 4) (.int 20000), true), (.same (.var 7) (.fn 9 txGa12), true), (.eq (.var 8) (.var 0), true), (.eq (.var 9) (.fn 11 txGa12), true), (.le (.int 1) (.fn 21 zGa27), true), (.le (.int 1) txGa27, true)], x := 0, fin := [], frows := [zGa17, zGa9, zGa5, zGa16, zGa11, zGa55, zGa42, zGa48], same := [1, 5, 7, 9, 13, 15], chg := [0, 2, 5, 6, 7, 8, 9, 10, 11, 12, 13, 14, 15, 16, 17, 18, 19, 20, 21, 22, 23, 24, 25, 26, 27, 28, 29, 30, 31, 32, 33, 34, 35, 36, 37, 38, 39, 40] }
noncomputable def gC01 : LSpec := { n := 41, next := 9, pat := [(0, .yieldf 5), (2, .ptr 13 0), (6, .sslice 17 (.var 3) (.var 4) (.var 5) false), (7, .sint .i64 (.var 4)), (8, .sint .i64 (.var 0))], rows := [zGa17, zGa2, zGa5, zGa16, zGa11, zGa29, zGa25, zGa36], pre := [(.le (.int 0) (.var 0), true), (.le (.var 0) (.var 4), true), (.le (.int 0) (.var 3), true), (.le zGa30 (.var 6), true), (.le (.var 4) (.var 5), true), (.le (.var 4) (.int 20000), true), (.same (.var 7) (.fn 9 txGa12), true), (.eq (.var 8) (.var 0), true), (.eq (.var 9) (.fn 11 txGa12), true), (.le (.int 1) (.var 11), true), (.le (.var 11) (.var 0), true), (.le (.int 1) (.fn 21 zGa27), true)], x := 0, fin := [], frows := [zGa17, zGa9, zGa5, zGa16, zGa11, zGa53, zGa42, zGa43], same := [1, 5, 7, 9, 13, 15], chg := [0, 2, 5, 6, 7, 8, 9, 10, 11, 12, 13, 14, 15, 16, 17, 18, 19, 20, 21, 22, 23, 24, 25, 26, 27, 28, 29, 30, 31, 32, 33, 34, 35, 36, 37, 38, 39, 40] }
noncomputable def gC10 : LSpec := { n := 41, next := 9, pat := [(0, .yieldf 5), (2, .ptr 13 0), (6, .sslice 17 (.var 3) (.var 4) (.var 5) false), (7, .sint .i64 (.var 4)), (8, .sint .i64 (.var 0))], rows := [zGa17, zGa1, zGa5, zGa16, zGa11, zGa26, zGa25, zGa35], pre := [(.le (.int 0) (.var 0), true), (.le (.var 0) (.var 4), true), (.le (.int 0) (.var 3), true), (.le zGa30 (.var 6), true), (.le (.var 4) (.var 5), true), (.le (.var 4) (.int 20000), true), (.same (.var 7) (.fn 9 txGa12), true), (.eq (.var 8) (.var 0), true), (.eq (.var 9) (.fn 11 txGa12), true), (.le (.int 1) (.var 1), true), (.le (.var 1) (.int 1023), true), (.le (.var 1) (.var 0), true), (.le (.int 1) zGa20, true), (.le (.int 1) txGa28, true)], x := 0, fin := [], frows := [zGa17, zGa10, zGa5, zGa16, zGa11, zGa56, zGa37, zGa49], same := [1, 5, 7, 9, 13, 15], chg := [0, 2, 5, 6, 7, 8, 9, 10, 11, 12, 13, 14, 15, 16, 17, 18, 19, 20, 21, 22, 23, 24, 25, 26, 27, 28, 29, 30, 31, 32, 33, 34, 35, 36, 37, 38, 39, 40] }
noncomputable def gC11 : LSpec := { n := 41, next := 9, pat := [(0, .yieldf 5), (2, .ptr 13 0), (6, .sslice 17 (.var 3) (.var 4) (.var 5) false), (7, .sint .i64 (.var 4)), (8, .sint .i64 (.var 0))], rows := [zGa17, zGa1, zGa5, zGa16, zGa11, zGa29, zGa25, zGa35, zGa36], pre := [(.le (.int 0) (.var 0), true), (.le (.var 0) (.var 4), true), (.le (.int 0) (.var 3), true), (.le zGa30 (.var 6), true), (.le (.var 4) (.var 5), true), (.le (.var 4) (.int 20000), true), (.same (.var 7) (.fn 9 txGa12), true), (.eq (.var 8) (.var 0), true), (.eq (.var 9) (.fn 11 txGa12), true), (.le (.int 1) (.var 1), true), (.le (.var 1) (.int 1023), true), (.le (.var 1) (.var 0), true), (.le (.int 1) (.var 11), true), (.le (.var 11) (.var 0), true), (.le (.int 1) zGa20, true)], x := 0, fin := [], frows := [zGa17, zGa10, zGa5, zGa16, zGa11, zGa54, zGa37, zGa44], same := [1, 5, 7, 9, 13, 15], chg := [0, 2, 5, 6, 7, 8, 9, 10, 11, 12, 13, 14, 15, 16, 17, 18, 19, 20, 21, 22, 23, 24, 25, 26, 27, 28, 29, 30, 31, 32, 33, 34, 35, 36, 37, 38, 39, 40] }
noncomputable def gC : Nat → LSpec
 | 0 => gC00
 | 1 => gC01
 | 2 => gC10
 | _ => gC11
def gC00_t0 : List (Q × Bool) := [asGa0, asGa1, asGa2, asGa3, asGa4, asGa5, asGa6, asGa7, asGa8, asGa9]
def gC00_d0 : List Duty := [zGa8, zGa8, zGa22, zGa22, zGa8, zGa24, zGa22, zGa40]
def gC00_h0 : List (Nat × E) := [(10, zGa15), (6, (.var 6)), (2, (.var 2)), (1, (.int 1)), (9, txGa44), (8, zGa6), (7, txGa21), (0, zGa3), (3, (.var 3)), (4, (.var 4)), (5, (.var 5))]
theorem gC00_h0_a : lookE gC00_h0 0 = zGa3 ∧ lookE gC00_h0 1 = (.int 1) ∧ lookE gC00_h0 2 = (.var 2) ∧ lookE gC00_h0 3 = (.var 3) ∧ lookE gC00_h0 4 = (.var 4) ∧ lookE gC00_h0 5 = (.var 5) ∧ lookE gC00_h0 6 = (.var 6) ∧ lookE gC00_h0 7 = txGa21 ∧ lookE gC00_h0 8 = zGa6 ∧ lookE gC00_h0 9 = txGa44 ∧ lookE gC00_h0 10 = zGa15 := ⟨rfl, rfl, rfl, rfl, rfl, rfl, rfl, rfl, rfl, rfl, rfl⟩
theorem gC00_y0 : nextJ (gC 0) (gC 2) gC00_h0 [(9, 9), (7, 7), (15, 15), (3, 21), (1, 1), (17, 17), (13, 13), (5, 5)] (roundC Try.prog [] [] [] 3000 40 26 [4, 1] (tellA gC00_t0) (gC 0)) = some gC00_d0 := by kernel_rfl
def gC00_t1 : List (Q × Bool) := [asGa0, asGa1, asGa2, asGa3, asGa4, asGa5, asGa10, asGa7, asGa8, asGa9]
def gC00_d1 : List Duty := [zGa8, zGa8, zGa22, zGa22, zGa8, zGa24, zGa22, zGa40]
def gC00_h1 : List (Nat × E) := [(10, zGa15), (6, (.var 6)), (2, (.var 2)), (1, (.int 1)), (9, zGa7), (8, zGa6), (7, txGa21), (0, zGa3), (3, (.var 3)), (4, (.var 4)), (5, (.var 5))]
theorem gC00_h1_a : lookE gC00_h1 0 = zGa3 ∧ lookE gC00_h1 1 = (.int 1) ∧ lookE gC00_h1 2 = (.var 2) ∧ lookE gC00_h1 3 = (.var 3) ∧ lookE gC00_h1 4 = (.var 4) ∧ lookE gC00_h1 5 = (.var 5) ∧ lookE gC00_h1 6 = (.var 6) ∧ lookE gC00_h1 7 = txGa21 ∧ lookE gC00_h1 8 = zGa6 ∧ lookE gC00_h1 9 = zGa7 ∧ lookE gC00_h1 10 = zGa15 := ⟨rfl, rfl, rfl, rfl, rfl, rfl, rfl, rfl, rfl, rfl, rfl⟩
theorem gC00_y1 : nextJ (gC 0) (gC 2) gC00_h1 [(9, 9), (7, 7), (15, 15), (3, 21), (1, 1), (17, 17), (13, 13), (5, 5)] (roundC Try.prog [] [] [] 3000 40 26 [4, 1] (tellA gC00_t1) (gC 0)) = some gC00_d1 := by kernel_rfl
def gC01_t0 : List (Q × Bool) := [asGa0, asGa1, asGa2, asGa3, asGa4, asGa5, asGa6, asGa7, asGa8, asGa9]
def gC01_d0 : List Duty := [zGa8, zGa8, zGa21, zGa21, zGa8, zGa24, zGa21, zGa45]
def gC01_h0 : List (Nat × E) := [(12, (.var 12)), (10, zGa15), (6, (.var 6)), (2, (.var 2)), (11, (.var 11)), (1, (.int 1)), (9, txGa44), (8, zGa6), (7, txGa21), (0, zGa3), (3, (.var 3)), (4, (.var 4)), (5, (.var 5))]
theorem gC01_h0_a : lookE gC01_h0 0 = zGa3 ∧ lookE gC01_h0 1 = (.int 1) ∧ lookE gC01_h0 2 = (.var 2) ∧ lookE gC01_h0 3 = (.var 3) ∧ lookE gC01_h0 4 = (.var 4) ∧ lookE gC01_h0 5 = (.var 5) ∧ lookE gC01_h0 6 = (.var 6) ∧ lookE gC01_h0 7 = txGa21 ∧ lookE gC01_h0 8 = zGa6 ∧ lookE gC01_h0 9 = txGa44 ∧ lookE gC01_h0 10 = zGa15 ∧ lookE gC01_h0 11 = (.var 11) ∧ lookE gC01_h0 12 = (.var 12) := ⟨rfl, rfl, rfl, rfl, rfl, rfl, rfl, rfl, rfl, rfl, rfl, rfl, rfl⟩
theorem gC01_y0 : nextJ (gC 1) (gC 3) gC01_h0 [(11, 11), (9, 9), (7, 7), (15, 15), (3, 21), (1, 1), (17, 17), (13, 13), (5, 5)] (roundC Try.prog [] [] [] 3000 40 26 [4, 1] (tellA gC01_t0) (gC 1)) = some gC01_d0 := by kernel_rfl
def gC01_t1 : List (Q × Bool) := [asGa0, asGa1, asGa2, asGa3, asGa4, asGa5, asGa10, asGa7, asGa8, asGa9]
def gC01_d1 : List Duty := [zGa8, zGa8, zGa21, zGa21, zGa8, zGa24, zGa21, zGa45]
def gC01_h1 : List (Nat × E) := [(12, (.var 12)), (10, zGa15), (6, (.var 6)), (2, (.var 2)), (11, (.var 11)), (1, (.int 1)), (9, zGa7), (8, zGa6), (7, txGa21), (0, zGa3), (3, (.var 3)), (4, (.var 4)), (5, (.var 5))]
theorem gC01_h1_a : lookE gC01_h1 0 = zGa3 ∧ lookE gC01_h1 1 = (.int 1) ∧ lookE gC01_h1 2 = (.var 2) ∧ lookE gC01_h1 3 = (.var 3) ∧ lookE gC01_h1 4 = (.var 4) ∧ lookE gC01_h1 5 = (.var 5) ∧ lookE gC01_h1 6 = (.var 6) ∧ lookE gC01_h1 7 = txGa21 ∧ lookE gC01_h1 8 = zGa6 ∧ lookE gC01_h1 9 = zGa7 ∧ lookE gC01_h1 10 = zGa15 ∧ lookE gC01_h1 11 = (.var 11) ∧ lookE gC01_h1 12 = (.var 12) := ⟨rfl, rfl, rfl, rfl, rfl, rfl, rfl, rfl, rfl, rfl, rfl, rfl, rfl⟩
theorem gC01_y1 : nextJ (gC 1) (gC 3) gC01_h1 [(11, 11), (9, 9), (7, 7), (15, 15), (3, 21), (1, 1), (17, 17), (13, 13), (5, 5)] (roundC Try.prog [] [] [] 3000 40 26 [4, 1] (tellA gC01_t1) (gC 1)) = some gC01_d1 := by kernel_rfl
def gC10_t0 : List (Q × Bool) := [asGa0, asGa1, asGa2, asGa3, asGa11, asGa12, asGa13, asGa4, asGa5, asGa6, asGa7, asGa8, asGa14, asGa15, asGa16, asGa9]
def gC10_d0 : List Duty := [zGa0, zGa0, (true, txGa51, zGa14), (true, txGa51, zGa14), zGa0, zGa19, (true, txGa51, zGa14), (false, txGa52, zGa31)]
def gC10_h0 : List (Nat × E) := [(10, txGa20), (6, (.var 6)), (2, (.var 2)), (1, zGa12), (9, txGa44), (8, zGa6), (7, txGa21), (0, zGa3), (3, (.var 3)), (4, (.var 4)), (5, (.var 5))]
theorem gC10_h0_a : lookE gC10_h0 0 = zGa3 ∧ lookE gC10_h0 1 = zGa12 ∧ lookE gC10_h0 2 = (.var 2) ∧ lookE gC10_h0 3 = (.var 3) ∧ lookE gC10_h0 4 = (.var 4) ∧ lookE gC10_h0 5 = (.var 5) ∧ lookE gC10_h0 6 = (.var 6) ∧ lookE gC10_h0 7 = txGa21 ∧ lookE gC10_h0 8 = zGa6 ∧ lookE gC10_h0 9 = txGa44 ∧ lookE gC10_h0 10 = txGa20 := ⟨rfl, rfl, rfl, rfl, rfl, rfl, rfl, rfl, rfl, rfl, rfl⟩
theorem gC10_y0 : nextJ (gC 2) (gC 2) gC10_h0 [(9, 9), (7, 7), (15, 15), (3, 21), (1, 1), (17, 17), (13, 13), (5, 5)] (roundC Try.prog [] [] [] 3000 40 26 [4, 1] (tellA gC10_t0) (gC 2)) = some gC10_d0 := by kernel_rfl
def gC10_t1 : List (Q × Bool) := [asGa0, asGa1, asGa2, asGa3, asGa11, asGa12, asGa13, asGa4, asGa5, asGa10, asGa7, asGa8, asGa14, asGa15, asGa16, asGa9]
def gC10_d1 : List Duty := [zGa0, zGa0, (true, txGa51, zGa14), (true, txGa51, zGa14), zGa0, zGa19, (true, txGa51, zGa14), (false, txGa52, zGa31)]
def gC10_h1 : List (Nat × E) := [(10, txGa20), (6, (.var 6)), (2, (.var 2)), (1, zGa12), (9, zGa7), (8, zGa6), (7, txGa21), (0, zGa3), (3, (.var 3)), (4, (.var 4)), (5, (.var 5))]
theorem gC10_h1_a : lookE gC10_h1 0 = zGa3 ∧ lookE gC10_h1 1 = zGa12 ∧ lookE gC10_h1 2 = (.var 2) ∧ lookE gC10_h1 3 = (.var 3) ∧ lookE gC10_h1 4 = (.var 4) ∧ lookE gC10_h1 5 = (.var 5) ∧ lookE gC10_h1 6 = (.var 6) ∧ lookE gC10_h1 7 = txGa21 ∧ lookE gC10_h1 8 = zGa6 ∧ lookE gC10_h1 9 = zGa7 ∧ lookE gC10_h1 10 = txGa20 := ⟨rfl, rfl, rfl, rfl, rfl, rfl, rfl, rfl, rfl, rfl, rfl⟩
theorem gC10_y1 : nextJ (gC 2) (gC 2) gC10_h1 [(9, 9), (7, 7), (15, 15), (3, 21), (1, 1), (17, 17), (13, 13), (5, 5)] (roundC Try.prog [] [] [] 3000 40 26 [4, 1] (tellA gC10_t1) (gC 2)) = some gC10_d1 := by kernel_rfl
def gC10_t2 : List (Q × Bool) := [asGa0, asGa1, asGa2, asGa3, asGa11, asGa12, asGa13, asGa4, asGa5, asGa10, asGa7, asGa8, asGa14, asGa15, asGa17, asGa18, asGa9]
def gC10_d2 : List Duty := [zGa0, zGa0, (true, txGa51, zGa14), (true, txGa51, zGa14), zGa0, zGa19, (true, txGa51, zGa14), (false, txGa52, zGa31)]
def gC10_h2 : List (Nat × E) := [(10, txGa20), (6, (.var 6)), (2, (.var 2)), (1, zGa12), (9, zGa7), (8, zGa6), (7, txGa21), (0, zGa3), (3, (.var 3)), (4, (.var 4)), (5, (.var 5))]
theorem gC10_h2_a : lookE gC10_h2 0 = zGa3 ∧ lookE gC10_h2 1 = zGa12 ∧ lookE gC10_h2 2 = (.var 2) ∧ lookE gC10_h2 3 = (.var 3) ∧ lookE gC10_h2 4 = (.var 4) ∧ lookE gC10_h2 5 = (.var 5) ∧ lookE gC10_h2 6 = (.var 6) ∧ lookE gC10_h2 7 = txGa21 ∧ lookE gC10_h2 8 = zGa6 ∧ lookE gC10_h2 9 = zGa7 ∧ lookE gC10_h2 10 = txGa20 := ⟨rfl, rfl, rfl, rfl, rfl, rfl, rfl, rfl, rfl, rfl, rfl⟩
theorem gC10_y2 : nextJ (gC 2) (gC 2) gC10_h2 [(9, 9), (7, 7), (15, 15), (3, 21), (1, 1), (17, 17), (13, 13), (5, 5)] (roundC Try.prog [] [] [] 3000 40 26 [4, 1] (tellA gC10_t2) (gC 2)) = some gC10_d2 := by kernel_rfl
def gC10_t3 : List (Q × Bool) := [asGa0, asGa1, asGa2, asGa3, asGa11, asGa12, asGa13, asGa4, asGa5, asGa10, asGa7, asGa8, asGa14, asGa15, asGa17, asGa20, asGa9]
def gC10_d3 : List Duty := [zGa13, zGa13, zGa23, zGa23, zGa13, zGa34, zGa23, zGa47]
def gC10_h3 : List (Nat × E) := [(12, zGa32), (6, (.var 6)), (2, (.var 2)), (11, (.int 1)), (9, zGa7), (8, zGa6), (7, txGa21), (0, zGa3), (3, (.var 3)), (4, (.var 4)), (5, (.var 5))]
theorem gC10_h3_a : lookE gC10_h3 0 = zGa3 ∧ lookE gC10_h3 2 = (.var 2) ∧ lookE gC10_h3 3 = (.var 3) ∧ lookE gC10_h3 4 = (.var 4) ∧ lookE gC10_h3 5 = (.var 5) ∧ lookE gC10_h3 6 = (.var 6) ∧ lookE gC10_h3 7 = txGa21 ∧ lookE gC10_h3 8 = zGa6 ∧ lookE gC10_h3 9 = zGa7 ∧ lookE gC10_h3 11 = (.int 1) ∧ lookE gC10_h3 12 = zGa32 := ⟨rfl, rfl, rfl, rfl, rfl, rfl, rfl, rfl, rfl, rfl, rfl⟩
theorem gC10_y3 : nextJ (gC 2) (gC 1) gC10_h3 [(11, 25), (9, 9), (7, 7), (15, 15), (1, 1), (17, 17), (13, 13), (5, 5)] (roundC Try.prog [] [] [] 3000 40 26 [4, 1] (tellA gC10_t3) (gC 2)) = some gC10_d3 := by kernel_rfl
def gC10_t4 : List (Q × Bool) := [asGa0, asGa1, asGa2, asGa3, asGa11, asGa12, asGa13, asGa4, asGa5, asGa10, asGa7, asGa8, asGa14, asGa21, asGa9]
def gC10_d4 : List Duty := [zGa13, zGa13, zGa23, zGa23, zGa13, zGa34, zGa23, zGa47]
def gC10_h4 : List (Nat × E) := [(12, zGa32), (6, (.var 6)), (2, (.var 2)), (11, (.int 1)), (9, zGa7), (8, zGa6), (7, txGa21), (0, zGa3), (3, (.var 3)), (4, (.var 4)), (5, (.var 5))]
theorem gC10_h4_a : lookE gC10_h4 0 = zGa3 ∧ lookE gC10_h4 2 = (.var 2) ∧ lookE gC10_h4 3 = (.var 3) ∧ lookE gC10_h4 4 = (.var 4) ∧ lookE gC10_h4 5 = (.var 5) ∧ lookE gC10_h4 6 = (.var 6) ∧ lookE gC10_h4 7 = txGa21 ∧ lookE gC10_h4 8 = zGa6 ∧ lookE gC10_h4 9 = zGa7 ∧ lookE gC10_h4 11 = (.int 1) ∧ lookE gC10_h4 12 = zGa32 := ⟨rfl, rfl, rfl, rfl, rfl, rfl, rfl, rfl, rfl, rfl, rfl⟩
theorem gC10_y4 : nextJ (gC 2) (gC 1) gC10_h4 [(11, 25), (9, 9), (7, 7), (15, 15), (1, 1), (17, 17), (13, 13), (5, 5)] (roundC Try.prog [] [] [] 3000 40 26 [4, 1] (tellA gC10_t4) (gC 2)) = some gC10_d4 := by kernel_rfl
def gC11_t0 : List (Q × Bool) := [asGa0, asGa1, asGa2, asGa3, asGa11, asGa12, asGa13, asGa4, asGa5, asGa6, asGa7, asGa8, asGa14, asGa15, asGa16, asGa9]
def gC11_d0 : List Duty := [zGa0, zGa0, zGa18, zGa18, zGa0, zGa19, zGa18, zGa38]
def gC11_h0 : List (Nat × E) := [(12, (.var 12)), (10, txGa20), (6, (.var 6)), (2, (.var 2)), (11, (.var 11)), (1, zGa12), (9, txGa44), (8, zGa6), (7, txGa21), (0, zGa3), (3, (.var 3)), (4, (.var 4)), (5, (.var 5))]
theorem gC11_h0_a : lookE gC11_h0 0 = zGa3 ∧ lookE gC11_h0 1 = zGa12 ∧ lookE gC11_h0 2 = (.var 2) ∧ lookE gC11_h0 3 = (.var 3) ∧ lookE gC11_h0 4 = (.var 4) ∧ lookE gC11_h0 5 = (.var 5) ∧ lookE gC11_h0 6 = (.var 6) ∧ lookE gC11_h0 7 = txGa21 ∧ lookE gC11_h0 8 = zGa6 ∧ lookE gC11_h0 9 = txGa44 ∧ lookE gC11_h0 10 = txGa20 ∧ lookE gC11_h0 11 = (.var 11) ∧ lookE gC11_h0 12 = (.var 12) := ⟨rfl, rfl, rfl, rfl, rfl, rfl, rfl, rfl, rfl, rfl, rfl, rfl, rfl⟩
theorem gC11_y0 : nextJ (gC 3) (gC 3) gC11_h0 [(11, 11), (9, 9), (7, 7), (15, 15), (3, 21), (1, 1), (17, 17), (13, 13), (5, 5)] (roundC Try.prog [] [] [] 3000 40 26 [4, 1] (tellA gC11_t0) (gC 3)) = some gC11_d0 := by kernel_rfl
def gC11_t1 : List (Q × Bool) := [asGa0, asGa1, asGa2, asGa3, asGa11, asGa12, asGa13, asGa4, asGa5, asGa10, asGa7, asGa8, asGa14, asGa15, asGa16, asGa9]
def gC11_d1 : List Duty := [zGa0, zGa0, zGa18, zGa18, zGa0, zGa19, zGa18, zGa38]
def gC11_h1 : List (Nat × E) := [(12, (.var 12)), (10, txGa20), (6, (.var 6)), (2, (.var 2)), (11, (.var 11)), (1, zGa12), (9, zGa7), (8, zGa6), (7, txGa21), (0, zGa3), (3, (.var 3)), (4, (.var 4)), (5, (.var 5))]
theorem gC11_h1_a : lookE gC11_h1 0 = zGa3 ∧ lookE gC11_h1 1 = zGa12 ∧ lookE gC11_h1 2 = (.var 2) ∧ lookE gC11_h1 3 = (.var 3) ∧ lookE gC11_h1 4 = (.var 4) ∧ lookE gC11_h1 5 = (.var 5) ∧ lookE gC11_h1 6 = (.var 6) ∧ lookE gC11_h1 7 = txGa21 ∧ lookE gC11_h1 8 = zGa6 ∧ lookE gC11_h1 9 = zGa7 ∧ lookE gC11_h1 10 = txGa20 ∧ lookE gC11_h1 11 = (.var 11) ∧ lookE gC11_h1 12 = (.var 12) := ⟨rfl, rfl, rfl, rfl, rfl, rfl, rfl, rfl, rfl, rfl, rfl, rfl, rfl⟩
theorem gC11_y1 : nextJ (gC 3) (gC 3) gC11_h1 [(11, 11), (9, 9), (7, 7), (15, 15), (3, 21), (1, 1), (17, 17), (13, 13), (5, 5)] (roundC Try.prog [] [] [] 3000 40 26 [4, 1] (tellA gC11_t1) (gC 3)) = some gC11_d1 := by kernel_rfl
def gC11_t2 : List (Q × Bool) := [asGa0, asGa1, asGa2, asGa3, asGa11, asGa12, asGa13, asGa4, asGa5, asGa10, asGa7, asGa8, asGa14, asGa15, asGa17, asGa18, asGa9]
def gC11_d2 : List Duty := [zGa0, zGa0, zGa18, zGa18, zGa0, zGa19, zGa18, zGa38]
def gC11_h2 : List (Nat × E) := [(12, (.var 12)), (10, txGa20), (6, (.var 6)), (2, (.var 2)), (11, (.var 11)), (1, zGa12), (9, zGa7), (8, zGa6), (7, txGa21), (0, zGa3), (3, (.var 3)), (4, (.var 4)), (5, (.var 5))]
theorem gC11_h2_a : lookE gC11_h2 0 = zGa3 ∧ lookE gC11_h2 1 = zGa12 ∧ lookE gC11_h2 2 = (.var 2) ∧ lookE gC11_h2 3 = (.var 3) ∧ lookE gC11_h2 4 = (.var 4) ∧ lookE gC11_h2 5 = (.var 5) ∧ lookE gC11_h2 6 = (.var 6) ∧ lookE gC11_h2 7 = txGa21 ∧ lookE gC11_h2 8 = zGa6 ∧ lookE gC11_h2 9 = zGa7 ∧ lookE gC11_h2 10 = txGa20 ∧ lookE gC11_h2 11 = (.var 11) ∧ lookE gC11_h2 12 = (.var 12) := ⟨rfl, rfl, rfl, rfl, rfl, rfl, rfl, rfl, rfl, rfl, rfl, rfl, rfl⟩
theorem gC11_y2 : nextJ (gC 3) (gC 3) gC11_h2 [(11, 11), (9, 9), (7, 7), (15, 15), (3, 21), (1, 1), (17, 17), (13, 13), (5, 5)] (roundC Try.prog [] [] [] 3000 40 26 [4, 1] (tellA gC11_t2) (gC 3)) = some gC11_d2 := by kernel_rfl
def gC11_t3 : List (Q × Bool) := [asGa0, asGa1, asGa2, asGa3, asGa11, asGa12, asGa13, asGa4, asGa5, asGa10, asGa7, asGa8, asGa14, asGa15, asGa17, asGa20, asGa22, asGa9]
def gC11_d3 : List Duty := [zGa13, zGa13, (true, txGa45, txGa36), (true, txGa45, txGa36), zGa13, zGa34, (true, txGa45, txGa36), zGa46]
def gC11_h3 : List (Nat × E) := [(12, zGa33), (6, (.var 6)), (2, (.var 2)), (11, zGa28), (9, zGa7), (8, zGa6), (7, txGa21), (0, zGa3), (3, (.var 3)), (4, (.var 4)), (5, (.var 5))]
theorem gC11_h3_a : lookE gC11_h3 0 = zGa3 ∧ lookE gC11_h3 2 = (.var 2) ∧ lookE gC11_h3 3 = (.var 3) ∧ lookE gC11_h3 4 = (.var 4) ∧ lookE gC11_h3 5 = (.var 5) ∧ lookE gC11_h3 6 = (.var 6) ∧ lookE gC11_h3 7 = txGa21 ∧ lookE gC11_h3 8 = zGa6 ∧ lookE gC11_h3 9 = zGa7 ∧ lookE gC11_h3 11 = zGa28 ∧ lookE gC11_h3 12 = zGa33 := ⟨rfl, rfl, rfl, rfl, rfl, rfl, rfl, rfl, rfl, rfl, rfl⟩
theorem gC11_y3 : nextJ (gC 3) (gC 1) gC11_h3 [(11, 25), (9, 9), (7, 7), (15, 15), (1, 1), (17, 17), (13, 13), (5, 5)] (roundC Try.prog [] [] [] 3000 40 26 [4, 1] (tellA gC11_t3) (gC 3)) = some gC11_d3 := by kernel_rfl
def gC11_t4 : List (Q × Bool) := [asGa0, asGa1, asGa2, asGa3, asGa11, asGa12, asGa13, asGa4, asGa5, asGa10, asGa7, asGa8, asGa14, asGa21, asGa22, asGa9]
def gC11_d4 : List Duty := [zGa13, zGa13, (true, txGa45, txGa36), (true, txGa45, txGa36), zGa13, zGa34, (true, txGa45, txGa36), zGa46]
def gC11_h4 : List (Nat × E) := [(12, zGa33), (6, (.var 6)), (2, (.var 2)), (11, zGa28), (9, zGa7), (8, zGa6), (7, txGa21), (0, zGa3), (3, (.var 3)), (4, (.var 4)), (5, (.var 5))]
theorem gC11_h4_a : lookE gC11_h4 0 = zGa3 ∧ lookE gC11_h4 2 = (.var 2) ∧ lookE gC11_h4 3 = (.var 3) ∧ lookE gC11_h4 4 = (.var 4) ∧ lookE gC11_h4 5 = (.var 5) ∧ lookE gC11_h4 6 = (.var 6) ∧ lookE gC11_h4 7 = txGa21 ∧ lookE gC11_h4 8 = zGa6 ∧ lookE gC11_h4 9 = zGa7 ∧ lookE gC11_h4 11 = zGa28 ∧ lookE gC11_h4 12 = zGa33 := ⟨rfl, rfl, rfl, rfl, rfl, rfl, rfl, rfl, rfl, rfl, rfl⟩
theorem gC11_y4 : nextJ (gC 3) (gC 1) gC11_h4 [(11, 25), (9, 9), (7, 7), (15, 15), (1, 1), (17, 17), (13, 13), (5, 5)] (roundC Try.prog [] [] [] 3000 40 26 [4, 1] (tellA gC11_t4) (gC 3)) = some gC11_d4 := by kernel_rfl
def gC11_t5 : List (Q × Bool) := [asGa19]
def gC11_d5 : List Duty := [dqGa (.var 7) (.fn 9 txGa13) 0, dqGa (.var 7) (.fn 9 txGa13) 1, dqGa (.var 7) (.fn 9 txGa13) 2, dqGa (.var 7) (.fn 9 txGa13) 3, dqGa (.var 7) (.fn 9 txGa13) 4, dqGa (.var 7) (.fn 9 txGa13) 5, dqGa (.var 7) (.fn 9 txGa13) 6, dqGa (.var 7) (.fn 9 txGa13) 7, dqGa (.var 7) (.fn 9 txGa13) 8, dqGa (.var 7) (.fn 9 txGa13) 9, dqGa (.var 7) (.fn 9 txGa13) 10, dqGa (.var 7) (.fn 9 txGa13) 11, dqGa (.var 7) (.fn 9 txGa13) 12, dqGa (.var 7) (.fn 9 txGa13) 13, dqGa (.var 7) (.fn 9 txGa13) 14, dqGa (.var 7) (.fn 9 txGa13) 15, zGa60, zGa57, (true, (.var 1), zGa20), (true, (.var 1), zGa20), (true, (.var 11), txGa36), (true, (.var 11), txGa36), (true, (.var 1), zGa20), (false, (.var 10), (.fn 22 txGa29)), (true, (.var 11), txGa36), (false, (.un .code (.var 12)), txGa39)]
theorem gC11_y5 : endD (gC 3) [(11, 11), (3, 3), (1, 1), (5, 5), (7, 7), (9, 9), (13, 13), (15, 15)] 1000 (roundC Try.prog [] [] [] 3000 40 26 [4, 1] (tellA gC11_t5) (gC 3)) = some gC11_d5 := by kernel_rfl
set_option maxHeartbeats 16000000 in
theorem gC_holds : ∀ i, i < 4 → LHolds Try.prog (loopAt Try.prog 26 [4, 1]) (gC i) F := by
 refine loop_famC sound (tableNil _ _) (specsNil _ _) (oversNil _ _) (fuel := 3000) (depth := 40) (by kernel_rfl) (fun i d => match i with | 0 => ((d 4).toInt - (d 0).toInt).toNat | 1 => ((d 4).toInt - (d 0).toInt).toNat | 2 => ((d 4).toInt - (d 0).toInt).toNat | _ => ((d 4).toInt - (d 0).toInt).toNat) ?_
 intro i hi d hp hR hA
 match i, hi with
 | 0, _ =>
   have hp := allTold'_iff.2 hp
   simp only [gC, gC00, tl] at hp hR hA
   simp only [gq, D.toInt_int, D.ints_ofInts, UO.den] at hp
   obtain ⟨p1, p2, p3, p4, p5, p6, p7, p8, p9, pf, pz⟩ := hp
   have hb : True := trivial
   by_cases h : (d 4).toInt ≤ (d 0).toInt
   ·exfalso
    have ce := cuts_end (x := (d 2).ints) (o := (d 3).toInt) (t := (d 4).toInt) (i := (d 0).toInt) (n := 0) (by omega)
    simp only [ce, List.length_nil] at pf pz
    all_goals omega
   ·obtain ⟨wf, wn, el, hr, hy, hz, e6, e7, e8, er⟩ := comm p3 p1 (by omega : (d 0).toInt < (d 4).toInt) (by omega) p7 p9 p8
    have ly := @lfy (d 2) (d 3).toInt (d 4).toInt (d 0).toInt (0) (D.ofInts []) (by omega)
    have ln := @lfn (d 2) (d 3).toInt (d 4).toInt (d 0).toInt (0) (D.ofInts []) (by omega)
    simp only [rollI, stepI, wI] at wf wn
    rw [show (0 : Int) + 1 = 1 from rfl] at ly ln
    by_cases f : 16 ≤ (d 0).toInt
    ·have hw := wf f
     obtain ⟨cn, cc, ci⟩ := ln (by omega)
     rw [cn] at pf pz
     refine ⟨tellA gC00_t1, tellA_ok (allTold'_iff.1 ?_), .inr ⟨2, gC00_h1, _, _, by decide, gC00_y1, dutiesTold_ok ?_, allTold'_iff.1 ?_, ?_⟩⟩
     all_goals (try simp only [gC00_t1, gC00_d1, gC, gC00, gC01, gC10, gC11, gC00_h1_a, gq, er, hw, e6, e8, cn, cc, tl]); all_goals try simp only [hy, getT, ofInts0, cg]
     all_goals first | done | omega | (and_intros <;> first | exact True.intro | rfl | omega | exact hr.symm | exact last_cut3 (by omega) | assumption)
    ·have hw := wn f
     obtain ⟨cn, cc, ci⟩ := ln (by omega)
     rw [cn] at pf pz
     refine ⟨tellA gC00_t0, tellA_ok (allTold'_iff.1 ?_), .inr ⟨2, gC00_h0, _, _, by decide, gC00_y0, dutiesTold_ok ?_, allTold'_iff.1 ?_, ?_⟩⟩
     all_goals (try simp only [gC00_t0, gC00_d0, gC, gC00, gC01, gC10, gC11, gC00_h0_a, gq, er, hw, e6, e8, cn, cc, tl]); all_goals try simp only [hy, getT, ofInts0, cg]
     all_goals first | done | omega | (and_intros <;> first | exact True.intro | rfl | omega | exact hr.symm | exact last_cut3 (by omega) | assumption)
 | 1, _ =>
   have hp := allTold'_iff.2 hp
   simp only [gC, gC01, tl] at hp hR hA
   simp only [gq, D.toInt_int, D.ints_ofInts, UO.den] at hp
   obtain ⟨p1, p2, p3, p4, p5, p6, p7, p8, p9, p10, p11, pf⟩ := hp
   have h12 : (d 12).ints.length = (d 12).toList.length := List.length_map ..
   have hb : (d 12).toList ≠ [] := fun e => by have := congrArg List.length e; simp only [List.length_nil] at this; omega
   by_cases h : (d 4).toInt ≤ (d 0).toInt
   ·exfalso
    have ce := cuts_end (x := (d 2).ints) (o := (d 3).toInt) (t := (d 4).toInt) (i := (d 0).toInt) (n := 0) (by omega)
    simp only [ce, List.length_nil] at pf
    all_goals omega
   ·obtain ⟨wf, wn, el, hr, hy, hz, e6, e7, e8, er⟩ := comm p3 p1 (by omega : (d 0).toInt < (d 4).toInt) (by omega) p7 p9 p8
    have ly := @lfy (d 2) (d 3).toInt (d 4).toInt (d 0).toInt (0) (D.ofInts []) (by omega)
    have ln := @lfn (d 2) (d 3).toInt (d 4).toInt (d 0).toInt (0) (D.ofInts []) (by omega)
    simp only [rollI, stepI, wI] at wf wn
    rw [show (0 : Int) + 1 = 1 from rfl] at ly ln
    by_cases f : 16 ≤ (d 0).toInt
    ·have hw := wf f
     obtain ⟨cn, cc, ci⟩ := ln (by omega)
     rw [cn] at pf
     refine ⟨tellA gC01_t1, tellA_ok (allTold'_iff.1 ?_), .inr ⟨3, gC01_h1, _, _, by decide, gC01_y1, dutiesTold_ok ?_, allTold'_iff.1 ?_, ?_⟩⟩
     all_goals (try simp only [gC01_t1, gC01_d1, gC, gC00, gC01, gC10, gC11, gC01_h1_a, gq, er, hw, e6, e8, cn, cc, tl]); all_goals try simp only [hy, getT, ofInts0, cg]
     all_goals first | done | omega | (and_intros <;> first | exact True.intro | rfl | omega | exact hr.symm | exact last_cut3 (by omega) | assumption)
    ·have hw := wn f
     obtain ⟨cn, cc, ci⟩ := ln (by omega)
     rw [cn] at pf
     refine ⟨tellA gC01_t0, tellA_ok (allTold'_iff.1 ?_), .inr ⟨3, gC01_h0, _, _, by decide, gC01_y0, dutiesTold_ok ?_, allTold'_iff.1 ?_, ?_⟩⟩
     all_goals (try simp only [gC01_t0, gC01_d0, gC, gC00, gC01, gC10, gC11, gC01_h0_a, gq, er, hw, e6, e8, cn, cc, tl]); all_goals try simp only [hy, getT, ofInts0, cg]
     all_goals first | done | omega | (and_intros <;> first | exact True.intro | rfl | omega | exact hr.symm | exact last_cut3 (by omega) | assumption)
 | 2, _ =>
   have hp := allTold'_iff.2 hp
   simp only [gC, gC10, tl] at hp hR hA
   simp only [gq, D.toInt_int, D.ints_ofInts, UO.den] at hp
   obtain ⟨p1, p2, p3, p4, p5, p6, p7, p8, p9, p10, p11, p12, pf, pz⟩ := hp
   have hb : True := trivial
   by_cases h : (d 4).toInt ≤ (d 0).toInt
   ·exfalso
    have ce := cuts_end (x := (d 2).ints) (o := (d 3).toInt) (t := (d 4).toInt) (i := (d 0).toInt) (n := (d 1).toInt) (by omega)
    simp only [ce, List.length_nil] at pf pz
    all_goals omega
   ·obtain ⟨wf, wn, el, hr, hy, hz, e6, e7, e8, er⟩ := comm p3 p1 (by omega : (d 0).toInt < (d 4).toInt) (by omega) p7 p9 p8
    have ly := @lfy (d 2) (d 3).toInt (d 4).toInt (d 0).toInt (d 1).toInt (d 10) (by omega)
    have ln := @lfn (d 2) (d 3).toInt (d 4).toInt (d 0).toInt (d 1).toInt (d 10) (by omega)
    simp only [rollI, stepI, wI] at wf wn
    by_cases q : (d 1).toInt + 1 < 64
    ·by_cases f : 16 ≤ (d 0).toInt
     ·have hw := wf f
      obtain ⟨cn, cc, ci⟩ := ln (by omega)
      rw [cn] at pf pz
      refine ⟨tellA gC10_t1, tellA_ok (allTold'_iff.1 ?_), .inr ⟨2, gC10_h1, _, _, by decide, gC10_y1, dutiesTold_ok ?_, allTold'_iff.1 ?_, ?_⟩⟩
      all_goals (try simp only [gC10_t1, gC10_d1, gC, gC00, gC01, gC10, gC11, gC10_h1_a, gq, er, hw, e6, e8, cn, cc, tl]); all_goals try simp only [hy, getT, ofInts0, cg]
      all_goals first | done | omega | (and_intros <;> first | exact True.intro | rfl | omega | exact hr.symm | exact last_cut3 (by omega) | assumption)
     ·have hw := wn f
      obtain ⟨cn, cc, ci⟩ := ln (by omega)
      rw [cn] at pf pz
      refine ⟨tellA gC10_t0, tellA_ok (allTold'_iff.1 ?_), .inr ⟨2, gC10_h0, _, _, by decide, gC10_y0, dutiesTold_ok ?_, allTold'_iff.1 ?_, ?_⟩⟩
      all_goals (try simp only [gC10_t0, gC10_d0, gC, gC00, gC01, gC10, gC11, gC10_h0_a, gq, er, hw, e6, e8, cn, cc, tl]); all_goals try simp only [hy, getT, ofInts0, cg]
      all_goals first | done | omega | (and_intros <;> first | exact True.intro | rfl | omega | exact hr.symm | exact last_cut3 (by omega) | assumption)
    ·have hw := wf (by omega)
     by_cases g : (d 1).toInt + 1 = 1024
     ·obtain ⟨cn, cc, ci⟩ := ly (by omega)
      rw [cn] at pf pz
      refine ⟨tellA gC10_t4, tellA_ok (allTold'_iff.1 ?_), .inr ⟨1, gC10_h4, _, _, by decide, gC10_y4, dutiesTold_ok ?_, allTold'_iff.1 ?_, ?_⟩⟩
      all_goals (try simp only [gC10_t4, gC10_d4, gC, gC00, gC01, gC10, gC11, gC10_h4_a, gq, er, hw, e6, e8, cn, cc, tl]); all_goals try simp only [hy, getT, ofInts0, cg]
      all_goals first | done | omega | (and_intros <;> first | exact True.intro | rfl | omega | exact hr.symm | exact last_cut3 (by omega) | assumption)
     ·by_cases w : winI (d 2).ints (d 3).toInt ((d 0).toInt + 1) < 16777216
      ·obtain ⟨cn, cc, ci⟩ := ly (by omega)
       rw [cn] at pf pz
       refine ⟨tellA gC10_t3, tellA_ok (allTold'_iff.1 ?_), .inr ⟨1, gC10_h3, _, _, by decide, gC10_y3, dutiesTold_ok ?_, allTold'_iff.1 ?_, ?_⟩⟩
       all_goals (try simp only [gC10_t3, gC10_d3, gC, gC00, gC01, gC10, gC11, gC10_h3_a, gq, er, hw, e6, e8, cn, cc, tl]); all_goals try simp only [hy, getT, ofInts0, cg]
       all_goals first | done | omega | (and_intros <;> first | exact True.intro | rfl | omega | exact hr.symm | exact last_cut3 (by omega) | assumption)
      ·obtain ⟨cn, cc, ci⟩ := ln (by omega)
       rw [cn] at pf pz
       refine ⟨tellA gC10_t2, tellA_ok (allTold'_iff.1 ?_), .inr ⟨2, gC10_h2, _, _, by decide, gC10_y2, dutiesTold_ok ?_, allTold'_iff.1 ?_, ?_⟩⟩
       all_goals (try simp only [gC10_t2, gC10_d2, gC, gC00, gC01, gC10, gC11, gC10_h2_a, gq, er, hw, e6, e8, cn, cc, tl]); all_goals try simp only [hy, getT, ofInts0, cg]
       all_goals first | done | omega | (and_intros <;> first | exact True.intro | rfl | omega | exact hr.symm | exact last_cut3 (by omega) | assumption)
 | 3, _ =>
   have hp := allTold'_iff.2 hp
   simp only [gC, gC11, tl] at hp hR hA
   simp only [gq, D.toInt_int, D.ints_ofInts, UO.den] at hp
   obtain ⟨p1, p2, p3, p4, p5, p6, p7, p8, p9, p10, p11, p12, p13, p14, pf⟩ := hp
   have h12 : (d 12).ints.length = (d 12).toList.length := List.length_map ..
   have hb : (d 12).toList ≠ [] := fun e => by have := congrArg List.length e; simp only [List.length_nil] at this; omega
   by_cases h : (d 4).toInt ≤ (d 0).toInt
   ·have ce := cuts_end (x := (d 2).ints) (o := (d 3).toInt) (t := (d 4).toInt) (i := (d 0).toInt) (n := (d 1).toInt) (by omega)
    have cf := ch_end (x := d 2) (o := (d 3).toInt) (t := (d 4).toInt) (i := (d 0).toInt) (n := (d 1).toInt) (l := (d 10)) (by omega)
    have i4 : (d 0).toInt = (d 4).toInt := by omega
    rw [← i4] at ce cf
    refine ⟨tellA gC11_t5, tellA_ok (allTold'_iff.1 ?_), .inl ⟨_, _, _, gC11_y5, dutiesTold_ok ?_⟩⟩
    ·simp only [gC11_t5, tl]
     omega
    ·simp only [gC11_d5, gq, tl]
     (try simp only [← i4, ce, cf, p7, Int.natCast_zero, Int.add_zero, prt_nil (x := (d 2).ints) (o := (d 3).toInt + (d 0).toInt) (t := (d 3).toInt + (d 0).toInt) (by omega) (by omega), List.append_nil, List.length_nil, D.ints_ofInts]); first | done | (and_intros <;> first | exact True.intro | rfl | omega | exact (last_all (by omega)) | exact (last_all (by omega)).symm | (rw [list_back hb]; done) | exact (congrArg D.code (list_back hb)).symm | assumption)
   ·obtain ⟨wf, wn, el, hr, hy, hz, e6, e7, e8, er⟩ := comm p3 p1 (by omega : (d 0).toInt < (d 4).toInt) (by omega) p7 p9 p8
    have ly := @lfy (d 2) (d 3).toInt (d 4).toInt (d 0).toInt (d 1).toInt (d 10) (by omega)
    have ln := @lfn (d 2) (d 3).toInt (d 4).toInt (d 0).toInt (d 1).toInt (d 10) (by omega)
    simp only [rollI, stepI, wI] at wf wn
    by_cases q : (d 1).toInt + 1 < 64
    ·by_cases f : 16 ≤ (d 0).toInt
     ·have hw := wf f
      obtain ⟨cn, cc, ci⟩ := ln (by omega)
      rw [cn] at pf
      refine ⟨tellA gC11_t1, tellA_ok (allTold'_iff.1 ?_), .inr ⟨3, gC11_h1, _, _, by decide, gC11_y1, dutiesTold_ok ?_, allTold'_iff.1 ?_, ?_⟩⟩
      all_goals (try simp only [gC11_t1, gC11_d1, gC, gC00, gC01, gC10, gC11, gC11_h1_a, gq, er, hw, e6, e8, cn, cc, tl]); all_goals try simp only [hy, getT, ofInts0, cg]
      all_goals first | done | omega | (and_intros <;> first | exact True.intro | rfl | omega | exact hr.symm | exact last_cut3 (by omega) | assumption)
     ·have hw := wn f
      obtain ⟨cn, cc, ci⟩ := ln (by omega)
      rw [cn] at pf
      refine ⟨tellA gC11_t0, tellA_ok (allTold'_iff.1 ?_), .inr ⟨3, gC11_h0, _, _, by decide, gC11_y0, dutiesTold_ok ?_, allTold'_iff.1 ?_, ?_⟩⟩
      all_goals (try simp only [gC11_t0, gC11_d0, gC, gC00, gC01, gC10, gC11, gC11_h0_a, gq, er, hw, e6, e8, cn, cc, tl]); all_goals try simp only [hy, getT, ofInts0, cg]
      all_goals first | done | omega | (and_intros <;> first | exact True.intro | rfl | omega | exact hr.symm | exact last_cut3 (by omega) | assumption)
    ·have hw := wf (by omega)
     by_cases g : (d 1).toInt + 1 = 1024
     ·obtain ⟨cn, cc, ci⟩ := ly (by omega)
      rw [cn] at pf
      refine ⟨tellA gC11_t4, tellA_ok (allTold'_iff.1 ?_), .inr ⟨1, gC11_h4, _, _, by decide, gC11_y4, dutiesTold_ok ?_, allTold'_iff.1 ?_, ?_⟩⟩
      all_goals (try simp only [gC11_t4, gC11_d4, gC, gC00, gC01, gC10, gC11, gC11_h4_a, gq, er, hw, e6, e8, cn, cc, tl]); all_goals try simp only [hy, getT, ofInts0, cg]
      all_goals first | done | omega | (and_intros <;> first | exact True.intro | rfl | omega | exact hr.symm | exact last_cut3 (by omega) | assumption)
     ·by_cases w : winI (d 2).ints (d 3).toInt ((d 0).toInt + 1) < 16777216
      ·obtain ⟨cn, cc, ci⟩ := ly (by omega)
       rw [cn] at pf
       refine ⟨tellA gC11_t3, tellA_ok (allTold'_iff.1 ?_), .inr ⟨1, gC11_h3, _, _, by decide, gC11_y3, dutiesTold_ok ?_, allTold'_iff.1 ?_, ?_⟩⟩
       all_goals (try simp only [gC11_t3, gC11_d3, gC, gC00, gC01, gC10, gC11, gC11_h3_a, gq, er, hw, e6, e8, cn, cc, tl]); all_goals try simp only [hy, getT, ofInts0, cg]
       all_goals first | done | omega | (and_intros <;> first | exact True.intro | rfl | omega | exact hr.symm | exact last_cut3 (by omega) | assumption)
      ·obtain ⟨cn, cc, ci⟩ := ln (by omega)
       rw [cn] at pf
       refine ⟨tellA gC11_t2, tellA_ok (allTold'_iff.1 ?_), .inr ⟨3, gC11_h2, _, _, by decide, gC11_y2, dutiesTold_ok ?_, allTold'_iff.1 ?_, ?_⟩⟩
       all_goals (try simp only [gC11_t2, gC11_d2, gC, gC00, gC01, gC10, gC11, gC11_h2_a, gq, er, hw, e6, e8, cn, cc, tl]); all_goals try simp only [hy, getT, ofInts0, cg]
       all_goals first | done | omega | (and_intros <;> first | exact True.intro | rfl | omega | exact hr.symm | exact last_cut3 (by omega) | assumption)
theorem gC00_holds : LHolds Try.prog (loopAt Try.prog 26 [4, 1]) gC00 F := gC_holds 0 (by decide)
theorem gC01_holds : LHolds Try.prog (loopAt Try.prog 26 [4, 1]) gC01 F := gC_holds 1 (by decide)
theorem gC10_holds : LHolds Try.prog (loopAt Try.prog 26 [4, 1]) gC10 F := gC_holds 2 (by decide)
theorem gC11_holds : LHolds Try.prog (loopAt Try.prog 26 [4, 1]) gC11 F := gC_holds 3 (by decide)

end Go.Proofs.Ytceealenelhaiaa.Ga
