/-
 Contracts of this seat: what loops and calls leave, for all inputs. No condition.
-/
import Derived.Test.YtmmfjmmldhnpfaaSycp
import Derived.Test.YtmmfjmmldhnpfaaCo
set_option linter.unusedSimpArgs false
set_option linter.unusedVariables false
namespace Go.Proofs.Ytmmfjmmldhnpfaa.Na
open Go.RowKit Go.Ev Go.Proofs.Ytmmfjmmldhnpfaa.Co

def putN : Nat → Int → List Int → List Int
 | 0, _, acc => acc
 | f + 1, q, acc => if q = 0 then acc else putN f (q / 128) ((q % 128 + 128) :: acc)
def putL (n : Int) : List Int := putN 4 (n / 128) [n % 128]
def szI (n : Int) : Int := if n < 128 then 1 else if n < 16384 then 2 else if n < 2097152 then 3 else if n < 268435456 then 4 else 5
def goL : Nat → Int → List Int → Int × Int × Int
 | _, _, [] => (1, 0, 0)
 | k, n, c :: l => if c < 128 then (if n * 128 + c ≤ 2147483647 then (0, n * 128 + c, 1) else (3, 0, 0)) else
  match k with
  | 0 => (3, 0, 0)
  | k + 1 => ((goL k (n * 128 + (c - 128)) l).1, (goL k (n * 128 + (c - 128)) l).2.1, (goL k (n * 128 + (c - 128)) l).2.2 + 1)
abbrev txNa0 : E := (.bi .snoc (.lits []) (.lits [112, 97, 114, 116]))
abbrev txNa1 : E := (.bi .snoc (.lits []) (.lits [104, 97, 118, 101]))
abbrev txNa2 : E := (.bi .snoc (.lits []) (.lits [102, 97, 105, 108]))
abbrev txNa3 : E := (.bi .pair (.var 5) (.bi .pair (.var 2) (.int 0)))
abbrev txNa4 : E := (.bi .snoc (.lits []) (.lits [103, 105, 118, 101]))
abbrev txNa5 : E := (.bi .snoc (.lits []) (.lits [108, 105, 115, 116]))
abbrev txNa6 : E := (.bi .snoc (.lits []) (.lits [109, 111, 114, 101]))
abbrev txNa7 : E := (.bi .snoc (.lits []) (.lits [112, 105, 110, 103]))
abbrev txNa8 : E := (.bi .snoc (.lits []) (.lits [116, 111, 111, 107]))
abbrev txNa9 : E := (.bi .snoc (.lits []) (.lits [100, 111, 110, 101]))
abbrev zNa17 : E := (.bi .snoc (.lits []) (.int 0))
abbrev txNa10 : E := (.bi .snoc zNa17 (.int 0))
abbrev txNa11 : E := (.bi .snoc (.bi .snoc (.lits []) (.int 3)) (.int 3))
abbrev zNa13 : E := (.bi .snoc (.lits []) (.int 1))
abbrev txNa12 : E := (.bi .snoc zNa13 (.int 1))
abbrev txNa13 : E := (.bi .snoc (.bi .snoc (.lits []) (.int 2)) (.int 2))
abbrev txNa14 : E := (.bi .snoc zNa13 (.int 16))
abbrev txNa15 : E := (.bi .snoc (.lits []) (.lits [97, 98, 111, 114, 116]))
abbrev txNa16 : E := (.bi .snoc zNa17 (.int 128))
abbrev txNa17 : E := (.bi .snoc (.lits []) (.lits [98, 101, 103, 105, 110]))
abbrev txNa18 : E := (.bi .snoc zNa13 (.int 1000))
abbrev txNa19 : E := (.bi .snoc zNa13 (.int 1024))
abbrev txNa20 : E := (.bi .snoc (.lits []) (.lits [102, 101, 116, 99, 104]))
abbrev txNa21 : E := (.bi .snoc (.lits []) (.lits [117, 115, 97, 103, 101]))
abbrev txNa22 : E := (.bi .snoc (.lits []) (.lits [114, 101, 97, 100, 121]))
abbrev txNa23 : E := (.bi .snoc (.lits []) (.lits [115, 110, 97, 112, 115]))
abbrev txNa24 : E := (.bi .snoc (.lits []) (.lits [112, 105, 101, 99, 101]))
abbrev txNa25 : E := (.bi .snoc zNa17 (.int 1000))
abbrev txNa26 : E := (.bi .snoc (.lits []) (.lits [99, 104, 117, 110, 107]))
abbrev txNa27 : E := (.bi .snoc (.lits []) (.lits [99, 111, 117, 110, 116]))
abbrev txNa28 : E := (.bi .snoc (.lits []) (.lits [113, 117, 101, 114, 121]))
abbrev txNa29 : E := (.bi .snoc (.lits []) (.lits [112, 114, 117, 110, 101]))
abbrev zNa1 : E := (.bi .pair (.var 0) (.int 0))
abbrev txNa30 : E := (.bi .sub (.int 5) (.fn 1 zNa1))
abbrev txNa31 : E := (.un (.wrap .u8) (.bi (.iop .rem .i64) (.var 0) (.int 128)))
abbrev txNa32 : E := (.bi .snoc (.lits []) (.lits [99, 111, 109, 109, 105, 116]))
abbrev txNa33 : E := (.bi .snoc (.lits []) (.lits [118, 101, 114, 105, 102, 121]))
abbrev txNa34 : E := (.bi .snoc (.lits []) (.lits [102, 111, 114, 103, 101, 116]))
abbrev txNa35 : E := (.bi .snoc (.lits []) (.lits [114, 101, 115, 116, 111, 114, 101]))
abbrev txNa36 : E := (.bi .sel (.fn 31 (.int 0)) (.fn 30 zNa1))
abbrev txNa37 : E := (.bi (.iop .rem .i64) (.bi (.iop .shr .i64) (.var 0) (.int 0)) (.int 128))
abbrev txNa38 : E := (.bi (.iop .rem .i64) (.bi (.iop .shr .i64) (.var 0) (.int 7)) (.int 128))
abbrev txNa39 : E := (.bi (.iop .rem .i64) (.bi (.iop .shr .i64) (.var 0) (.int 14)) (.int 128))
abbrev txNa40 : E := (.bi (.iop .rem .i64) (.bi (.iop .shr .i64) (.var 0) (.int 21)) (.int 128))
abbrev txNa41 : E := (.bi (.iop .rem .i64) (.bi (.iop .shr .i64) (.var 0) (.int 28)) (.int 128))
abbrev zNa4 : E := (.bi (.iop .quo .i64) (.var 0) (.int 128))
abbrev txNa42 : E := (.bi (.iop .quo .i64) zNa4 (.int 128))
abbrev txNa43 : E := (.bi (.iop .rem .i64) zNa4 (.int 128))
abbrev txNa44 : E := (.bi .pair (.var 1) (.bi .pair (.int 0) txNa3))
abbrev txNa45 : E := (.bi .pair (.var 1) (.bi .pair (.var 3) txNa3))
abbrev txNa46 : E := (.bi .snoc (.bi .snoc (.lits []) (.lits [])) txNa10)
abbrev txNa47 : E := (.bi .sel (.bi .sel txNa36 (.int 1)) (.int 0))
abbrev txNa48 : E := (.bi .sel (.bi .sel txNa36 (.int 1)) (.int 1))
abbrev txNa49 : E := (.bi .sel (.bi .sel txNa36 (.int 2)) (.int 0))
abbrev txNa50 : E := (.bi .sel (.bi .sel txNa36 (.int 2)) (.int 1))
abbrev txNa51 : E := (.bi .sel (.bi .sel txNa36 (.int 3)) (.int 0))
abbrev txNa52 : E := (.bi .sel (.bi .sel txNa36 (.int 3)) (.int 1))
abbrev txNa53 : E := (.un (.wrap .u8) (.bi .add txNa38 (.int 128)))
abbrev txNa54 : E := (.un (.wrap .u8) (.bi .add txNa39 (.int 128)))
abbrev txNa55 : E := (.un (.wrap .u8) (.bi .add txNa40 (.int 128)))
abbrev txNa56 : E := (.bi .app (.un .one (.un (.wrap .u8) txNa37)) (.lits []))
abbrev txNa57 : E := (.bi (.iop .add .u8) (.un (.wrap .u8) txNa43) (.int 128))
abbrev txNa58 : E := (.un (.wrap .u8) (.bi (.iop .rem .i64) txNa42 (.int 128)))
abbrev zNa5 : E := (.bi (.iop .quo .i64) txNa42 (.int 128))
abbrev txNa59 : E := (.bi (.iop .quo .i64) zNa5 (.int 128))
abbrev txNa60 : E := (.bi (.iop .rem .i64) zNa5 (.int 128))
abbrev txNa61 : E := (.un .one (.bi (.iop .add .u8) txNa58 (.int 128)))
abbrev txNa62 : E := (.bi .snoc (.bi .snoc txNa15 txNa10) txNa10)
abbrev txNa63 : E := (.bi .snoc (.bi .snoc txNa17 txNa11) txNa10)
abbrev txNa64 : E := (.bi .snoc (.bi .snoc txNa21 txNa10) txNa10)
abbrev txNa65 : E := (.bi .snoc (.bi .snoc txNa22 txNa12) txNa10)
abbrev txNa66 : E := (.bi .snoc (.bi .snoc txNa24 txNa13) txNa10)
abbrev txNa67 : E := (.bi .snoc (.bi .snoc txNa26 txNa10) txNa12)
abbrev txNa68 : E := (.bi .snoc (.bi .snoc txNa27 txNa13) txNa10)
abbrev txNa69 : E := (.bi .snoc (.bi .snoc txNa20 txNa10) txNa14)
abbrev txNa70 : E := (.bi .snoc (.bi .snoc txNa29 txNa10) txNa10)
abbrev txNa71 : E := (.bi .snoc (.bi .snoc txNa28 txNa10) txNa14)
abbrev txNa72 : E := (.bi .snoc (.bi .snoc txNa23 txNa16) txNa10)
abbrev txNa73 : E := (.bi .snoc (.bi .snoc txNa32 txNa10) txNa10)
abbrev txNa74 : E := (.bi .snoc (.bi .snoc txNa33 txNa12) txNa10)
abbrev txNa75 : E := (.bi .snoc (.bi .snoc txNa34 txNa12) txNa10)
abbrev txNa76 : E := (.bi (.iop .add .u8) (.un (.wrap .u8) txNa60) (.int 128))
abbrev txNa77 : E := (.bi .snoc (.bi .snoc txNa35 txNa12) txNa10)
abbrev txNa78 : E := (.bi .snoc (.bi .snoc txNa46 txNa10) txNa10)
abbrev txNa79 : E := (.bi .app (.un .one txNa57) (.bi .app (.un .one txNa31) (.lits [])))
abbrev txNa80 : E := (.bi .snoc (.bi .snoc (.bi .snoc txNa2 txNa13) txNa10) txNa10)
abbrev txNa81 : E := (.bi .snoc (.bi .snoc (.bi .snoc txNa5 txNa10) txNa10) txNa10)
abbrev txNa82 : E := (.bi .snoc (.bi .snoc (.bi .snoc txNa6 txNa12) txNa10) txNa10)
abbrev txNa83 : E := (.bi .snoc (.bi .snoc (.bi .snoc txNa7 txNa12) txNa10) txNa10)
abbrev txNa84 : E := (.bi .snoc (.bi .snoc (.bi .snoc txNa1 txNa14) txNa10) txNa10)
abbrev txNa85 : E := (.bi .snoc (.bi .snoc (.bi .snoc txNa8 txNa10) txNa12) txNa10)
abbrev txNa86 : E := (.bi .snoc (.bi .snoc (.bi .snoc txNa9 txNa12) txNa10) txNa10)
abbrev txNa87 : E := (.bi .snoc (.bi .snoc (.bi .snoc txNa0 txNa12) txNa10) txNa18)
abbrev txNa88 : E := (.bi .snoc (.bi .snoc (.bi .snoc txNa4 txNa10) txNa12) txNa19)
abbrev txNa89 : E := (.bi .app (.un .one txNa54) (.bi .app (.un .one txNa53) txNa56))
abbrev txNa90 : E := (.bi .snoc (.bi .snoc (.lits []) txNa78) (.bi .snoc txNa63 txNa10))
abbrev txNa91 : E := (.bi .app (.un .one txNa76) (.bi .app txNa61 txNa79))
abbrev txNa92 : E := (.bi .snoc (.bi .snoc txNa90 txNa87) (.bi .snoc txNa71 txNa10))
abbrev txNa93 : E := (.bi .snoc (.bi .snoc txNa92 txNa88) (.bi .snoc txNa73 txNa10))
abbrev txNa94 : E := (.bi .snoc txNa93 (.bi .snoc txNa62 txNa10))
abbrev txNa95 : E := (.bi .snoc (.bi .snoc txNa94 txNa81) (.bi .snoc txNa77 txNa10))
abbrev txNa96 : E := (.bi .snoc (.bi .snoc txNa95 txNa82) (.bi .snoc txNa69 txNa10))
abbrev txNa97 : E := (.bi .snoc txNa96 (.bi .snoc txNa74 txNa10))
abbrev txNa98 : E := (.bi .snoc txNa97 (.bi .snoc txNa75 txNa10))
abbrev txNa99 : E := (.bi .snoc txNa98 (.bi .snoc txNa70 txNa10))
abbrev txNa100 : E := (.bi .snoc txNa99 (.bi .snoc txNa64 txNa10))
abbrev txNa101 : E := (.bi .snoc (.bi .snoc txNa100 txNa83) (.bi .snoc txNa65 txNa10))
abbrev txNa102 : E := (.bi .snoc (.bi .snoc txNa101 txNa84) txNa85)
abbrev txNa103 : E := (.bi .snoc (.bi .snoc txNa102 txNa86) txNa80)
abbrev txNa104 : E := (.bi .snoc txNa103 (.bi .snoc txNa72 txNa10))
abbrev zNa0 : Duty := (false, (.un .code (.bi .snoc (.bi .snoc (.bi .snoc txNa104 (.bi .snoc txNa66 txNa25)) (.bi .snoc txNa67 txNa19)) (.bi .snoc txNa68 txNa10))), (.un .code (.fn 31 (.int 0))))
abbrev zNa11 : E := (.fn 32 (.bi .pair (.var 0) txNa45))
abbrev zNa2 : Duty := (true, (.int 5), zNa11)
abbrev zNa3 : E := (.fn 32 (.bi .pair (.var 0) txNa44))
abbrev zNa6 : Duty := (true, (.int 1), (.fn 1 zNa1))
abbrev zNa7 : Duty := (true, (.int 2), (.fn 1 zNa1))
abbrev zNa8 : Duty := (true, (.int 3), (.fn 1 zNa1))
abbrev zNa9 : Duty := (true, (.int 4), (.fn 1 zNa1))
abbrev zNa10 : Duty := (true, (.int 5), (.fn 1 zNa1))
abbrev zNa12 : E := (.bi .add (.var 0) (.int 1))
abbrev zNa14 : Nat × RW := (3, .eseq ⟨.i64, .var 1, .var 2⟩)
abbrev zNa15 : E := (.bi .sel (.var 2) (.var 0))
abbrev zNa16 : E := (.fn 33 (.bi .pair (.var 2) (.bi .pair (.int 0) (.int 0))))
abbrev zNa18 : Duty := (true, (.int 0), (.fn 30 zNa1))
def numL : List Int → Int × Int × Int
 | [] => (1, 0, 0)
 | c :: l => if c = 128 then (2, 0, 0) else goL 4 0 (c :: l)
def errI (c : Int) : Int := if c = 3 then 5 else 4
def atI (c a t : Int) : Int := if c = 1 then t else a

def fiveI (n : Int) : List Int := List.replicate (5 - szI n).toNat 0 ++ putL n
def markI (i : Int) : Int := 160 + i % 90
def lentI (l : List Int) : List Int := l ++ [markI l.length, markI (l.length + 1), markI (l.length + 2)]
def lensI : List D → Int
 | [] => 0
 | x :: l => ((x.toList[3]?.getD (D.int 0)).toList.length : Int) + lensI l
def pr2 (a b : Int) : D := .list [.int a, .int b]
def tabL : List D := [.list [D.ofInts [], pr2 0 0, pr2 0 0, pr2 0 0], .list [D.ofInts [98, 101, 103, 105, 110], pr2 3 3, pr2 0 0, pr2 0 0], .list [D.ofInts [112, 97, 114, 116], pr2 1 1, pr2 0 0, pr2 1 1000], .list [D.ofInts [113, 117, 101, 114, 121], pr2 0 0, pr2 1 16, pr2 0 0], .list [D.ofInts [103, 105, 118, 101], pr2 0 0, pr2 1 1, pr2 1 1024], .list [D.ofInts [99, 111, 109, 109, 105, 116], pr2 0 0, pr2 0 0, pr2 0 0], .list [D.ofInts [97, 98, 111, 114, 116], pr2 0 0, pr2 0 0, pr2 0 0], .list [D.ofInts [108, 105, 115, 116], pr2 0 0, pr2 0 0, pr2 0 0], .list [D.ofInts [114, 101, 115, 116, 111, 114, 101], pr2 1 1, pr2 0 0, pr2 0 0], .list [D.ofInts [109, 111, 114, 101], pr2 1 1, pr2 0 0, pr2 0 0], .list [D.ofInts [102, 101, 116, 99, 104], pr2 0 0, pr2 1 16, pr2 0 0], .list [D.ofInts [118, 101, 114, 105, 102, 121], pr2 1 1, pr2 0 0, pr2 0 0], .list [D.ofInts [102, 111, 114, 103, 101, 116], pr2 1 1, pr2 0 0, pr2 0 0], .list [D.ofInts [112, 114, 117, 110, 101], pr2 0 0, pr2 0 0, pr2 0 0], .list [D.ofInts [117, 115, 97, 103, 101], pr2 0 0, pr2 0 0, pr2 0 0], .list [D.ofInts [112, 105, 110, 103], pr2 1 1, pr2 0 0, pr2 0 0], .list [D.ofInts [114, 101, 97, 100, 121], pr2 1 1, pr2 0 0, pr2 0 0], .list [D.ofInts [104, 97, 118, 101], pr2 1 16, pr2 0 0, pr2 0 0], .list [D.ofInts [116, 111, 111, 107], pr2 0 0, pr2 1 1, pr2 0 0], .list [D.ofInts [100, 111, 110, 101], pr2 1 1, pr2 0 0, pr2 0 0], .list [D.ofInts [102, 97, 105, 108], pr2 2 2, pr2 0 0, pr2 0 0], .list [D.ofInts [115, 110, 97, 112, 115], pr2 0 128, pr2 0 0, pr2 0 0], .list [D.ofInts [112, 105, 101, 99, 101], pr2 2 2, pr2 0 0, pr2 0 1000], .list [D.ofInts [99, 104, 117, 110, 107], pr2 0 0, pr2 1 1, pr2 1 1024], .list [D.ofInts [99, 111, 117, 110, 116], pr2 2 2, pr2 0 0, pr2 0 0]]
def rowI (k : Int) : D := tabL[k.toNat]?.getD (D.int 0)
def nameI (k : Int) : List Int := ((rowI k).toList[Int.toNat 0]?.getD (D.int 0)).ints
def lowI (k j : Int) : Int := ((rowI k).toList[Int.toNat j]?.getD (D.int 0)).ints[Int.toNat 0]?.getD 0
def topI (k j : Int) : Int := ((rowI k).toList[Int.toNat j]?.getD (D.int 0)).ints[Int.toNat 1]?.getD 0
def kindI (k : Int) : Int := if 1 ≤ k ∧ k ≤ 24 then k else 0
def fineL (x : List Int) : Bool := x.all fun c => decide (0 ≤ c ∧ c ≤ 2147483647)
def holdB (k j n : Int) : Bool := decide (lowI k j ≤ n ∧ n ≤ topI k j)
def wrongI (k n i b : Int) (x : List Int) : Int := if nameI (kindI k) = [] then 2 else if holdB (kindI k) 1 n && holdB (kindI k) 2 i && holdB (kindI k) 3 b then if fineL x then 0 else 5 else 5
def almostB (k n i b : Int) (x : List Int) (j : Int) : Bool := decide (nameI (kindI k) ≠ []) && decide (lowI (kindI k) 1 ≤ n ∧ n ≤ topI (kindI k) 1 + (if j = 1 then 1 else 0) ∧ lowI (kindI k) 2 ≤ i ∧ i ≤ topI (kindI k) 2 + (if j = 2 then 1 else 0) ∧ lowI (kindI k) 3 ≤ b ∧ b ≤ topI (kindI k) 3 + (if j = 3 then 1 else 0)) && fineL x
def lackI (k j : Int) (n : Nat) : Nat := (topI (kindI k) j + 1 - (n : Int)).toNat
def zeroD : D := D.ofInts (List.replicate 16 0)
def encI (x : List Int) (i : Int) : List Int := (x.drop i.toNat).flatMap putL
def idsI (y : List D) (i : Int) : List Int := (y.drop i.toNat).flatMap fun d => segI d.ints 0 16
def noteI (k : Int) (x : List Int) (y : List D) (b : List Int) : List Int := putL k ++ putL x.length ++ encI x 0 ++ putL y.length ++ idsI y 0 ++ putL b.length ++ b
def F : Nat → D → D
 | 1 => fun a => .int (szI (argD a 0).toInt)
 | 2 => fun a => D.ofInts (fiveI (argD a 0).toInt)
 | 3 => fun a => D.ofInts (putL (argD a 0).toInt)
 | 7 => fun a => .int ((argD a 0).toInt % (argD a 1).toInt)
 | 20 => fun a => .int (numL (prt (argD a 0).ints (argD a 1).toInt (argD a 2).toInt)).1
 | 21 => fun a => .int (numL (prt (argD a 0).ints (argD a 1).toInt (argD a 2).toInt)).2.1
 | 22 => fun a => .int (numL (prt (argD a 0).ints (argD a 1).toInt (argD a 2).toInt)).2.2
 | 23 => fun a => .int (errI (numL (prt (argD a 0).ints (argD a 1).toInt (argD a 2).toInt)).1)
 | 24 => fun a => .int (atI (numL (prt (argD a 0).ints (argD a 1).toInt (argD a 2).toInt)).1 (argD a 1).toInt (argD a 2).toInt)
 | 40 => fun a => .int (if 0 ≤ (argD a 0).toInt ∧ (argD a 0).toInt ≤ 2147483647 then szI (argD a 0).toInt else 0)
 | 6 => fun a => D.ofInts (lentI (prt (argD a 0).ints (argD a 1).toInt (argD a 2).toInt))
 | 30 => fun a => .int (kindI (argD a 0).toInt)
 | 31 => fun _ => .list tabL
 | 32 => fun a => .int (wrongI (argD a 0).toInt (argD a 1).toInt (argD a 2).toInt (argD a 3).toInt (argD a 4).ints)
 | 33 => fun a => .int (if fineL ((argD a 0).ints.drop (argD a 1).toInt.toNat) then 1 else 0)
 | 34 => fun a => .int (if almostB (argD a 0).toInt (argD a 1).toInt (argD a 2).toInt (argD a 3).toInt (argD a 4).ints (argD a 5).toInt then 1 else 0)
 | 35 => fun a => .int (topI (kindI (argD a 0).toInt) (argD a 1).toInt + 1)
 | 36 => fun a => D.ofInts ((argD a 2).ints ++ List.replicate (lackI (argD a 0).toInt (argD a 1).toInt (argD a 2).ints.length) 0)
 | 37 => fun a => .list ((argD a 1).toList ++ List.replicate (lackI (argD a 0).toInt 2 (argD a 1).toList.length) zeroD)
 | 80 => fun a => D.ofInts (encI (argD a 0).ints (argD a 1).toInt)
 | 81 => fun a => D.ofInts (idsI (argD a 0).toList (argD a 1).toInt)
 | 82 => fun a => D.ofInts (noteI (argD a 0).toInt (argD a 1).ints (argD a 2).toList (argD a 3).ints)
 | 98 => fun a => argD a 0
 | _ => fun x => x
theorem put1 {n : Int} (h0 : 0 ≤ n) (h : n < 128) : putL n = [n] := by
 have : n / 128 = 0 := by omega
 simp only [putL, putN, this, if_true]
 congr 1; omega
theorem put2 {n : Int} (h0 : 128 ≤ n) (h : n < 16384) : putL n = [n / 128 + 128, n % 128] := by
 have e1 : ¬ n / 128 = 0 := by omega
 have e2 : n / 128 / 128 = 0 := by omega
 simp only [putL, putN, if_neg e1, e2, if_true]
 congr 1; omega
theorem put3 {n : Int} (h0 : 16384 ≤ n) (h : n < 2097152) : putL n = [n / 128 / 128 + 128, n / 128 % 128 + 128, n % 128] := by
 have e1 : ¬ n / 128 = 0 := by omega
 have e2 : ¬ n / 128 / 128 = 0 := by omega
 have e3 : n / 128 / 128 / 128 = 0 := by omega
 simp only [putL, putN, if_neg e1, if_neg e2, e3, if_true]
 congr 1; omega
theorem put4 {n : Int} (h0 : 2097152 ≤ n) (h : n < 268435456) : putL n = [n / 128 / 128 / 128 + 128, n / 128 / 128 % 128 + 128, n / 128 % 128 + 128, n % 128] := by
 have e1 : ¬ n / 128 = 0 := by omega
 have e2 : ¬ n / 128 / 128 = 0 := by omega
 have e3 : ¬ n / 128 / 128 / 128 = 0 := by omega
 have e4 : n / 128 / 128 / 128 / 128 = 0 := by omega
 simp only [putL, putN, if_neg e1, if_neg e2, if_neg e3, e4, if_true]
 congr 1; omega
theorem put5 {n : Int} (h0 : 268435456 ≤ n) (h : n ≤ 2147483647) : putL n = [n / 128 / 128 / 128 / 128 + 128, n / 128 / 128 / 128 % 128 + 128, n / 128 / 128 % 128 + 128, n / 128 % 128 + 128, n % 128] := by
 have e1 : ¬ n / 128 = 0 := by omega
 have e2 : ¬ n / 128 / 128 = 0 := by omega
 have e3 : ¬ n / 128 / 128 / 128 = 0 := by omega
 have e4 : ¬ n / 128 / 128 / 128 / 128 = 0 := by omega
 simp only [putL, putN, if_neg e1, if_neg e2, if_neg e3, if_neg e4]
 congr 1; omega
theorem sz_in (n : Int) : 1 ≤ szI n ∧ szI n ≤ 5 := by unfold szI; split <;> (try split) <;> (try split) <;> (try split) <;> omega
theorem five {n : Int} (h0 : 0 ≤ n) (h : n ≤ 2147483647) : n < 128 ∨ (128 ≤ n ∧ n < 16384) ∨ (16384 ≤ n ∧ n < 2097152) ∨ (2097152 ≤ n ∧ n < 268435456) ∨ 268435456 ≤ n := by omega
theorem put_len {n : Int} (h0 : 0 ≤ n) (h : n ≤ 2147483647) : ((putL n).length : Int) = szI n := by
 rcases five h0 h with c | ⟨c, d⟩ | ⟨c, d⟩ | ⟨c, d⟩ | c
 ·rw [put1 h0 c]; simp [szI, c]
 ·rw [put2 c d]; simp [szI, d, show ¬ n < 128 by omega]
 ·rw [put3 c d]; simp [szI, d, show ¬ n < 128 by omega, show ¬ n < 16384 by omega]
 ·rw [put4 c d]; simp [szI, d, show ¬ n < 128 by omega, show ¬ n < 16384 by omega, show ¬ n < 2097152 by omega]
 ·rw [put5 c h]; simp [szI, show ¬ n < 128 by omega, show ¬ n < 16384 by omega, show ¬ n < 2097152 by omega, show ¬ n < 268435456 by omega]
theorem put_in {n : Int} (h0 : 0 ≤ n) (h : n ≤ 2147483647) : ∀ c ∈ putL n, 0 ≤ c ∧ c ≤ 255 := by
 rcases five h0 h with c | ⟨c, d⟩ | ⟨c, d⟩ | ⟨c, d⟩ | c
 ·rw [put1 h0 c]; simp only [List.mem_cons, List.not_mem_nil, or_false, forall_eq_or_imp, forall_eq]; omega
 ·rw [put2 c d]; simp only [List.mem_cons, List.not_mem_nil, or_false, forall_eq_or_imp, forall_eq]; omega
 ·rw [put3 c d]; simp only [List.mem_cons, List.not_mem_nil, or_false, forall_eq_or_imp, forall_eq]; omega
 ·rw [put4 c d]; simp only [List.mem_cons, List.not_mem_nil, or_false, forall_eq_or_imp, forall_eq]; omega
 ·rw [put5 c h]; simp only [List.mem_cons, List.not_mem_nil, or_false, forall_eq_or_imp, forall_eq]; omega
theorem go_last {k : Nat} {n c : Int} {l : List Int} (h : c < 128) (g : n * 128 + c ≤ 2147483647) : goL k n (c :: l) = (0, n * 128 + c, 1) := by
 unfold goL; rw [if_pos h, if_pos g]
theorem go_over {k : Nat} {n c : Int} {l : List Int} (h : c < 128) (g : ¬ n * 128 + c ≤ 2147483647) : goL k n (c :: l) = (3, 0, 0) := by
 unfold goL; rw [if_pos h, if_neg g]
theorem go_step {k : Nat} {n c : Int} {l : List Int} (h : 128 ≤ c) : goL (k + 1) n (c :: l) = ((goL k (n * 128 + (c - 128)) l).1, (goL k (n * 128 + (c - 128)) l).2.1, (goL k (n * 128 + (c - 128)) l).2.2 + 1) := by
 rw [goL, if_neg (by omega)]
theorem go_end {n c : Int} {l : List Int} (h : 128 ≤ c) : goL 0 n (c :: l) = (3, 0, 0) := by
 rw [goL, if_neg (by omega)]
theorem num_go {c : Int} {l : List Int} (h : ¬ c = 128) : numL (c :: l) = goL 4 0 (c :: l) := by
 rw [numL, if_neg h]
theorem num_put {n : Int} (h0 : 0 ≤ n) (h : n ≤ 2147483647) (r : List Int) : numL (putL n ++ r) = (0, n, szI n) := by
 rcases five h0 h with c | ⟨c, d⟩ | ⟨c, d⟩ | ⟨c, d⟩ | c
 ·rw [put1 h0 c, List.singleton_append, num_go (by omega), go_last (by omega) (by omega)]
  simp [szI, c]
 ·rw [put2 c d, List.cons_append, List.singleton_append, num_go (by omega), go_step (by omega), go_last (by omega) (by omega)]
  simp only [szI, Prod.mk.injEq, d, show ¬ n < 128 by omega, if_false, if_true, and_true, true_and]
  omega
 ·rw [put3 c d, List.cons_append, List.cons_append, List.singleton_append, num_go (by omega), go_step (by omega), go_step (by omega), go_last (by omega) (by omega)]
  simp only [szI, Prod.mk.injEq, d, show ¬ n < 128 by omega, show ¬ n < 16384 by omega, if_false, if_true, and_true, true_and]
  omega
 ·rw [put4 c d, List.cons_append, List.cons_append, List.cons_append, List.singleton_append, num_go (by omega), go_step (by omega), go_step (by omega), go_step (by omega), go_last (by omega) (by omega)]
  simp only [szI, Prod.mk.injEq, d, show ¬ n < 128 by omega, show ¬ n < 16384 by omega, show ¬ n < 2097152 by omega, if_false, if_true, and_true, true_and]
  omega
 ·rw [put5 c h, List.cons_append, List.cons_append, List.cons_append, List.cons_append, List.singleton_append, num_go (by omega), go_step (by omega), go_step (by omega), go_step (by omega), go_step (by omega), go_last (by omega) (by omega)]
  simp only [szI, Prod.mk.injEq, show ¬ n < 128 by omega, show ¬ n < 16384 by omega, show ¬ n < 2097152 by omega, show ¬ n < 268435456 by omega, if_false, if_true, and_true, true_and]
  omega
theorem num_nil : (numL []).1 = 1 := rfl
theorem go_short (k : Nat) (n : Int) : ∀ l : List Int, (∀ c ∈ l, 128 ≤ c) → l.length ≤ k → (goL k n l).1 = 1 := by
 intro l
 induction l generalizing k n with
 | nil => intro _ _; unfold goL; rfl
 | cons c l ih =>
  intro h hk
  cases k with
  | zero => simp at hk
  | succ k => rw [go_step (h c (by simp))]; exact ih k _ (fun d hd => h d (by simp [hd])) (by simpa using hk)
theorem num_cut {n : Int} {k : Nat} (h0 : 0 ≤ n) (h : n ≤ 2147483647) (hk : (k : Int) < szI n) (r : List Int) : (numL ((putL n ++ r).take k)).1 = 1 := by
 have hl := put_len h0 h
 have hs := sz_in n
 rw [List.take_append_of_le_length (by omega)]
 have big : ∀ l : List Int, l ≠ [] → l.length ≤ 4 → (∀ c ∈ l, 128 ≤ c) → (∀ c, l.head? = some c → c ≠ 128) → (numL l).1 = 1 := by
  intro l hne hle hc hh
  cases l with
  | nil => exact (hne rfl).elim
  | cons c l => rw [num_go (hh c rfl)]; exact go_short 4 0 _ hc hle
 by_cases k0 : k = 0
 ·subst k0; rfl
 refine big _ (by intro e; have := congrArg List.length e; rw [List.length_take] at this; simp only [List.length_nil] at this; omega) (by rw [List.length_take]; omega) ?_ ?_
 ·have : ∀ c ∈ (putL n).dropLast, 128 ≤ c := by
   rcases five h0 h with c | ⟨c, d⟩ | ⟨c, d⟩ | ⟨c, d⟩ | c
   ·rw [put1 h0 c]; simp
   ·rw [put2 c d]; simp only [List.dropLast_cons_cons, List.dropLast_singleton, List.mem_cons, List.not_mem_nil, or_false, forall_eq]; omega
   ·rw [put3 c d]; simp only [List.dropLast_cons_cons, List.dropLast_singleton, List.mem_cons, List.not_mem_nil, or_false, forall_eq_or_imp, forall_eq]; omega
   ·rw [put4 c d]; simp only [List.dropLast_cons_cons, List.dropLast_singleton, List.mem_cons, List.not_mem_nil, or_false, forall_eq_or_imp, forall_eq]; omega
   ·rw [put5 c h]; simp only [List.dropLast_cons_cons, List.dropLast_singleton, List.mem_cons, List.not_mem_nil, or_false, forall_eq_or_imp, forall_eq]; omega
  intro c hc
  refine this c ?_
  rw [List.dropLast_eq_take]
  exact (List.take_subset_take_left (putL n) (by omega)) hc
 ·intro c hc
  rw [List.head?_take, if_neg (by omega)] at hc
  rcases five h0 h with q | ⟨q, d⟩ | ⟨q, d⟩ | ⟨q, d⟩ | q
  ·exfalso; simp [szI, q] at hk; omega
  ·rw [put2 q d] at hc; simp only [List.head?_cons, Option.some.injEq] at hc; omega
  ·rw [put3 q d] at hc; simp only [List.head?_cons, Option.some.injEq] at hc; omega
  ·rw [put4 q d] at hc; simp only [List.head?_cons, Option.some.injEq] at hc; omega
  ·rw [put5 q h] at hc; simp only [List.head?_cons, Option.some.injEq] at hc; omega
theorem or7 {n c : Int} (h0 : 0 ≤ n) (h : n < 1099511627776) (c0 : 0 ≤ c) (c1 : c < 128) : iopI .or .u64 (iopI .shl .u64 n 7) c = n * 128 + c := by
 obtain ⟨a, rfl⟩ := Int.eq_ofNat_of_zero_le h0
 obtain ⟨b, rfl⟩ := Int.eq_ofNat_of_zero_le c0
 have e1 : iopI .shl .u64 (a : Int) 7 = ((a * 128 : Nat) : Int) := by
  show IntKind.u64.wrap ((a : Int) * 2 ^ (min (7 : Int).toNat 64)) = _
  rw [show ((a : Int) * 2 ^ (min (7 : Int).toNat 64)) = ((a * 128 : Nat) : Int) by rw [show (min (7 : Int).toNat 64) = 7 from rfl]; push_cast; omega]
  exact wrap_fit (by simp only [u64min, u64max]; omega)
 rw [e1]
 show IntKind.u64.wrap ((BitVec.ofInt 64 ((a * 128 : Nat) : Int) ||| BitVec.ofInt 64 (b : Int)).toNat : Int) = _
 rw [BitVec.ofInt_natCast, BitVec.ofInt_natCast, BitVec.toNat_or, BitVec.toNat_ofNat, BitVec.toNat_ofNat, Nat.mod_eq_of_lt (by omega), Nat.mod_eq_of_lt (by omega)]
 rw [show a * 128 = a <<< 7 by rw [Nat.shiftLeft_eq], ← Nat.shiftLeft_add_eq_or_of_lt (by omega), Nat.shiftLeft_eq]
 rw [wrap_fit (by simp only [u64min, u64max]; omega)]
 push_cast; omega
theorem get_in {l : List Int} (h : ∀ c ∈ l, 0 ≤ c ∧ c ≤ 255) (j : Nat) : 0 ≤ (l[j]?).getD 0 ∧ (l[j]?).getD 0 ≤ 255 := by
 cases hz : l[j]? with
 | none => simp
 | some c => exact h c (List.mem_of_getElem? hz)
theorem num_at {x : List Int} {o t : Int} (ho : 0 ≤ o) (ht : t ≤ x.length) (hx : ∀ c ∈ x, 0 ≤ c ∧ c ≤ 255) :
  ∃ c0 c1 c2 c3 c4 : Int, c0 = (x[o.toNat]?).getD 0 ∧ c1 = (x[(o + 1).toNat]?).getD 0 ∧ c2 = (x[(o + 2).toNat]?).getD 0 ∧ c3 = (x[(o + 3).toNat]?).getD 0 ∧ c4 = (x[(o + 4).toNat]?).getD 0 ∧
   (0 ≤ c0 ∧ c0 ≤ 255) ∧ (0 ≤ c1 ∧ c1 ≤ 255) ∧ (0 ≤ c2 ∧ c2 ≤ 255) ∧ (0 ≤ c3 ∧ c3 ≤ 255) ∧ (0 ≤ c4 ∧ c4 ≤ 255) ∧
   ((t ≤ o ∧ (numL (prt x o t)).1 = 1)
   ∨ (o < t ∧ c0 = 128 ∧ (numL (prt x o t)).1 = 2)
   ∨ (o < t ∧ c0 < 128 ∧ numL (prt x o t) = (0, c0, 1))
   ∨ (o < t ∧ 128 < c0 ∧ t ≤ o + 1 ∧ (numL (prt x o t)).1 = 1)
   ∨ (o + 1 < t ∧ 128 < c0 ∧ c1 < 128 ∧ numL (prt x o t) = (0, (c0 - 128) * 128 + c1, 2))
   ∨ (o + 1 < t ∧ 128 < c0 ∧ 128 ≤ c1 ∧ t ≤ o + 2 ∧ (numL (prt x o t)).1 = 1)
   ∨ (o + 2 < t ∧ 128 < c0 ∧ 128 ≤ c1 ∧ c2 < 128 ∧ numL (prt x o t) = (0, ((c0 - 128) * 128 + (c1 - 128)) * 128 + c2, 3))
   ∨ (o + 2 < t ∧ 128 < c0 ∧ 128 ≤ c1 ∧ 128 ≤ c2 ∧ t ≤ o + 3 ∧ (numL (prt x o t)).1 = 1)
   ∨ (o + 3 < t ∧ 128 < c0 ∧ 128 ≤ c1 ∧ 128 ≤ c2 ∧ c3 < 128 ∧ numL (prt x o t) = (0, (((c0 - 128) * 128 + (c1 - 128)) * 128 + (c2 - 128)) * 128 + c3, 4))
   ∨ (o + 3 < t ∧ 128 < c0 ∧ 128 ≤ c1 ∧ 128 ≤ c2 ∧ 128 ≤ c3 ∧ t ≤ o + 4 ∧ (numL (prt x o t)).1 = 1)
   ∨ (o + 4 < t ∧ 128 < c0 ∧ 128 ≤ c1 ∧ 128 ≤ c2 ∧ 128 ≤ c3 ∧ c4 < 128 ∧ ((((c0 - 128) * 128 + (c1 - 128)) * 128 + (c2 - 128)) * 128 + (c3 - 128)) * 128 + c4 ≤ 2147483647 ∧ numL (prt x o t) = (0, ((((c0 - 128) * 128 + (c1 - 128)) * 128 + (c2 - 128)) * 128 + (c3 - 128)) * 128 + c4, 5))
   ∨ (o + 4 < t ∧ 128 < c0 ∧ 128 ≤ c1 ∧ 128 ≤ c2 ∧ 128 ≤ c3 ∧ c4 < 128 ∧ 2147483647 < ((((c0 - 128) * 128 + (c1 - 128)) * 128 + (c2 - 128)) * 128 + (c3 - 128)) * 128 + c4 ∧ (numL (prt x o t)).1 = 3)
   ∨ (o + 4 < t ∧ 128 < c0 ∧ 128 ≤ c1 ∧ 128 ≤ c2 ∧ 128 ≤ c3 ∧ 128 ≤ c4 ∧ (numL (prt x o t)).1 = 3)) := by
 refine ⟨_, _, _, _, _, rfl, rfl, rfl, rfl, rfl, get_in hx _, get_in hx _, get_in hx _, get_in hx _, get_in hx _, ?_⟩
 have b0 := get_in hx o.toNat
 have b1 := get_in hx (o + 1).toNat
 have b2 := get_in hx (o + 2).toNat
 have b3 := get_in hx (o + 3).toNat
 have b4 := get_in hx (o + 4).toNat
 by_cases t0 : t ≤ o
 ·exact .inl ⟨t0, by rw [prt_nil (by omega) (by omega)]; rfl⟩
 have p0 := prt_step (x := x) (o := o) (t := t) (by omega) (by omega) (by omega)
 generalize (x[o.toNat]?).getD 0 = c0 at *
 by_cases z : c0 = 128
 ·exact .inr (.inl ⟨by omega, z, by rw [p0, z]; rfl⟩)
 by_cases l0 : c0 < 128
 ·exact .inr (.inr (.inl ⟨by omega, l0, by rw [p0, num_go z, go_last l0 (by omega)]; simp⟩))
 by_cases t1 : t ≤ o + 1
 ·exact .inr (.inr (.inr (.inl ⟨by omega, by omega, t1, by rw [p0, prt_nil (by omega) (by omega), num_go z, go_step (by omega)]; rfl⟩)))
 have p1 := prt_step (x := x) (o := o + 1) (t := t) (by omega) (by omega) (by omega)
 rw [show o + 1 + 1 = o + 2 by omega] at p1
 generalize (x[(o + 1).toNat]?).getD 0 = c1 at *
 by_cases l1 : c1 < 128
 ·exact .inr (.inr (.inr (.inr (.inl ⟨by omega, by omega, l1, by rw [p0, p1, num_go z, go_step (by omega), go_last l1 (by omega)]; simp⟩))))
 by_cases t2 : t ≤ o + 2
 ·exact .inr (.inr (.inr (.inr (.inr (.inl ⟨by omega, by omega, by omega, t2, by rw [p0, p1, prt_nil (by omega) (by omega), num_go z, go_step (by omega), go_step (by omega)]; rfl⟩)))))
 have p2 := prt_step (x := x) (o := o + 2) (t := t) (by omega) (by omega) (by omega)
 rw [show o + 2 + 1 = o + 3 by omega] at p2
 generalize (x[(o + 2).toNat]?).getD 0 = c2 at *
 by_cases l2 : c2 < 128
 ·exact .inr (.inr (.inr (.inr (.inr (.inr (.inl ⟨by omega, by omega, by omega, l2, by rw [p0, p1, p2, num_go z, go_step (by omega), go_step (by omega), go_last l2 (by omega)]; simp⟩))))))
 by_cases t3 : t ≤ o + 3
 ·exact .inr (.inr (.inr (.inr (.inr (.inr (.inr (.inl ⟨by omega, by omega, by omega, by omega, t3, by rw [p0, p1, p2, prt_nil (by omega) (by omega), num_go z, go_step (by omega), go_step (by omega), go_step (by omega)]; rfl⟩)))))))
 have p3 := prt_step (x := x) (o := o + 3) (t := t) (by omega) (by omega) (by omega)
 rw [show o + 3 + 1 = o + 4 by omega] at p3
 generalize (x[(o + 3).toNat]?).getD 0 = c3 at *
 by_cases l3 : c3 < 128
 ·exact .inr (.inr (.inr (.inr (.inr (.inr (.inr (.inr (.inl ⟨by omega, by omega, by omega, by omega, l3, by rw [p0, p1, p2, p3, num_go z, go_step (by omega), go_step (by omega), go_step (by omega), go_last l3 (by omega)]; simp⟩))))))))
 by_cases t4 : t ≤ o + 4
 ·exact .inr (.inr (.inr (.inr (.inr (.inr (.inr (.inr (.inr (.inl ⟨by omega, by omega, by omega, by omega, by omega, t4, by rw [p0, p1, p2, p3, prt_nil (by omega) (by omega), num_go z, go_step (by omega), go_step (by omega), go_step (by omega), go_step (by omega)]; rfl⟩)))))))))
 have p4 := prt_step (x := x) (o := o + 4) (t := t) (by omega) (by omega) (by omega)
 rw [show o + 4 + 1 = o + 5 by omega] at p4
 generalize (x[(o + 4).toNat]?).getD 0 = c4 at *
 by_cases l4 : c4 < 128
 ·by_cases m : ((((c0 - 128) * 128 + (c1 - 128)) * 128 + (c2 - 128)) * 128 + (c3 - 128)) * 128 + c4 ≤ 2147483647
  ·exact .inr (.inr (.inr (.inr (.inr (.inr (.inr (.inr (.inr (.inr (.inl ⟨by omega, by omega, by omega, by omega, by omega, l4, m, by rw [p0, p1, p2, p3, p4, num_go z, go_step (by omega), go_step (by omega), go_step (by omega), go_step (by omega), go_last l4 (by omega)]; simp⟩))))))))))
  ·exact .inr (.inr (.inr (.inr (.inr (.inr (.inr (.inr (.inr (.inr (.inr (.inl ⟨by omega, by omega, by omega, by omega, by omega, l4, by omega, by rw [p0, p1, p2, p3, p4, num_go z, go_step (by omega), go_step (by omega), go_step (by omega), go_step (by omega), go_over l4 (by omega)]⟩)))))))))))
 ·exact .inr (.inr (.inr (.inr (.inr (.inr (.inr (.inr (.inr (.inr (.inr (.inr ⟨by omega, by omega, by omega, by omega, by omega, by omega, by rw [p0, p1, p2, p3, p4, num_go z, go_step (by omega), go_step (by omega), go_step (by omega), go_step (by omega), go_end (by omega)]⟩)))))))))))
theorem w8 {x : Int} (h0 : 0 ≤ x) (h1 : x ≤ 255) : IntKind.u8.wrap x = x := wrap_fit (by simp only [u8min, u8max]; omega)
theorem a8 {x y : Int} (h0 : 0 ≤ x + y) (h1 : x + y ≤ 255) : iopI .add .u8 x y = x + y := w8 h0 h1
def wrote (n a : Int) (x : List Int) (s : Int) (y i : List Int) (b : Int) (u : List Int) (c : Int) (v : List Int) : List Int :=
 putL b ++ (u ++ (putL n ++ (putL a ++ (x ++ (putL s ++ (y ++ (i ++ (putL c ++ v))))))))
theorem num_in {X P R : List Int} {m o t : Int} (h0 : 0 ≤ m) (h : m ≤ 2147483647) (hX : X = P ++ (putL m ++ R)) (ho : o = P.length) (ht : t = X.length) : numL (prt X o t) = (0, m, szI m) := by
 subst hX ho ht
 unfold prt
 rw [List.take_of_length_le (by omega), show ((P.length : Int)).toNat = P.length by omega, List.drop_left]
 exact num_put h0 h R
theorem cut_in {X P Y R : List Int} {a b : Int} (hX : X = P ++ (Y ++ R)) (ha : a = P.length) (hb : b = P.length + Y.length) : List.drop a.toNat (List.take b.toNat X) = Y := by
 subst hX ha hb
 rw [← List.append_assoc, List.take_append_of_le_length (by simp only [List.length_append]; omega), List.take_of_length_le (by simp only [List.length_append]; omega), show ((P.length : Int)).toNat = P.length by omega, List.drop_left]
theorem sel_in {X P Y R : List Int} {a : Int} {j : Nat} (hX : X = P ++ (Y ++ R)) (ha : a = P.length + j) (hj : j < Y.length) : (X[a.toNat]?).getD 0 = (Y[j]?).getD 0 := by
 subst hX ha
 rw [show ((P.length : Int) + j).toNat = P.length + j by omega, List.getElem?_append_right (by omega), Nat.add_sub_cancel_left, List.getElem?_append_left hj]
theorem num_back {x : List Int} {o t m k : Int} (ho : 0 ≤ o) (ht : t ≤ x.length) (hx : ∀ c ∈ x, 0 ≤ c ∧ c ≤ 255) (h : numL (prt x o t) = (0, m, k)) : 0 ≤ m ∧ m ≤ 2147483647 ∧ k = szI m ∧ o + k ≤ t ∧ prt x o (o + k) = putL m := by
 obtain ⟨c0, c1, c2, c3, c4, h0, h1, h2, h3, h4, g0, g1, g2, g3, g4, hn⟩ := num_at (x := x) (o := o) (t := t) ho ht hx
 have bad : ∀ q : Int, q ≠ 0 → (numL (prt x o t)).1 = q → False := fun q hq hz => by rw [h] at hz; exact hq hz.symm
 have stp : ∀ u : Int, 0 ≤ u → u < t → ∀ e : Int, u < e → e ≤ t → prt x u e = (x[u.toNat]?).getD 0 :: prt x (u + 1) e := fun u hu hut e he het => prt_step hu he (by omega)
 rcases hn with hn | hn | hn | hn | hn | hn | hn | hn | hn | hn | hn | hn | hn
 ·exact (bad 1 (by decide) hn.2).elim
 ·exact (bad 2 (by decide) hn.2.2).elim
 ·have e := hn.2.2; rw [h] at e; simp only [Prod.mk.injEq] at e
  obtain ⟨_, rfl, rfl⟩ := e
  have s : szI m = 1 := by unfold szI; rw [if_pos (by omega)]
  refine ⟨by omega, by omega, s.symm, by omega, ?_⟩
  rw [stp o ho hn.1 (o + 1) (by omega) (by omega), prt_nil (by omega) (by omega), put1 (by omega) hn.2.1, h0]
 ·exact (bad 1 (by decide) hn.2.2.2).elim
 ·have e := hn.2.2.2; rw [h] at e; simp only [Prod.mk.injEq] at e
  obtain ⟨_, rfl, rfl⟩ := e
  have s : szI ((c0 - 128) * 128 + c1) = 2 := by unfold szI; rw [if_neg (by omega), if_pos (by omega)]
  refine ⟨by omega, by omega, s.symm, by omega, ?_⟩
  rw [stp o ho (by omega) (o + 2) (by omega) (by omega), stp (o + 1) (by omega) (by omega) (o + 2) (by omega) (by omega), prt_nil (by omega) (by omega), put2 (by omega) (by omega), ← h0, ← h1]
  simp only [List.cons.injEq, and_true]; omega
 ·exact (bad 1 (by decide) hn.2.2.2.2).elim
 ·have e := hn.2.2.2.2; rw [h] at e; simp only [Prod.mk.injEq] at e
  obtain ⟨_, rfl, rfl⟩ := e
  have s : szI (((c0 - 128) * 128 + (c1 - 128)) * 128 + c2) = 3 := by unfold szI; rw [if_neg (by omega), if_neg (by omega), if_pos (by omega)]
  refine ⟨by omega, by omega, s.symm, by omega, ?_⟩
  rw [stp o ho (by omega) (o + 3) (by omega) (by omega), stp (o + 1) (by omega) (by omega) (o + 3) (by omega) (by omega), show o + 1 + 1 = o + 2 by omega, stp (o + 2) (by omega) (by omega) (o + 3) (by omega) (by omega), prt_nil (by omega) (by omega), put3 (by omega) (by omega), ← h0, ← h1, ← h2]
  simp only [List.cons.injEq, and_true]; omega
 ·exact (bad 1 (by decide) hn.2.2.2.2.2).elim
 ·have e := hn.2.2.2.2.2; rw [h] at e; simp only [Prod.mk.injEq] at e
  obtain ⟨_, rfl, rfl⟩ := e
  have s : szI ((((c0 - 128) * 128 + (c1 - 128)) * 128 + (c2 - 128)) * 128 + c3) = 4 := by unfold szI; rw [if_neg (by omega), if_neg (by omega), if_neg (by omega), if_pos (by omega)]
  refine ⟨by omega, by omega, s.symm, by omega, ?_⟩
  rw [stp o ho (by omega) (o + 4) (by omega) (by omega), stp (o + 1) (by omega) (by omega) (o + 4) (by omega) (by omega), show o + 1 + 1 = o + 2 by omega, stp (o + 2) (by omega) (by omega) (o + 4) (by omega) (by omega), show o + 2 + 1 = o + 3 by omega, stp (o + 3) (by omega) (by omega) (o + 4) (by omega) (by omega), prt_nil (by omega) (by omega), put4 (by omega) (by omega), ← h0, ← h1, ← h2, ← h3]
  simp only [List.cons.injEq, and_true]; omega
 ·exact (bad 1 (by decide) hn.2.2.2.2.2.2).elim
 ·have e := hn.2.2.2.2.2.2.2; rw [h] at e; simp only [Prod.mk.injEq] at e
  obtain ⟨_, rfl, rfl⟩ := e
  have s : szI (((((c0 - 128) * 128 + (c1 - 128)) * 128 + (c2 - 128)) * 128 + (c3 - 128)) * 128 + c4) = 5 := by unfold szI; rw [if_neg (by omega), if_neg (by omega), if_neg (by omega), if_neg (by omega)]
  refine ⟨by omega, by omega, s.symm, by omega, ?_⟩
  rw [stp o ho (by omega) (o + 5) (by omega) (by omega), stp (o + 1) (by omega) (by omega) (o + 5) (by omega) (by omega), show o + 1 + 1 = o + 2 by omega, stp (o + 2) (by omega) (by omega) (o + 5) (by omega) (by omega), show o + 2 + 1 = o + 3 by omega, stp (o + 3) (by omega) (by omega) (o + 5) (by omega) (by omega), show o + 3 + 1 = o + 4 by omega, stp (o + 4) (by omega) (by omega) (o + 5) (by omega) (by omega), prt_nil (by omega) (by omega), put5 (by omega) (by omega), ← h0, ← h1, ← h2, ← h3, ← h4]
  simp only [List.cons.injEq, and_true]; omega
 ·exact (bad 3 (by decide) hn.2.2.2.2.2.2.2).elim
 ·exact (bad 3 (by decide) hn.2.2.2.2.2.2).elim

theorem F1 (n : D) : F 1 (.list [n, .int 0]) = .int (szI n.toInt) := rfl
theorem F2 (n : D) : F 2 (.list [n, .int 0]) = D.ofInts (fiveI n.toInt) := rfl
theorem F3 (n : D) : F 3 (.list [n, .int 0]) = D.ofInts (putL n.toInt) := rfl
theorem F7 (i n : D) : F 7 (.list [i, .list [n, .int 0]]) = .int (i.toInt % n.toInt) := rfl
theorem F20 (x o t : D) : F 20 (.list [x, .list [o, .list [t, .int 0]]]) = .int (numL (prt x.ints o.toInt t.toInt)).1 := rfl
theorem F21 (x o t : D) : F 21 (.list [x, .list [o, .list [t, .int 0]]]) = .int (numL (prt x.ints o.toInt t.toInt)).2.1 := rfl
theorem F22 (x o t : D) : F 22 (.list [x, .list [o, .list [t, .int 0]]]) = .int (numL (prt x.ints o.toInt t.toInt)).2.2 := rfl
theorem F23 (x o t : D) : F 23 (.list [x, .list [o, .list [t, .int 0]]]) = .int (errI (numL (prt x.ints o.toInt t.toInt)).1) := rfl
theorem F98 (x : D) : F 98 (.list [x, .int 0]) = x := rfl
theorem F24 (x o t : D) : F 24 (.list [x, .list [o, .list [t, .int 0]]]) = .int (atI (numL (prt x.ints o.toInt t.toInt)).1 o.toInt t.toInt) := rfl
theorem F40 (n : D) : F 40 (.list [n, .int 0]) = .int (if 0 ≤ n.toInt ∧ n.toInt ≤ 2147483647 then szI n.toInt else 0) := rfl
theorem F6 (x o t : D) : F 6 (.list [x, .list [o, .list [t, .int 0]]]) = D.ofInts (lentI (prt x.ints o.toInt t.toInt)) := rfl
theorem lens_nn : ∀ l : List D, 0 ≤ lensI l
 | [] => by simp [lensI]
 | x :: l => by have := lens_nn l; simp only [lensI]; omega
theorem lens_end {l : List D} {i : Nat} (h : l.length ≤ i ∨ 41 ≤ i) : lensI ((l.take 41).drop i) = 0 := by
 rw [List.drop_of_length_le (by rw [List.length_take]; omega)]; rfl
theorem lens_step {l : List D} {i : Nat} (h : i < l.length) (h2 : i < 41) : lensI ((l.take 41).drop i) = ((((l[i]?.getD (D.int 0)).toList)[3]?.getD (D.int 0)).toList.length : Int) + lensI ((l.take 41).drop (i + 1)) := by
 have h3 : i < (l.take 41).length := by rw [List.length_take]; omega
 rw [List.drop_eq_getElem_cons h3]
 simp only [lensI]
 rw [List.getElem_take, List.getElem?_eq_getElem h]
 rfl
theorem shr_ediv (x : Int) (j : Nat) (h : j ≤ 64) : iopI .shr .i64 x (j : Int) = x / 2 ^ j := by
 simp only [iopI]
 rw [show min (j : Int).toNat (IntKind.bits .i64) = j by show min (j : Int).toNat 64 = j; omega, Int.fdiv_eq_ediv_of_nonneg _ (by exact Int.le_of_lt (Int.pow_pos (by omega)))]
theorem F31 (x : D) : F 31 x = .list tabL := rfl
theorem rowF (k : Int) : tabL[k.toNat]?.getD (D.int 0) = rowI k := rfl
theorem lowF (k j : Int) : ((rowI k).toList[Int.toNat j]?.getD (D.int 0)).ints[Int.toNat 0]?.getD 0 = lowI k j := rfl
theorem topF (k j : Int) : ((rowI k).toList[Int.toNat j]?.getD (D.int 0)).ints[Int.toNat 1]?.getD 0 = topI k j := rfl
theorem nameF (k : Int) : ((rowI k).toList[Int.toNat 0]?.getD (D.int 0)).ints = nameI k := rfl
theorem kind_in (k : Int) : 0 ≤ kindI k ∧ kindI k < 25 := by
 unfold kindI
 split <;> omega
theorem tab_all : ∀ k : Fin 25, 0 ≤ topI k 1 ∧ 0 ≤ topI k 2 ∧ 0 ≤ topI k 3 ∧ topI k 1 ≤ 128 ∧ topI k 2 ≤ 16 ∧ topI k 3 ≤ 1024 ∧ 0 ≤ lowI k 1 ∧ 0 ≤ lowI k 2 ∧ 0 ≤ lowI k 3 ∧ lowI k 2 ≤ 1 ∧ lowI k 3 ≤ 1 ∧ (topI k 1 ≤ 0 ∨ topI k 2 ≤ 0) ∧ (1 ≤ lowI k 1 ∨ 1 ≤ lowI k 2 ∨ topI k 3 ≤ 0) ∧ lowI k 1 ≤ topI k 1 ∧ lowI k 2 ≤ topI k 2 ∧ lowI k 3 ≤ topI k 3 := by decide +kernel
theorem tab_in {k : Int} (h : 0 ≤ k ∧ k < 25) : 0 ≤ topI k 1 ∧ 0 ≤ topI k 2 ∧ 0 ≤ topI k 3 ∧ topI k 1 ≤ 128 ∧ topI k 2 ≤ 16 ∧ topI k 3 ≤ 1024 ∧ 0 ≤ lowI k 1 ∧ 0 ≤ lowI k 2 ∧ 0 ≤ lowI k 3 ∧ lowI k 2 ≤ 1 ∧ lowI k 3 ≤ 1 ∧ (topI k 1 ≤ 0 ∨ topI k 2 ≤ 0) ∧ (1 ≤ lowI k 1 ∨ 1 ≤ lowI k 2 ∨ topI k 3 ≤ 0) ∧ lowI k 1 ≤ topI k 1 ∧ lowI k 2 ≤ topI k 2 ∧ lowI k 3 ≤ topI k 3 := by
 have := tab_all ⟨k.toNat, by omega⟩
 rw [show (((⟨k.toNat, by omega⟩ : Fin 25) : Nat) : Int) = k by simp; omega] at this
 exact this
theorem one_of {b : Prop} {h : Decidable b} (k : (@ite Int b h 1 0) = 1) : b := by
 by_cases g : b
 ·exact g
 ·rw [if_neg g] at k; omega
theorem one_to {b : Prop} {h : Decidable b} (k : b) : (@ite Int b h 1 0) = 1 := if_pos k
theorem not_to {b : Prop} {h : Decidable b} (k : ¬b) : ¬ (@ite Int b h 1 0) = 1 := by rw [if_neg k]; omega
theorem not_of {b : Prop} {h : Decidable b} (k : ¬ (@ite Int b h 1 0) = 1) : ¬b := fun g => k (if_pos g)
theorem F34 (k n i b x j : D) : F 34 (.list [k, .list [n, .list [i, .list [b, .list [x, .list [j, .int 0]]]]]]) = .int (if almostB k.toInt n.toInt i.toInt b.toInt x.ints j.toInt then 1 else 0) := rfl
theorem F35 (k j : D) : F 35 (.list [k, .list [j, .int 0]]) = .int (topI (kindI k.toInt) j.toInt + 1) := rfl
theorem F36 (k j x : D) : F 36 (.list [k, .list [j, .list [x, .int 0]]]) = D.ofInts (x.ints ++ List.replicate (lackI k.toInt j.toInt x.ints.length) 0) := rfl
theorem F37 (k y : D) : F 37 (.list [k, .list [y, .int 0]]) = .list (y.toList ++ List.replicate (lackI k.toInt 2 y.toList.length) zeroD) := rfl
theorem drop_z (x : List Int) : x.drop (Int.toNat 0) = x := rfl
theorem fine_nil : fineL [] = true := rfl
theorem fine_end {x : List Int} {i : Int} (h : (x.length : Int) ≤ i) : fineL (x.drop i.toNat) = true := by
 rw [List.drop_of_length_le (by omega)]; rfl
theorem fine_step {x : List Int} {i : Int} (h0 : 0 ≤ i) (h : i < x.length) : fineL (x.drop i.toNat) = (decide (0 ≤ x[i.toNat]?.getD 0 ∧ x[i.toNat]?.getD 0 ≤ 2147483647) && fineL (x.drop (i + 1).toNat)) := by
 have hl : i.toNat < x.length := by omega
 rw [List.drop_eq_getElem_cons hl, show (i + 1).toNat = i.toNat + 1 by omega, List.getElem?_eq_getElem hl]
 rfl
theorem F30 (k : D) : F 30 (.list [k, .int 0]) = .int (kindI k.toInt) := rfl
theorem F32 (k n i b x : D) : F 32 (.list [k, .list [n, .list [i, .list [b, .list [x, .int 0]]]]]) = .int (wrongI k.toInt n.toInt i.toInt b.toInt x.ints) := rfl
theorem F33 (x i : D) : F 33 (.list [x, .list [i, .int 0]]) = .int (if fineL (x.ints.drop i.toInt.toNat) then 1 else 0) := rfl
theorem five_cut {n : Int} (h0 : 0 ≤ n) (h : n ≤ 2147483647) : List.drop (5 - szI n).toNat (List.take (5 - szI n + szI n).toNat (fiveI n)) = putL n := by
 have h1 := put_len h0 h
 have h2 := sz_in n
 unfold fiveI
 rw [List.take_of_length_le (by simp; omega), List.drop_append_of_le_length (by simp), List.drop_of_length_le (by simp), List.nil_append]
theorem seg_len (x : List Int) : (segI x 0 16).length = 16 := by unfold segI; simp
theorem F80 (x i : D) : F 80 (.list [x, .list [i, .int 0]]) = D.ofInts (encI x.ints i.toInt) := rfl
theorem F81 (y i : D) : F 81 (.list [y, .list [i, .int 0]]) = D.ofInts (idsI y.toList i.toInt) := rfl
theorem F82 (k x y b : D) : F 82 (.list [k, .list [x, .list [y, .list [b, .int 0]]]]) = D.ofInts (noteI k.toInt x.ints y.toList b.ints) := rfl

def partsC : CSpec := { args := [.sint .i64 (.var 0)], next := 0, rows := [], pre := [(.le (.int 0) (.var 0), true), (.le (.var 0) (.int 2147483647), true)], res := .sslice 1 (.bi .sub (.int 5) (.fn 1 (argsE [.var 0]))) (.fn 1 (argsE [.var 0])) (.fn 1 (argsE [.var 0])) false, frows := [(1, .seq ⟨102, .u8, .int 5, .fn 2 (argsE [.var 0]), false, false⟩)], same := [] }
abbrev asNa0 : Q × Bool := ((.le zNa4 (.int 0)), true)
def partsC_t0 : List (Q × Bool) := [asNa0]
def partsC_d0 : List Duty := [(true, (.int 4), txNa30), zNa6, zNa6, (false, (.bi .app (.un .one (.int 0)) (.bi .app (.un .one (.int 0)) (.bi .app (.un .one (.int 0)) (.bi .app (.un .one (.int 0)) (.bi .app (.un .one txNa31) (.lits [])))))), (.fn 2 zNa1))]
theorem partsC_y0 : endC partsC [(1, 1)] 1000 (callC Try.prog (tellA partsC_t0) [] [] [] 3000 40 60 partsC) = some partsC_d0 := by kernel_rfl
abbrev asNa1 : Q × Bool := ((.le zNa4 (.int 0)), false)
abbrev asNa2 : Q × Bool := ((.le txNa42 (.int 0)), true)
def partsC_t1 : List (Q × Bool) := [asNa1, asNa2]
def partsC_d1 : List Duty := [(true, (.int 3), txNa30), zNa7, zNa7, (false, (.bi .app (.un .one (.int 0)) (.bi .app (.un .one (.int 0)) (.bi .app (.un .one (.int 0)) txNa79))), (.fn 2 zNa1))]
theorem partsC_y1 : endC partsC [(1, 1)] 1000 (callC Try.prog (tellA partsC_t1) [] [] [] 3000 40 60 partsC) = some partsC_d1 := by kernel_rfl
abbrev asNa3 : Q × Bool := ((.le txNa42 (.int 0)), false)
abbrev asNa4 : Q × Bool := ((.le zNa5 (.int 0)), true)
def partsC_t2 : List (Q × Bool) := [asNa1, asNa3, asNa4]
def partsC_d2 : List Duty := [(true, (.int 2), txNa30), zNa8, zNa8, (false, (.bi .app (.un .one (.int 0)) (.bi .app (.un .one (.int 0)) (.bi .app txNa61 txNa79))), (.fn 2 zNa1))]
theorem partsC_y2 : endC partsC [(1, 1)] 1000 (callC Try.prog (tellA partsC_t2) [] [] [] 3000 40 60 partsC) = some partsC_d2 := by kernel_rfl
abbrev asNa5 : Q × Bool := ((.le zNa5 (.int 0)), false)
abbrev asNa6 : Q × Bool := ((.le txNa59 (.int 0)), true)
def partsC_t3 : List (Q × Bool) := [asNa1, asNa3, asNa5, asNa6]
def partsC_d3 : List Duty := [(true, (.int 1), txNa30), zNa9, zNa9, (false, (.bi .app (.un .one (.int 0)) txNa91), (.fn 2 zNa1))]
theorem partsC_y3 : endC partsC [(1, 1)] 1000 (callC Try.prog (tellA partsC_t3) [] [] [] 3000 40 60 partsC) = some partsC_d3 := by kernel_rfl
abbrev asNa7 : Q × Bool := ((.le txNa59 (.int 0)), false)
abbrev asNa8 : Q × Bool := ((.le (.bi (.iop .quo .i64) txNa59 (.int 128)) (.int 0)), true)
def partsC_t4 : List (Q × Bool) := [asNa1, asNa3, asNa5, asNa7, asNa8]
def partsC_d4 : List Duty := [(true, (.int 0), txNa30), zNa10, zNa10, (false, (.bi .app (.un .one (.bi (.iop .add .u8) (.un (.wrap .u8) (.bi (.iop .rem .i64) txNa59 (.int 128))) (.int 128))) txNa91), (.fn 2 zNa1))]
theorem partsC_y4 : endC partsC [(1, 1)] 1000 (callC Try.prog (tellA partsC_t4) [] [] [] 3000 40 60 partsC) = some partsC_d4 := by kernel_rfl
theorem partsC_holds : CHolds Try.prog 60 partsC F := by
 refine cholds_of sound (tableNil _ _) (specsNil _ _) (oversNil _ _) (fuel := 3000) (depth := 40) (by kernel_rfl) fun d hp hR hA => ?_
 have hp := allTold'_iff.2 hp
 simp only [partsC, tl] at hp hR hA
 rcases five (n := (d 0).toInt) (by omega) (by omega) with c | c | c | c | c
 ·have q0 : iopI .quo .i64 ((d 0).toInt) 128 = (d 0).toInt / 128 := quo_ediv (by omega) (by omega) (by omega)
  have r0 : iopI .rem .i64 ((d 0).toInt) 128 = (d 0).toInt % 128 := rem_emod _ (by omega)
  have w0 : IntKind.u8.wrap ((d 0).toInt % 128) = (d 0).toInt % 128 := w8 (by omega) (by omega)
  have s : szI (d 0).toInt = 1 := by unfold szI; simp [c]
  have p := put1 (n := (d 0).toInt) (by omega) (by omega)
  refine ⟨tellA partsC_t0, _, _, _, tellA_ok (allTold'_iff.1 ?_), partsC_y0, dutiesTold_ok ?_⟩
  ·simp only [partsC_t0, tl]
   simp only [q0, r0, w0]
   and_intros <;> first | omega | trivial
  ·simp only [partsC_d0, F1, F2, tl]
   simp only [q0, r0, w0, s, fiveI, p]
   and_intros <;> first | rfl | omega | (simp [ints_list]; done) | (simp [ints_list]; first | omega | exact ⟨by omega, rfl⟩ | rfl)
 ·have q0 : iopI .quo .i64 ((d 0).toInt) 128 = (d 0).toInt / 128 := quo_ediv (by omega) (by omega) (by omega)
  have r0 : iopI .rem .i64 ((d 0).toInt) 128 = (d 0).toInt % 128 := rem_emod _ (by omega)
  have w0 : IntKind.u8.wrap ((d 0).toInt % 128) = (d 0).toInt % 128 := w8 (by omega) (by omega)
  have q1 : iopI .quo .i64 ((d 0).toInt / 128) 128 = (d 0).toInt / 128 / 128 := quo_ediv (by omega) (by omega) (by omega)
  have r1 : iopI .rem .i64 ((d 0).toInt / 128) 128 = (d 0).toInt / 128 % 128 := rem_emod _ (by omega)
  have w1 : IntKind.u8.wrap ((d 0).toInt / 128 % 128) = (d 0).toInt / 128 % 128 := w8 (by omega) (by omega)
  have a1 : iopI .add .u8 ((d 0).toInt / 128 % 128) 128 = (d 0).toInt / 128 % 128 + 128 := a8 (by omega) (by omega)
  have s : szI (d 0).toInt = 2 := by unfold szI; repeat first | rw [if_neg (by omega)] | rw [if_pos (by omega)]
  have p := put2 (n := (d 0).toInt) (by omega) (by omega)
  refine ⟨tellA partsC_t1, _, _, _, tellA_ok (allTold'_iff.1 ?_), partsC_y1, dutiesTold_ok ?_⟩
  ·simp only [partsC_t1, tl]
   simp only [q0, r0, w0, q1, r1, w1, a1]
   and_intros <;> first | omega | trivial
  ·simp only [partsC_d1, F1, F2, tl]
   simp only [q0, r0, w0, q1, r1, w1, a1, s, fiveI, p]
   and_intros <;> first | rfl | omega | (simp [ints_list]; done) | (simp [ints_list]; first | omega | exact ⟨by omega, rfl⟩ | rfl)
 ·have q0 : iopI .quo .i64 ((d 0).toInt) 128 = (d 0).toInt / 128 := quo_ediv (by omega) (by omega) (by omega)
  have r0 : iopI .rem .i64 ((d 0).toInt) 128 = (d 0).toInt % 128 := rem_emod _ (by omega)
  have w0 : IntKind.u8.wrap ((d 0).toInt % 128) = (d 0).toInt % 128 := w8 (by omega) (by omega)
  have q1 : iopI .quo .i64 ((d 0).toInt / 128) 128 = (d 0).toInt / 128 / 128 := quo_ediv (by omega) (by omega) (by omega)
  have r1 : iopI .rem .i64 ((d 0).toInt / 128) 128 = (d 0).toInt / 128 % 128 := rem_emod _ (by omega)
  have w1 : IntKind.u8.wrap ((d 0).toInt / 128 % 128) = (d 0).toInt / 128 % 128 := w8 (by omega) (by omega)
  have a1 : iopI .add .u8 ((d 0).toInt / 128 % 128) 128 = (d 0).toInt / 128 % 128 + 128 := a8 (by omega) (by omega)
  have q2 : iopI .quo .i64 ((d 0).toInt / 128 / 128) 128 = (d 0).toInt / 128 / 128 / 128 := quo_ediv (by omega) (by omega) (by omega)
  have r2 : iopI .rem .i64 ((d 0).toInt / 128 / 128) 128 = (d 0).toInt / 128 / 128 % 128 := rem_emod _ (by omega)
  have w2 : IntKind.u8.wrap ((d 0).toInt / 128 / 128 % 128) = (d 0).toInt / 128 / 128 % 128 := w8 (by omega) (by omega)
  have a2 : iopI .add .u8 ((d 0).toInt / 128 / 128 % 128) 128 = (d 0).toInt / 128 / 128 % 128 + 128 := a8 (by omega) (by omega)
  have s : szI (d 0).toInt = 3 := by unfold szI; repeat first | rw [if_neg (by omega)] | rw [if_pos (by omega)]
  have p := put3 (n := (d 0).toInt) (by omega) (by omega)
  refine ⟨tellA partsC_t2, _, _, _, tellA_ok (allTold'_iff.1 ?_), partsC_y2, dutiesTold_ok ?_⟩
  ·simp only [partsC_t2, tl]
   simp only [q0, r0, w0, q1, r1, w1, a1, q2, r2, w2, a2]
   and_intros <;> first | omega | trivial
  ·simp only [partsC_d2, F1, F2, tl]
   simp only [q0, r0, w0, q1, r1, w1, a1, q2, r2, w2, a2, s, fiveI, p]
   and_intros <;> first | rfl | omega | (simp [ints_list]; done) | (simp [ints_list]; first | omega | exact ⟨by omega, rfl⟩ | rfl)
 ·have q0 : iopI .quo .i64 ((d 0).toInt) 128 = (d 0).toInt / 128 := quo_ediv (by omega) (by omega) (by omega)
  have r0 : iopI .rem .i64 ((d 0).toInt) 128 = (d 0).toInt % 128 := rem_emod _ (by omega)
  have w0 : IntKind.u8.wrap ((d 0).toInt % 128) = (d 0).toInt % 128 := w8 (by omega) (by omega)
  have q1 : iopI .quo .i64 ((d 0).toInt / 128) 128 = (d 0).toInt / 128 / 128 := quo_ediv (by omega) (by omega) (by omega)
  have r1 : iopI .rem .i64 ((d 0).toInt / 128) 128 = (d 0).toInt / 128 % 128 := rem_emod _ (by omega)
  have w1 : IntKind.u8.wrap ((d 0).toInt / 128 % 128) = (d 0).toInt / 128 % 128 := w8 (by omega) (by omega)
  have a1 : iopI .add .u8 ((d 0).toInt / 128 % 128) 128 = (d 0).toInt / 128 % 128 + 128 := a8 (by omega) (by omega)
  have q2 : iopI .quo .i64 ((d 0).toInt / 128 / 128) 128 = (d 0).toInt / 128 / 128 / 128 := quo_ediv (by omega) (by omega) (by omega)
  have r2 : iopI .rem .i64 ((d 0).toInt / 128 / 128) 128 = (d 0).toInt / 128 / 128 % 128 := rem_emod _ (by omega)
  have w2 : IntKind.u8.wrap ((d 0).toInt / 128 / 128 % 128) = (d 0).toInt / 128 / 128 % 128 := w8 (by omega) (by omega)
  have a2 : iopI .add .u8 ((d 0).toInt / 128 / 128 % 128) 128 = (d 0).toInt / 128 / 128 % 128 + 128 := a8 (by omega) (by omega)
  have q3 : iopI .quo .i64 ((d 0).toInt / 128 / 128 / 128) 128 = (d 0).toInt / 128 / 128 / 128 / 128 := quo_ediv (by omega) (by omega) (by omega)
  have r3 : iopI .rem .i64 ((d 0).toInt / 128 / 128 / 128) 128 = (d 0).toInt / 128 / 128 / 128 % 128 := rem_emod _ (by omega)
  have w3 : IntKind.u8.wrap ((d 0).toInt / 128 / 128 / 128 % 128) = (d 0).toInt / 128 / 128 / 128 % 128 := w8 (by omega) (by omega)
  have a3 : iopI .add .u8 ((d 0).toInt / 128 / 128 / 128 % 128) 128 = (d 0).toInt / 128 / 128 / 128 % 128 + 128 := a8 (by omega) (by omega)
  have s : szI (d 0).toInt = 4 := by unfold szI; repeat first | rw [if_neg (by omega)] | rw [if_pos (by omega)]
  have p := put4 (n := (d 0).toInt) (by omega) (by omega)
  refine ⟨tellA partsC_t3, _, _, _, tellA_ok (allTold'_iff.1 ?_), partsC_y3, dutiesTold_ok ?_⟩
  ·simp only [partsC_t3, tl]
   simp only [q0, r0, w0, q1, r1, w1, a1, q2, r2, w2, a2, q3, r3, w3, a3]
   and_intros <;> first | omega | trivial
  ·simp only [partsC_d3, F1, F2, tl]
   simp only [q0, r0, w0, q1, r1, w1, a1, q2, r2, w2, a2, q3, r3, w3, a3, s, fiveI, p]
   and_intros <;> first | rfl | omega | (simp [ints_list]; done) | (simp [ints_list]; first | omega | exact ⟨by omega, rfl⟩ | rfl)
 ·have q0 : iopI .quo .i64 ((d 0).toInt) 128 = (d 0).toInt / 128 := quo_ediv (by omega) (by omega) (by omega)
  have r0 : iopI .rem .i64 ((d 0).toInt) 128 = (d 0).toInt % 128 := rem_emod _ (by omega)
  have w0 : IntKind.u8.wrap ((d 0).toInt % 128) = (d 0).toInt % 128 := w8 (by omega) (by omega)
  have q1 : iopI .quo .i64 ((d 0).toInt / 128) 128 = (d 0).toInt / 128 / 128 := quo_ediv (by omega) (by omega) (by omega)
  have r1 : iopI .rem .i64 ((d 0).toInt / 128) 128 = (d 0).toInt / 128 % 128 := rem_emod _ (by omega)
  have w1 : IntKind.u8.wrap ((d 0).toInt / 128 % 128) = (d 0).toInt / 128 % 128 := w8 (by omega) (by omega)
  have a1 : iopI .add .u8 ((d 0).toInt / 128 % 128) 128 = (d 0).toInt / 128 % 128 + 128 := a8 (by omega) (by omega)
  have q2 : iopI .quo .i64 ((d 0).toInt / 128 / 128) 128 = (d 0).toInt / 128 / 128 / 128 := quo_ediv (by omega) (by omega) (by omega)
  have r2 : iopI .rem .i64 ((d 0).toInt / 128 / 128) 128 = (d 0).toInt / 128 / 128 % 128 := rem_emod _ (by omega)
  have w2 : IntKind.u8.wrap ((d 0).toInt / 128 / 128 % 128) = (d 0).toInt / 128 / 128 % 128 := w8 (by omega) (by omega)
  have a2 : iopI .add .u8 ((d 0).toInt / 128 / 128 % 128) 128 = (d 0).toInt / 128 / 128 % 128 + 128 := a8 (by omega) (by omega)
  have q3 : iopI .quo .i64 ((d 0).toInt / 128 / 128 / 128) 128 = (d 0).toInt / 128 / 128 / 128 / 128 := quo_ediv (by omega) (by omega) (by omega)
  have r3 : iopI .rem .i64 ((d 0).toInt / 128 / 128 / 128) 128 = (d 0).toInt / 128 / 128 / 128 % 128 := rem_emod _ (by omega)
  have w3 : IntKind.u8.wrap ((d 0).toInt / 128 / 128 / 128 % 128) = (d 0).toInt / 128 / 128 / 128 % 128 := w8 (by omega) (by omega)
  have a3 : iopI .add .u8 ((d 0).toInt / 128 / 128 / 128 % 128) 128 = (d 0).toInt / 128 / 128 / 128 % 128 + 128 := a8 (by omega) (by omega)
  have q4 : iopI .quo .i64 ((d 0).toInt / 128 / 128 / 128 / 128) 128 = (d 0).toInt / 128 / 128 / 128 / 128 / 128 := quo_ediv (by omega) (by omega) (by omega)
  have r4 : iopI .rem .i64 ((d 0).toInt / 128 / 128 / 128 / 128) 128 = (d 0).toInt / 128 / 128 / 128 / 128 % 128 := rem_emod _ (by omega)
  have w4 : IntKind.u8.wrap ((d 0).toInt / 128 / 128 / 128 / 128 % 128) = (d 0).toInt / 128 / 128 / 128 / 128 % 128 := w8 (by omega) (by omega)
  have a4 : iopI .add .u8 ((d 0).toInt / 128 / 128 / 128 / 128 % 128) 128 = (d 0).toInt / 128 / 128 / 128 / 128 % 128 + 128 := a8 (by omega) (by omega)
  have s : szI (d 0).toInt = 5 := by unfold szI; repeat first | rw [if_neg (by omega)] | rw [if_pos (by omega)]
  have p := put5 (n := (d 0).toInt) (by omega) (by omega)
  refine ⟨tellA partsC_t4, _, _, _, tellA_ok (allTold'_iff.1 ?_), partsC_y4, dutiesTold_ok ?_⟩
  ·simp only [partsC_t4, tl]
   simp only [q0, r0, w0, q1, r1, w1, a1, q2, r2, w2, a2, q3, r3, w3, a3, q4, r4, w4, a4]
   and_intros <;> first | omega | trivial
  ·simp only [partsC_d4, F1, F2, tl]
   simp only [q0, r0, w0, q1, r1, w1, a1, q2, r2, w2, a2, q3, r3, w3, a3, q4, r4, w4, a4, s, fiveI, p]
   and_intros <;> first | rfl | omega | (simp [ints_list]; done) | (simp [ints_list]; first | omega | exact ⟨by omega, rfl⟩ | rfl)

def sizeR : CSpec := { args := [.sint .i64 (.var 0)], next := 0, rows := [], pre := [], res := .sint .i64 (.fn 40 zNa1), frows := [], same := [] }
abbrev asNa9 : Q × Bool := ((.le (.int 0) (.var 0)), true)
abbrev asNa10 : Q × Bool := ((.le (.var 0) (.int 2147483647)), true)
abbrev asNa11 : Q × Bool := ((.le (.int 128) (.var 0)), false)
def sizeR_t0 : List (Q × Bool) := [asNa9, asNa10, asNa11]
def sizeR_d0 : List Duty := [(true, (.int 1), (.fn 40 zNa1))]
theorem sizeR_y0 : endC sizeR [] 1000 (callC Try.prog (tellA sizeR_t0) [] [] [] 3000 40 62 sizeR) = some sizeR_d0 := by kernel_rfl
abbrev asNa12 : Q × Bool := ((.le (.int 128) (.var 0)), true)
abbrev asNa13 : Q × Bool := ((.le (.int 128) zNa4), false)
def sizeR_t1 : List (Q × Bool) := [asNa9, asNa10, asNa12, asNa13]
def sizeR_d1 : List Duty := [(true, (.int 2), (.fn 40 zNa1))]
theorem sizeR_y1 : endC sizeR [] 1000 (callC Try.prog (tellA sizeR_t1) [] [] [] 3000 40 62 sizeR) = some sizeR_d1 := by kernel_rfl
abbrev asNa14 : Q × Bool := ((.le (.int 128) zNa4), true)
abbrev asNa15 : Q × Bool := ((.le (.int 128) txNa42), false)
def sizeR_t2 : List (Q × Bool) := [asNa9, asNa10, asNa12, asNa14, asNa15]
def sizeR_d2 : List Duty := [(true, (.int 3), (.fn 40 zNa1))]
theorem sizeR_y2 : endC sizeR [] 1000 (callC Try.prog (tellA sizeR_t2) [] [] [] 3000 40 62 sizeR) = some sizeR_d2 := by kernel_rfl
abbrev asNa16 : Q × Bool := ((.le (.int 128) txNa42), true)
abbrev asNa17 : Q × Bool := ((.le (.int 128) zNa5), false)
def sizeR_t3 : List (Q × Bool) := [asNa9, asNa10, asNa12, asNa14, asNa16, asNa17]
def sizeR_d3 : List Duty := [(true, (.int 4), (.fn 40 zNa1))]
theorem sizeR_y3 : endC sizeR [] 1000 (callC Try.prog (tellA sizeR_t3) [] [] [] 3000 40 62 sizeR) = some sizeR_d3 := by kernel_rfl
abbrev asNa18 : Q × Bool := ((.le (.int 128) zNa5), true)
abbrev asNa19 : Q × Bool := ((.le (.int 128) txNa59), false)
def sizeR_t4 : List (Q × Bool) := [asNa9, asNa10, asNa12, asNa14, asNa16, asNa18, asNa19]
def sizeR_d4 : List Duty := [(true, (.int 5), (.fn 40 zNa1))]
theorem sizeR_y4 : endC sizeR [] 1000 (callC Try.prog (tellA sizeR_t4) [] [] [] 3000 40 62 sizeR) = some sizeR_d4 := by kernel_rfl
abbrev asNa20 : Q × Bool := ((.le (.int 0) (.var 0)), false)
def sizeR_t5 : List (Q × Bool) := [asNa20]
def sizeR_d5 : List Duty := [(true, (.int 0), (.fn 40 zNa1))]
theorem sizeR_y5 : endC sizeR [] 1000 (callC Try.prog (tellA sizeR_t5) [] [] [] 3000 40 62 sizeR) = some sizeR_d5 := by kernel_rfl
abbrev asNa21 : Q × Bool := ((.le (.var 0) (.int 2147483647)), false)
def sizeR_t6 : List (Q × Bool) := [asNa9, asNa21]
def sizeR_d6 : List Duty := [(true, (.int 0), (.fn 40 zNa1))]
theorem sizeR_y6 : endC sizeR [] 1000 (callC Try.prog (tellA sizeR_t6) [] [] [] 3000 40 62 sizeR) = some sizeR_d6 := by kernel_rfl
theorem sizeR_holds : CHolds Try.prog 62 sizeR F := by
 refine cholds_of sound (tableNil _ _) (specsNil _ _) (oversNil _ _) (fuel := 3000) (depth := 40) (by kernel_rfl) fun d hp hR hA => ?_
 have hp := allTold'_iff.2 hp
 simp only [sizeR, tl] at hp hR hA
 by_cases g : 0 ≤ (d 0).toInt
 ·by_cases g2 : (d 0).toInt ≤ 2147483647
  ·rcases five (n := (d 0).toInt) g g2 with c | c | c | c | c
   ·have q0 : iopI .quo .i64 ((d 0).toInt) 128 = (d 0).toInt / 128 := quo_ediv (by omega) (by omega) (by omega)
    have s : szI (d 0).toInt = 1 := by unfold szI; simp [c]
    refine ⟨tellA sizeR_t0, _, _, _, tellA_ok (allTold'_iff.1 ?_), sizeR_y0, dutiesTold_ok ?_⟩
    ·simp only [sizeR_t0, q0, tl]
     omega
    ·simp only [sizeR_d0, F40, tl]
     rw [if_pos ⟨g, g2⟩, s]
   ·have q0 : iopI .quo .i64 ((d 0).toInt) 128 = (d 0).toInt / 128 := quo_ediv (by omega) (by omega) (by omega)
    have q1 : iopI .quo .i64 ((d 0).toInt / 128) 128 = (d 0).toInt / 128 / 128 := quo_ediv (by omega) (by omega) (by omega)
    have s : szI (d 0).toInt = 2 := by unfold szI; repeat first | rw [if_neg (by omega)] | rw [if_pos (by omega)]
    refine ⟨tellA sizeR_t1, _, _, _, tellA_ok (allTold'_iff.1 ?_), sizeR_y1, dutiesTold_ok ?_⟩
    ·simp only [sizeR_t1, q0, q1, tl]
     omega
    ·simp only [sizeR_d1, F40, tl]
     rw [if_pos ⟨g, g2⟩, s]
   ·have q0 : iopI .quo .i64 ((d 0).toInt) 128 = (d 0).toInt / 128 := quo_ediv (by omega) (by omega) (by omega)
    have q1 : iopI .quo .i64 ((d 0).toInt / 128) 128 = (d 0).toInt / 128 / 128 := quo_ediv (by omega) (by omega) (by omega)
    have q2 : iopI .quo .i64 ((d 0).toInt / 128 / 128) 128 = (d 0).toInt / 128 / 128 / 128 := quo_ediv (by omega) (by omega) (by omega)
    have s : szI (d 0).toInt = 3 := by unfold szI; repeat first | rw [if_neg (by omega)] | rw [if_pos (by omega)]
    refine ⟨tellA sizeR_t2, _, _, _, tellA_ok (allTold'_iff.1 ?_), sizeR_y2, dutiesTold_ok ?_⟩
    ·simp only [sizeR_t2, q0, q1, q2, tl]
     omega
    ·simp only [sizeR_d2, F40, tl]
     rw [if_pos ⟨g, g2⟩, s]
   ·have q0 : iopI .quo .i64 ((d 0).toInt) 128 = (d 0).toInt / 128 := quo_ediv (by omega) (by omega) (by omega)
    have q1 : iopI .quo .i64 ((d 0).toInt / 128) 128 = (d 0).toInt / 128 / 128 := quo_ediv (by omega) (by omega) (by omega)
    have q2 : iopI .quo .i64 ((d 0).toInt / 128 / 128) 128 = (d 0).toInt / 128 / 128 / 128 := quo_ediv (by omega) (by omega) (by omega)
    have q3 : iopI .quo .i64 ((d 0).toInt / 128 / 128 / 128) 128 = (d 0).toInt / 128 / 128 / 128 / 128 := quo_ediv (by omega) (by omega) (by omega)
    have s : szI (d 0).toInt = 4 := by unfold szI; repeat first | rw [if_neg (by omega)] | rw [if_pos (by omega)]
    refine ⟨tellA sizeR_t3, _, _, _, tellA_ok (allTold'_iff.1 ?_), sizeR_y3, dutiesTold_ok ?_⟩
    ·simp only [sizeR_t3, q0, q1, q2, q3, tl]
     omega
    ·simp only [sizeR_d3, F40, tl]
     rw [if_pos ⟨g, g2⟩, s]
   ·have q0 : iopI .quo .i64 ((d 0).toInt) 128 = (d 0).toInt / 128 := quo_ediv (by omega) (by omega) (by omega)
    have q1 : iopI .quo .i64 ((d 0).toInt / 128) 128 = (d 0).toInt / 128 / 128 := quo_ediv (by omega) (by omega) (by omega)
    have q2 : iopI .quo .i64 ((d 0).toInt / 128 / 128) 128 = (d 0).toInt / 128 / 128 / 128 := quo_ediv (by omega) (by omega) (by omega)
    have q3 : iopI .quo .i64 ((d 0).toInt / 128 / 128 / 128) 128 = (d 0).toInt / 128 / 128 / 128 / 128 := quo_ediv (by omega) (by omega) (by omega)
    have q4 : iopI .quo .i64 ((d 0).toInt / 128 / 128 / 128 / 128) 128 = (d 0).toInt / 128 / 128 / 128 / 128 / 128 := quo_ediv (by omega) (by omega) (by omega)
    have s : szI (d 0).toInt = 5 := by unfold szI; repeat first | rw [if_neg (by omega)] | rw [if_pos (by omega)]
    refine ⟨tellA sizeR_t4, _, _, _, tellA_ok (allTold'_iff.1 ?_), sizeR_y4, dutiesTold_ok ?_⟩
    ·simp only [sizeR_t4, q0, q1, q2, q3, q4, tl]
     omega
    ·simp only [sizeR_d4, F40, tl]
     rw [if_pos ⟨g, g2⟩, s]
  ·refine ⟨tellA sizeR_t6, _, _, _, tellA_ok (allTold'_iff.1 ?_), sizeR_y6, dutiesTold_ok ?_⟩
   ·simp only [sizeR_t6, tl]
    omega
   ·simp only [sizeR_d6, F40, tl]
    rw [if_neg (by omega)]
 ·refine ⟨tellA sizeR_t5, _, _, _, tellA_ok (allTold'_iff.1 ?_), sizeR_y5, dutiesTold_ok ?_⟩
  ·simp only [sizeR_t5, tl]
   omega
  ·simp only [sizeR_d5, F40, tl]
   rw [if_neg (by omega)]

def putR : CSpec := { args := [.sint .i64 (.var 0)], next := 0, rows := [], pre := [(.le (.int 0) (.var 0), true), (.le (.var 0) (.int 2147483647), true)], res := .sslice 1 (.int 0) (.fn 1 zNa1) (.fn 1 zNa1) true, frows := [(1, .seq ⟨5, .u8, .fn 1 zNa1, .fn 3 zNa1, true, false⟩)], same := [] }
def putR_t0 : List (Q × Bool) := [asNa9, asNa10, asNa11]
def putR_d0 : List Duty := [zNa6, zNa6, zNa6, (false, txNa56, (.fn 3 zNa1))]
theorem putR_y0 : endC putR [(1, 3)] 1000 (callC Try.prog (tellA putR_t0) [] [] [] 3000 40 63 putR) = some putR_d0 := by kernel_rfl
abbrev asNa22 : Q × Bool := ((.fit .i64 (.bi .add txNa38 (.int 128))), true)
def putR_t1 : List (Q × Bool) := [asNa9, asNa10, asNa12, asNa13, asNa22]
def putR_d1 : List Duty := [zNa7, zNa7, zNa7, (false, (.bi .app (.un .one txNa53) txNa56), (.fn 3 zNa1))]
theorem putR_y1 : endC putR [(1, 7)] 1000 (callC Try.prog (tellA putR_t1) [] [] [] 3000 40 63 putR) = some putR_d1 := by kernel_rfl
abbrev asNa23 : Q × Bool := ((.fit .i64 (.bi .add txNa39 (.int 128))), true)
def putR_t2 : List (Q × Bool) := [asNa9, asNa10, asNa12, asNa14, asNa15, asNa23, asNa22]
def putR_d2 : List Duty := [zNa8, zNa8, zNa8, (false, txNa89, (.fn 3 zNa1))]
theorem putR_y2 : endC putR [(1, 11)] 1000 (callC Try.prog (tellA putR_t2) [] [] [] 3000 40 63 putR) = some putR_d2 := by kernel_rfl
abbrev asNa24 : Q × Bool := ((.fit .i64 (.bi .add txNa40 (.int 128))), true)
def putR_t3 : List (Q × Bool) := [asNa9, asNa10, asNa12, asNa14, asNa16, asNa17, asNa24, asNa23, asNa22]
def putR_d3 : List Duty := [zNa9, zNa9, zNa9, (false, (.bi .app (.un .one txNa55) txNa89), (.fn 3 zNa1))]
theorem putR_y3 : endC putR [(1, 15)] 1000 (callC Try.prog (tellA putR_t3) [] [] [] 3000 40 63 putR) = some putR_d3 := by kernel_rfl
abbrev asNa25 : Q × Bool := ((.fit .i64 (.bi .add txNa41 (.int 128))), true)
def putR_t4 : List (Q × Bool) := [asNa9, asNa10, asNa12, asNa14, asNa16, asNa18, asNa19, asNa25, asNa24, asNa23, asNa22]
def putR_d4 : List Duty := [zNa10, zNa10, zNa10, (false, (.bi .app (.un .one (.un (.wrap .u8) (.bi .add txNa41 (.int 128)))) (.bi .app (.un .one txNa55) txNa89)), (.fn 3 zNa1))]
theorem putR_y4 : endC putR [(1, 19)] 1000 (callC Try.prog (tellA putR_t4) [] [] [] 3000 40 63 putR) = some putR_d4 := by kernel_rfl
theorem putR_holds : CHolds Try.prog 63 putR F := by
 refine cholds_of sound (tableNil _ _) (specsNil _ _) (oversNil _ _) (fuel := 3000) (depth := 40) (by kernel_rfl) fun d hp hR hA => ?_
 have hp := allTold'_iff.2 hp
 simp only [putR, tl] at hp hR hA
 rcases five (n := (d 0).toInt) (by omega) (by omega) with c | c | c | c | c
 ·have h0 : iopI .shr .i64 (d 0).toInt 0 = (d 0).toInt := by
   have e := shr_ediv (d 0).toInt 0 (by omega)
   rw [show ((0 : Nat) : Int) = 0 from rfl, show (2 : Int) ^ 0 = 1 by decide] at e
   rw [e]
   try omega
  have r0 : iopI .rem .i64 ((d 0).toInt) 128 = ((d 0).toInt) % 128 := rem_emod _ (by omega)
  have w0 : IntKind.u8.wrap (((d 0).toInt) % 128) = ((d 0).toInt) % 128 := w8 (by omega) (by omega)
  have s : szI (d 0).toInt = 1 := by unfold szI; simp [c]
  have p := put1 (n := (d 0).toInt) (by omega) (by omega)
  have q0 : iopI .quo .i64 ((d 0).toInt) 128 = (d 0).toInt / 128 := quo_ediv (by omega) (by omega) (by omega)
  refine ⟨tellA putR_t0, _, _, _, tellA_ok (allTold'_iff.1 ?_), putR_y0, dutiesTold_ok ?_⟩
  ·simp only [putR_t0, q0, h0, r0, w0, tl]
   omega
  ·simp only [putR_d0, F1, F3, tl]
   simp only [h0, r0, w0, s, p]
   and_intros <;> first | rfl | omega | (simp [ints_list]; first | done | omega | exact ⟨by omega, rfl⟩)
 ·have h0 : iopI .shr .i64 (d 0).toInt 0 = (d 0).toInt := by
   have e := shr_ediv (d 0).toInt 0 (by omega)
   rw [show ((0 : Nat) : Int) = 0 from rfl, show (2 : Int) ^ 0 = 1 by decide] at e
   rw [e]
   try omega
  have r0 : iopI .rem .i64 ((d 0).toInt) 128 = ((d 0).toInt) % 128 := rem_emod _ (by omega)
  have w0 : IntKind.u8.wrap (((d 0).toInt) % 128) = ((d 0).toInt) % 128 := w8 (by omega) (by omega)
  have h1 : iopI .shr .i64 (d 0).toInt 7 = (d 0).toInt / 128 := by
   have e := shr_ediv (d 0).toInt 7 (by omega)
   rw [show ((7 : Nat) : Int) = 7 from rfl, show (2 : Int) ^ 7 = 128 by decide] at e
   rw [e]
   try omega
  have r1 : iopI .rem .i64 ((d 0).toInt / 128) 128 = ((d 0).toInt / 128) % 128 := rem_emod _ (by omega)
  have w1 : IntKind.u8.wrap (((d 0).toInt / 128) % 128 + 128) = ((d 0).toInt / 128) % 128 + 128 := w8 (by omega) (by omega)
  have s : szI (d 0).toInt = 2 := by unfold szI; repeat first | rw [if_neg (by omega)] | rw [if_pos (by omega)]
  have p := put2 (n := (d 0).toInt) (by omega) (by omega)
  have q0 : iopI .quo .i64 ((d 0).toInt) 128 = (d 0).toInt / 128 := quo_ediv (by omega) (by omega) (by omega)
  have q1 : iopI .quo .i64 ((d 0).toInt / 128) 128 = (d 0).toInt / 128 / 128 := quo_ediv (by omega) (by omega) (by omega)
  refine ⟨tellA putR_t1, _, _, _, tellA_ok (allTold'_iff.1 ?_), putR_y1, dutiesTold_ok ?_⟩
  ·simp only [putR_t1, q0, q1, h0, r0, w0, h1, r1, w1, tl]
   omega
  ·simp only [putR_d1, F1, F3, tl]
   simp only [h0, r0, w0, h1, r1, w1, s, p]
   and_intros <;> first | rfl | omega | (simp [ints_list]; first | done | omega | exact ⟨by omega, rfl⟩)
 ·have h0 : iopI .shr .i64 (d 0).toInt 0 = (d 0).toInt := by
   have e := shr_ediv (d 0).toInt 0 (by omega)
   rw [show ((0 : Nat) : Int) = 0 from rfl, show (2 : Int) ^ 0 = 1 by decide] at e
   rw [e]
   try omega
  have r0 : iopI .rem .i64 ((d 0).toInt) 128 = ((d 0).toInt) % 128 := rem_emod _ (by omega)
  have w0 : IntKind.u8.wrap (((d 0).toInt) % 128) = ((d 0).toInt) % 128 := w8 (by omega) (by omega)
  have h1 : iopI .shr .i64 (d 0).toInt 7 = (d 0).toInt / 128 := by
   have e := shr_ediv (d 0).toInt 7 (by omega)
   rw [show ((7 : Nat) : Int) = 7 from rfl, show (2 : Int) ^ 7 = 128 by decide] at e
   rw [e]
   try omega
  have r1 : iopI .rem .i64 ((d 0).toInt / 128) 128 = ((d 0).toInt / 128) % 128 := rem_emod _ (by omega)
  have w1 : IntKind.u8.wrap (((d 0).toInt / 128) % 128 + 128) = ((d 0).toInt / 128) % 128 + 128 := w8 (by omega) (by omega)
  have h2 : iopI .shr .i64 (d 0).toInt 14 = (d 0).toInt / 128 / 128 := by
   have e := shr_ediv (d 0).toInt 14 (by omega)
   rw [show ((14 : Nat) : Int) = 14 from rfl, show (2 : Int) ^ 14 = 16384 by decide] at e
   rw [e]
   try omega
  have r2 : iopI .rem .i64 ((d 0).toInt / 128 / 128) 128 = ((d 0).toInt / 128 / 128) % 128 := rem_emod _ (by omega)
  have w2 : IntKind.u8.wrap (((d 0).toInt / 128 / 128) % 128 + 128) = ((d 0).toInt / 128 / 128) % 128 + 128 := w8 (by omega) (by omega)
  have s : szI (d 0).toInt = 3 := by unfold szI; repeat first | rw [if_neg (by omega)] | rw [if_pos (by omega)]
  have p := put3 (n := (d 0).toInt) (by omega) (by omega)
  have q0 : iopI .quo .i64 ((d 0).toInt) 128 = (d 0).toInt / 128 := quo_ediv (by omega) (by omega) (by omega)
  have q1 : iopI .quo .i64 ((d 0).toInt / 128) 128 = (d 0).toInt / 128 / 128 := quo_ediv (by omega) (by omega) (by omega)
  have q2 : iopI .quo .i64 ((d 0).toInt / 128 / 128) 128 = (d 0).toInt / 128 / 128 / 128 := quo_ediv (by omega) (by omega) (by omega)
  refine ⟨tellA putR_t2, _, _, _, tellA_ok (allTold'_iff.1 ?_), putR_y2, dutiesTold_ok ?_⟩
  ·simp only [putR_t2, q0, q1, q2, h0, r0, w0, h1, r1, w1, h2, r2, w2, tl]
   omega
  ·simp only [putR_d2, F1, F3, tl]
   simp only [h0, r0, w0, h1, r1, w1, h2, r2, w2, s, p]
   and_intros <;> first | rfl | omega | (simp [ints_list]; first | done | omega | exact ⟨by omega, rfl⟩)
 ·have h0 : iopI .shr .i64 (d 0).toInt 0 = (d 0).toInt := by
   have e := shr_ediv (d 0).toInt 0 (by omega)
   rw [show ((0 : Nat) : Int) = 0 from rfl, show (2 : Int) ^ 0 = 1 by decide] at e
   rw [e]
   try omega
  have r0 : iopI .rem .i64 ((d 0).toInt) 128 = ((d 0).toInt) % 128 := rem_emod _ (by omega)
  have w0 : IntKind.u8.wrap (((d 0).toInt) % 128) = ((d 0).toInt) % 128 := w8 (by omega) (by omega)
  have h1 : iopI .shr .i64 (d 0).toInt 7 = (d 0).toInt / 128 := by
   have e := shr_ediv (d 0).toInt 7 (by omega)
   rw [show ((7 : Nat) : Int) = 7 from rfl, show (2 : Int) ^ 7 = 128 by decide] at e
   rw [e]
   try omega
  have r1 : iopI .rem .i64 ((d 0).toInt / 128) 128 = ((d 0).toInt / 128) % 128 := rem_emod _ (by omega)
  have w1 : IntKind.u8.wrap (((d 0).toInt / 128) % 128 + 128) = ((d 0).toInt / 128) % 128 + 128 := w8 (by omega) (by omega)
  have h2 : iopI .shr .i64 (d 0).toInt 14 = (d 0).toInt / 128 / 128 := by
   have e := shr_ediv (d 0).toInt 14 (by omega)
   rw [show ((14 : Nat) : Int) = 14 from rfl, show (2 : Int) ^ 14 = 16384 by decide] at e
   rw [e]
   try omega
  have r2 : iopI .rem .i64 ((d 0).toInt / 128 / 128) 128 = ((d 0).toInt / 128 / 128) % 128 := rem_emod _ (by omega)
  have w2 : IntKind.u8.wrap (((d 0).toInt / 128 / 128) % 128 + 128) = ((d 0).toInt / 128 / 128) % 128 + 128 := w8 (by omega) (by omega)
  have h3 : iopI .shr .i64 (d 0).toInt 21 = (d 0).toInt / 128 / 128 / 128 := by
   have e := shr_ediv (d 0).toInt 21 (by omega)
   rw [show ((21 : Nat) : Int) = 21 from rfl, show (2 : Int) ^ 21 = 2097152 by decide] at e
   rw [e]
   try omega
  have r3 : iopI .rem .i64 ((d 0).toInt / 128 / 128 / 128) 128 = ((d 0).toInt / 128 / 128 / 128) % 128 := rem_emod _ (by omega)
  have w3 : IntKind.u8.wrap (((d 0).toInt / 128 / 128 / 128) % 128 + 128) = ((d 0).toInt / 128 / 128 / 128) % 128 + 128 := w8 (by omega) (by omega)
  have s : szI (d 0).toInt = 4 := by unfold szI; repeat first | rw [if_neg (by omega)] | rw [if_pos (by omega)]
  have p := put4 (n := (d 0).toInt) (by omega) (by omega)
  have q0 : iopI .quo .i64 ((d 0).toInt) 128 = (d 0).toInt / 128 := quo_ediv (by omega) (by omega) (by omega)
  have q1 : iopI .quo .i64 ((d 0).toInt / 128) 128 = (d 0).toInt / 128 / 128 := quo_ediv (by omega) (by omega) (by omega)
  have q2 : iopI .quo .i64 ((d 0).toInt / 128 / 128) 128 = (d 0).toInt / 128 / 128 / 128 := quo_ediv (by omega) (by omega) (by omega)
  have q3 : iopI .quo .i64 ((d 0).toInt / 128 / 128 / 128) 128 = (d 0).toInt / 128 / 128 / 128 / 128 := quo_ediv (by omega) (by omega) (by omega)
  refine ⟨tellA putR_t3, _, _, _, tellA_ok (allTold'_iff.1 ?_), putR_y3, dutiesTold_ok ?_⟩
  ·simp only [putR_t3, q0, q1, q2, q3, h0, r0, w0, h1, r1, w1, h2, r2, w2, h3, r3, w3, tl]
   omega
  ·simp only [putR_d3, F1, F3, tl]
   simp only [h0, r0, w0, h1, r1, w1, h2, r2, w2, h3, r3, w3, s, p]
   and_intros <;> first | rfl | omega | (simp [ints_list]; first | done | omega | exact ⟨by omega, rfl⟩)
 ·have h0 : iopI .shr .i64 (d 0).toInt 0 = (d 0).toInt := by
   have e := shr_ediv (d 0).toInt 0 (by omega)
   rw [show ((0 : Nat) : Int) = 0 from rfl, show (2 : Int) ^ 0 = 1 by decide] at e
   rw [e]
   try omega
  have r0 : iopI .rem .i64 ((d 0).toInt) 128 = ((d 0).toInt) % 128 := rem_emod _ (by omega)
  have w0 : IntKind.u8.wrap (((d 0).toInt) % 128) = ((d 0).toInt) % 128 := w8 (by omega) (by omega)
  have h1 : iopI .shr .i64 (d 0).toInt 7 = (d 0).toInt / 128 := by
   have e := shr_ediv (d 0).toInt 7 (by omega)
   rw [show ((7 : Nat) : Int) = 7 from rfl, show (2 : Int) ^ 7 = 128 by decide] at e
   rw [e]
   try omega
  have r1 : iopI .rem .i64 ((d 0).toInt / 128) 128 = ((d 0).toInt / 128) % 128 := rem_emod _ (by omega)
  have w1 : IntKind.u8.wrap (((d 0).toInt / 128) % 128 + 128) = ((d 0).toInt / 128) % 128 + 128 := w8 (by omega) (by omega)
  have h2 : iopI .shr .i64 (d 0).toInt 14 = (d 0).toInt / 128 / 128 := by
   have e := shr_ediv (d 0).toInt 14 (by omega)
   rw [show ((14 : Nat) : Int) = 14 from rfl, show (2 : Int) ^ 14 = 16384 by decide] at e
   rw [e]
   try omega
  have r2 : iopI .rem .i64 ((d 0).toInt / 128 / 128) 128 = ((d 0).toInt / 128 / 128) % 128 := rem_emod _ (by omega)
  have w2 : IntKind.u8.wrap (((d 0).toInt / 128 / 128) % 128 + 128) = ((d 0).toInt / 128 / 128) % 128 + 128 := w8 (by omega) (by omega)
  have h3 : iopI .shr .i64 (d 0).toInt 21 = (d 0).toInt / 128 / 128 / 128 := by
   have e := shr_ediv (d 0).toInt 21 (by omega)
   rw [show ((21 : Nat) : Int) = 21 from rfl, show (2 : Int) ^ 21 = 2097152 by decide] at e
   rw [e]
   try omega
  have r3 : iopI .rem .i64 ((d 0).toInt / 128 / 128 / 128) 128 = ((d 0).toInt / 128 / 128 / 128) % 128 := rem_emod _ (by omega)
  have w3 : IntKind.u8.wrap (((d 0).toInt / 128 / 128 / 128) % 128 + 128) = ((d 0).toInt / 128 / 128 / 128) % 128 + 128 := w8 (by omega) (by omega)
  have h4 : iopI .shr .i64 (d 0).toInt 28 = (d 0).toInt / 128 / 128 / 128 / 128 := by
   have e := shr_ediv (d 0).toInt 28 (by omega)
   rw [show ((28 : Nat) : Int) = 28 from rfl, show (2 : Int) ^ 28 = 268435456 by decide] at e
   rw [e]
   try omega
  have r4 : iopI .rem .i64 ((d 0).toInt / 128 / 128 / 128 / 128) 128 = ((d 0).toInt / 128 / 128 / 128 / 128) % 128 := rem_emod _ (by omega)
  have w4 : IntKind.u8.wrap (((d 0).toInt / 128 / 128 / 128 / 128) % 128 + 128) = ((d 0).toInt / 128 / 128 / 128 / 128) % 128 + 128 := w8 (by omega) (by omega)
  have s : szI (d 0).toInt = 5 := by unfold szI; repeat first | rw [if_neg (by omega)] | rw [if_pos (by omega)]
  have p := put5 (n := (d 0).toInt) (by omega) (by omega)
  have q0 : iopI .quo .i64 ((d 0).toInt) 128 = (d 0).toInt / 128 := quo_ediv (by omega) (by omega) (by omega)
  have q1 : iopI .quo .i64 ((d 0).toInt / 128) 128 = (d 0).toInt / 128 / 128 := quo_ediv (by omega) (by omega) (by omega)
  have q2 : iopI .quo .i64 ((d 0).toInt / 128 / 128) 128 = (d 0).toInt / 128 / 128 / 128 := quo_ediv (by omega) (by omega) (by omega)
  have q3 : iopI .quo .i64 ((d 0).toInt / 128 / 128 / 128) 128 = (d 0).toInt / 128 / 128 / 128 / 128 := quo_ediv (by omega) (by omega) (by omega)
  have q4 : iopI .quo .i64 ((d 0).toInt / 128 / 128 / 128 / 128) 128 = (d 0).toInt / 128 / 128 / 128 / 128 / 128 := quo_ediv (by omega) (by omega) (by omega)
  refine ⟨tellA putR_t4, _, _, _, tellA_ok (allTold'_iff.1 ?_), putR_y4, dutiesTold_ok ?_⟩
  ·simp only [putR_t4, q0, q1, q2, q3, q4, h0, r0, w0, h1, r1, w1, h2, r2, w2, h3, r3, w3, h4, r4, w4, tl]
   omega
  ·simp only [putR_d4, F1, F3, tl]
   simp only [h0, r0, w0, h1, r1, w1, h2, r2, w2, h3, r3, w3, h4, r4, w4, s, p]
   and_intros <;> first | rfl | omega | (simp [ints_list]; first | done | omega | exact ⟨by omega, rfl⟩)

def shapeC : CSpec := { args := [.sint .i64 (.var 0)], next := 0, rows := [], pre := [], res := .vptr 1 7 (.fn 30 zNa1) 0, frows := [(1, .vseq ⟨92, (.agg [.str, .agg [.int .i64, .int .i64], .agg [.int .i64, .int .i64], .agg [.int .i64, .int .i64]]), .int 25, .fn 31 (.int 0), false⟩)], same := [] }
def shapeC_t0 : List (Q × Bool) := [asNa20]
def shapeC_d0 : List Duty := [zNa18, zNa0]
theorem shapeC_y0 : endC shapeC [(1, 9)] 1000 (callC Try.prog (tellA shapeC_t0) [] [] [] 3000 40 35 shapeC) = some shapeC_d0 := by kernel_rfl
abbrev asNa26 : Q × Bool := ((.le (.int 25) (.var 0)), true)
def shapeC_t1 : List (Q × Bool) := [asNa9, asNa26]
def shapeC_d1 : List Duty := [zNa18, zNa0]
theorem shapeC_y1 : endC shapeC [(1, 9)] 1000 (callC Try.prog (tellA shapeC_t1) [] [] [] 3000 40 35 shapeC) = some shapeC_d1 := by kernel_rfl
abbrev asNa27 : Q × Bool := ((.le (.int 25) (.var 0)), false)
abbrev asNa28 : Q × Bool := ((.eq (.var 0) (.int 0)), true)
def shapeC_t2 : List (Q × Bool) := [asNa9, asNa27, asNa28]
def shapeC_d2 : List Duty := [zNa18, zNa0]
theorem shapeC_y2 : endC shapeC [(1, 9)] 1000 (callC Try.prog (tellA shapeC_t2) [] [] [] 3000 40 35 shapeC) = some shapeC_d2 := by kernel_rfl
abbrev asNa29 : Q × Bool := ((.eq (.var 0) (.int 0)), false)
abbrev asNa30 : Q × Bool := ((.eq (.var 0) (.int 1)), true)
def shapeC_t3 : List (Q × Bool) := [asNa9, asNa27, asNa29, asNa30]
def shapeC_d3 : List Duty := [(true, (.int 1), (.fn 30 zNa1)), zNa0]
theorem shapeC_y3 : endC shapeC [(1, 9)] 1000 (callC Try.prog (tellA shapeC_t3) [] [] [] 3000 40 35 shapeC) = some shapeC_d3 := by kernel_rfl
abbrev asNa31 : Q × Bool := ((.eq (.var 0) (.int 1)), false)
abbrev asNa32 : Q × Bool := ((.eq (.var 0) (.int 2)), true)
def shapeC_t4 : List (Q × Bool) := [asNa9, asNa27, asNa29, asNa31, asNa32]
def shapeC_d4 : List Duty := [(true, (.int 2), (.fn 30 zNa1)), zNa0]
theorem shapeC_y4 : endC shapeC [(1, 9)] 1000 (callC Try.prog (tellA shapeC_t4) [] [] [] 3000 40 35 shapeC) = some shapeC_d4 := by kernel_rfl
abbrev asNa33 : Q × Bool := ((.eq (.var 0) (.int 2)), false)
abbrev asNa34 : Q × Bool := ((.eq (.var 0) (.int 3)), true)
def shapeC_t5 : List (Q × Bool) := [asNa9, asNa27, asNa29, asNa31, asNa33, asNa34]
def shapeC_d5 : List Duty := [(true, (.int 3), (.fn 30 zNa1)), zNa0]
theorem shapeC_y5 : endC shapeC [(1, 9)] 1000 (callC Try.prog (tellA shapeC_t5) [] [] [] 3000 40 35 shapeC) = some shapeC_d5 := by kernel_rfl
abbrev asNa35 : Q × Bool := ((.eq (.var 0) (.int 3)), false)
abbrev asNa36 : Q × Bool := ((.eq (.var 0) (.int 4)), true)
def shapeC_t6 : List (Q × Bool) := [asNa9, asNa27, asNa29, asNa31, asNa33, asNa35, asNa36]
def shapeC_d6 : List Duty := [(true, (.int 4), (.fn 30 zNa1)), zNa0]
theorem shapeC_y6 : endC shapeC [(1, 9)] 1000 (callC Try.prog (tellA shapeC_t6) [] [] [] 3000 40 35 shapeC) = some shapeC_d6 := by kernel_rfl
abbrev asNa37 : Q × Bool := ((.eq (.var 0) (.int 4)), false)
abbrev asNa38 : Q × Bool := ((.eq (.var 0) (.int 5)), true)
def shapeC_t7 : List (Q × Bool) := [asNa9, asNa27, asNa29, asNa31, asNa33, asNa35, asNa37, asNa38]
def shapeC_d7 : List Duty := [(true, (.int 5), (.fn 30 zNa1)), zNa0]
theorem shapeC_y7 : endC shapeC [(1, 9)] 1000 (callC Try.prog (tellA shapeC_t7) [] [] [] 3000 40 35 shapeC) = some shapeC_d7 := by kernel_rfl
abbrev asNa39 : Q × Bool := ((.eq (.var 0) (.int 5)), false)
abbrev asNa40 : Q × Bool := ((.eq (.var 0) (.int 6)), true)
def shapeC_t8 : List (Q × Bool) := [asNa9, asNa27, asNa29, asNa31, asNa33, asNa35, asNa37, asNa39, asNa40]
def shapeC_d8 : List Duty := [(true, (.int 6), (.fn 30 zNa1)), zNa0]
theorem shapeC_y8 : endC shapeC [(1, 9)] 1000 (callC Try.prog (tellA shapeC_t8) [] [] [] 3000 40 35 shapeC) = some shapeC_d8 := by kernel_rfl
abbrev asNa41 : Q × Bool := ((.eq (.var 0) (.int 6)), false)
abbrev asNa42 : Q × Bool := ((.eq (.var 0) (.int 7)), true)
def shapeC_t9 : List (Q × Bool) := [asNa9, asNa27, asNa29, asNa31, asNa33, asNa35, asNa37, asNa39, asNa41, asNa42]
def shapeC_d9 : List Duty := [(true, (.int 7), (.fn 30 zNa1)), zNa0]
theorem shapeC_y9 : endC shapeC [(1, 9)] 1000 (callC Try.prog (tellA shapeC_t9) [] [] [] 3000 40 35 shapeC) = some shapeC_d9 := by kernel_rfl
abbrev asNa43 : Q × Bool := ((.eq (.var 0) (.int 7)), false)
abbrev asNa44 : Q × Bool := ((.eq (.var 0) (.int 8)), true)
def shapeC_t10 : List (Q × Bool) := [asNa9, asNa27, asNa29, asNa31, asNa33, asNa35, asNa37, asNa39, asNa41, asNa43, asNa44]
def shapeC_d10 : List Duty := [(true, (.int 8), (.fn 30 zNa1)), zNa0]
theorem shapeC_y10 : endC shapeC [(1, 9)] 1000 (callC Try.prog (tellA shapeC_t10) [] [] [] 3000 40 35 shapeC) = some shapeC_d10 := by kernel_rfl
abbrev asNa45 : Q × Bool := ((.eq (.var 0) (.int 8)), false)
abbrev asNa46 : Q × Bool := ((.eq (.var 0) (.int 9)), true)
def shapeC_t11 : List (Q × Bool) := [asNa9, asNa27, asNa29, asNa31, asNa33, asNa35, asNa37, asNa39, asNa41, asNa43, asNa45, asNa46]
def shapeC_d11 : List Duty := [(true, (.int 9), (.fn 30 zNa1)), zNa0]
theorem shapeC_y11 : endC shapeC [(1, 9)] 1000 (callC Try.prog (tellA shapeC_t11) [] [] [] 3000 40 35 shapeC) = some shapeC_d11 := by kernel_rfl
abbrev asNa47 : Q × Bool := ((.eq (.var 0) (.int 9)), false)
abbrev asNa48 : Q × Bool := ((.eq (.var 0) (.int 10)), true)
def shapeC_t12 : List (Q × Bool) := [asNa9, asNa27, asNa29, asNa31, asNa33, asNa35, asNa37, asNa39, asNa41, asNa43, asNa45, asNa47, asNa48]
def shapeC_d12 : List Duty := [(true, (.int 10), (.fn 30 zNa1)), zNa0]
theorem shapeC_y12 : endC shapeC [(1, 9)] 1000 (callC Try.prog (tellA shapeC_t12) [] [] [] 3000 40 35 shapeC) = some shapeC_d12 := by kernel_rfl
abbrev asNa49 : Q × Bool := ((.eq (.var 0) (.int 10)), false)
abbrev asNa50 : Q × Bool := ((.eq (.var 0) (.int 11)), true)
def shapeC_t13 : List (Q × Bool) := [asNa9, asNa27, asNa29, asNa31, asNa33, asNa35, asNa37, asNa39, asNa41, asNa43, asNa45, asNa47, asNa49, asNa50]
def shapeC_d13 : List Duty := [(true, (.int 11), (.fn 30 zNa1)), zNa0]
theorem shapeC_y13 : endC shapeC [(1, 9)] 1000 (callC Try.prog (tellA shapeC_t13) [] [] [] 3000 40 35 shapeC) = some shapeC_d13 := by kernel_rfl
abbrev asNa51 : Q × Bool := ((.eq (.var 0) (.int 11)), false)
abbrev asNa52 : Q × Bool := ((.eq (.var 0) (.int 12)), true)
def shapeC_t14 : List (Q × Bool) := [asNa9, asNa27, asNa29, asNa31, asNa33, asNa35, asNa37, asNa39, asNa41, asNa43, asNa45, asNa47, asNa49, asNa51, asNa52]
def shapeC_d14 : List Duty := [(true, (.int 12), (.fn 30 zNa1)), zNa0]
theorem shapeC_y14 : endC shapeC [(1, 9)] 1000 (callC Try.prog (tellA shapeC_t14) [] [] [] 3000 40 35 shapeC) = some shapeC_d14 := by kernel_rfl
abbrev asNa53 : Q × Bool := ((.eq (.var 0) (.int 12)), false)
abbrev asNa54 : Q × Bool := ((.eq (.var 0) (.int 13)), true)
def shapeC_t15 : List (Q × Bool) := [asNa9, asNa27, asNa29, asNa31, asNa33, asNa35, asNa37, asNa39, asNa41, asNa43, asNa45, asNa47, asNa49, asNa51, asNa53, asNa54]
def shapeC_d15 : List Duty := [(true, (.int 13), (.fn 30 zNa1)), zNa0]
theorem shapeC_y15 : endC shapeC [(1, 9)] 1000 (callC Try.prog (tellA shapeC_t15) [] [] [] 3000 40 35 shapeC) = some shapeC_d15 := by kernel_rfl
abbrev asNa55 : Q × Bool := ((.eq (.var 0) (.int 13)), false)
abbrev asNa56 : Q × Bool := ((.eq (.var 0) (.int 14)), true)
def shapeC_t16 : List (Q × Bool) := [asNa9, asNa27, asNa29, asNa31, asNa33, asNa35, asNa37, asNa39, asNa41, asNa43, asNa45, asNa47, asNa49, asNa51, asNa53, asNa55, asNa56]
def shapeC_d16 : List Duty := [(true, (.int 14), (.fn 30 zNa1)), zNa0]
theorem shapeC_y16 : endC shapeC [(1, 9)] 1000 (callC Try.prog (tellA shapeC_t16) [] [] [] 3000 40 35 shapeC) = some shapeC_d16 := by kernel_rfl
abbrev asNa57 : Q × Bool := ((.eq (.var 0) (.int 14)), false)
abbrev asNa58 : Q × Bool := ((.eq (.var 0) (.int 15)), true)
def shapeC_t17 : List (Q × Bool) := [asNa9, asNa27, asNa29, asNa31, asNa33, asNa35, asNa37, asNa39, asNa41, asNa43, asNa45, asNa47, asNa49, asNa51, asNa53, asNa55, asNa57, asNa58]
def shapeC_d17 : List Duty := [(true, (.int 15), (.fn 30 zNa1)), zNa0]
theorem shapeC_y17 : endC shapeC [(1, 9)] 1000 (callC Try.prog (tellA shapeC_t17) [] [] [] 3000 40 35 shapeC) = some shapeC_d17 := by kernel_rfl
abbrev asNa59 : Q × Bool := ((.eq (.var 0) (.int 15)), false)
abbrev asNa60 : Q × Bool := ((.eq (.var 0) (.int 16)), true)
def shapeC_t18 : List (Q × Bool) := [asNa9, asNa27, asNa29, asNa31, asNa33, asNa35, asNa37, asNa39, asNa41, asNa43, asNa45, asNa47, asNa49, asNa51, asNa53, asNa55, asNa57, asNa59, asNa60]
def shapeC_d18 : List Duty := [(true, (.int 16), (.fn 30 zNa1)), zNa0]
theorem shapeC_y18 : endC shapeC [(1, 9)] 1000 (callC Try.prog (tellA shapeC_t18) [] [] [] 3000 40 35 shapeC) = some shapeC_d18 := by kernel_rfl
abbrev asNa61 : Q × Bool := ((.eq (.var 0) (.int 16)), false)
abbrev asNa62 : Q × Bool := ((.eq (.var 0) (.int 17)), true)
def shapeC_t19 : List (Q × Bool) := [asNa9, asNa27, asNa29, asNa31, asNa33, asNa35, asNa37, asNa39, asNa41, asNa43, asNa45, asNa47, asNa49, asNa51, asNa53, asNa55, asNa57, asNa59, asNa61, asNa62]
def shapeC_d19 : List Duty := [(true, (.int 17), (.fn 30 zNa1)), zNa0]
theorem shapeC_y19 : endC shapeC [(1, 9)] 1000 (callC Try.prog (tellA shapeC_t19) [] [] [] 3000 40 35 shapeC) = some shapeC_d19 := by kernel_rfl
abbrev asNa63 : Q × Bool := ((.eq (.var 0) (.int 17)), false)
abbrev asNa64 : Q × Bool := ((.eq (.var 0) (.int 18)), true)
def shapeC_t20 : List (Q × Bool) := [asNa9, asNa27, asNa29, asNa31, asNa33, asNa35, asNa37, asNa39, asNa41, asNa43, asNa45, asNa47, asNa49, asNa51, asNa53, asNa55, asNa57, asNa59, asNa61, asNa63, asNa64]
def shapeC_d20 : List Duty := [(true, (.int 18), (.fn 30 zNa1)), zNa0]
theorem shapeC_y20 : endC shapeC [(1, 9)] 1000 (callC Try.prog (tellA shapeC_t20) [] [] [] 3000 40 35 shapeC) = some shapeC_d20 := by kernel_rfl
abbrev asNa65 : Q × Bool := ((.eq (.var 0) (.int 18)), false)
abbrev asNa66 : Q × Bool := ((.eq (.var 0) (.int 19)), true)
def shapeC_t21 : List (Q × Bool) := [asNa9, asNa27, asNa29, asNa31, asNa33, asNa35, asNa37, asNa39, asNa41, asNa43, asNa45, asNa47, asNa49, asNa51, asNa53, asNa55, asNa57, asNa59, asNa61, asNa63, asNa65, asNa66]
def shapeC_d21 : List Duty := [(true, (.int 19), (.fn 30 zNa1)), zNa0]
theorem shapeC_y21 : endC shapeC [(1, 9)] 1000 (callC Try.prog (tellA shapeC_t21) [] [] [] 3000 40 35 shapeC) = some shapeC_d21 := by kernel_rfl
abbrev asNa67 : Q × Bool := ((.eq (.var 0) (.int 19)), false)
abbrev asNa68 : Q × Bool := ((.eq (.var 0) (.int 20)), true)
def shapeC_t22 : List (Q × Bool) := [asNa9, asNa27, asNa29, asNa31, asNa33, asNa35, asNa37, asNa39, asNa41, asNa43, asNa45, asNa47, asNa49, asNa51, asNa53, asNa55, asNa57, asNa59, asNa61, asNa63, asNa65, asNa67, asNa68]
def shapeC_d22 : List Duty := [(true, (.int 20), (.fn 30 zNa1)), zNa0]
theorem shapeC_y22 : endC shapeC [(1, 9)] 1000 (callC Try.prog (tellA shapeC_t22) [] [] [] 3000 40 35 shapeC) = some shapeC_d22 := by kernel_rfl
abbrev asNa69 : Q × Bool := ((.eq (.var 0) (.int 20)), false)
abbrev asNa70 : Q × Bool := ((.eq (.var 0) (.int 21)), true)
def shapeC_t23 : List (Q × Bool) := [asNa9, asNa27, asNa29, asNa31, asNa33, asNa35, asNa37, asNa39, asNa41, asNa43, asNa45, asNa47, asNa49, asNa51, asNa53, asNa55, asNa57, asNa59, asNa61, asNa63, asNa65, asNa67, asNa69, asNa70]
def shapeC_d23 : List Duty := [(true, (.int 21), (.fn 30 zNa1)), zNa0]
theorem shapeC_y23 : endC shapeC [(1, 9)] 1000 (callC Try.prog (tellA shapeC_t23) [] [] [] 3000 40 35 shapeC) = some shapeC_d23 := by kernel_rfl
abbrev asNa71 : Q × Bool := ((.eq (.var 0) (.int 21)), false)
abbrev asNa72 : Q × Bool := ((.eq (.var 0) (.int 22)), true)
def shapeC_t24 : List (Q × Bool) := [asNa9, asNa27, asNa29, asNa31, asNa33, asNa35, asNa37, asNa39, asNa41, asNa43, asNa45, asNa47, asNa49, asNa51, asNa53, asNa55, asNa57, asNa59, asNa61, asNa63, asNa65, asNa67, asNa69, asNa71, asNa72]
def shapeC_d24 : List Duty := [(true, (.int 22), (.fn 30 zNa1)), zNa0]
theorem shapeC_y24 : endC shapeC [(1, 9)] 1000 (callC Try.prog (tellA shapeC_t24) [] [] [] 3000 40 35 shapeC) = some shapeC_d24 := by kernel_rfl
abbrev asNa73 : Q × Bool := ((.eq (.var 0) (.int 22)), false)
abbrev asNa74 : Q × Bool := ((.eq (.var 0) (.int 23)), true)
def shapeC_t25 : List (Q × Bool) := [asNa9, asNa27, asNa29, asNa31, asNa33, asNa35, asNa37, asNa39, asNa41, asNa43, asNa45, asNa47, asNa49, asNa51, asNa53, asNa55, asNa57, asNa59, asNa61, asNa63, asNa65, asNa67, asNa69, asNa71, asNa73, asNa74]
def shapeC_d25 : List Duty := [(true, (.int 23), (.fn 30 zNa1)), zNa0]
theorem shapeC_y25 : endC shapeC [(1, 9)] 1000 (callC Try.prog (tellA shapeC_t25) [] [] [] 3000 40 35 shapeC) = some shapeC_d25 := by kernel_rfl
abbrev asNa75 : Q × Bool := ((.eq (.var 0) (.int 23)), false)
abbrev asNa76 : Q × Bool := ((.eq (.var 0) (.int 24)), true)
def shapeC_t26 : List (Q × Bool) := [asNa9, asNa27, asNa29, asNa31, asNa33, asNa35, asNa37, asNa39, asNa41, asNa43, asNa45, asNa47, asNa49, asNa51, asNa53, asNa55, asNa57, asNa59, asNa61, asNa63, asNa65, asNa67, asNa69, asNa71, asNa73, asNa75, asNa76]
def shapeC_d26 : List Duty := [(true, (.int 24), (.fn 30 zNa1)), zNa0]
theorem shapeC_y26 : endC shapeC [(1, 9)] 1000 (callC Try.prog (tellA shapeC_t26) [] [] [] 3000 40 35 shapeC) = some shapeC_d26 := by kernel_rfl
theorem shapeC_holds : CHolds Try.prog 35 shapeC F := by
 refine cholds_of sound (tableNil _ _) (specsNil _ _) (oversNil _ _) (fuel := 3000) (depth := 40) (by kernel_rfl) fun d hp hR hA => ?_
 have hp := allTold'_iff.2 hp
 simp only [shapeC, tl] at hp hR hA
 have tabE : ((shapeC_d0.getD 1 (true, .int 0, .int 0)).2.1).s ⟨fun _ => .bool false, d, F⟩ = ((shapeC_d0.getD 1 (true, .int 0, .int 0)).2.2).s ⟨fun _ => .bool false, d, F⟩ := by kernel_rfl
 by_cases h0 : 0 ≤ (d 0).toInt
 ·by_cases h1 : 25 ≤ (d 0).toInt
  ·refine ⟨tellA shapeC_t1, _, _, _, tellA_ok (allTold'_iff.1 ?_), shapeC_y1, dutiesTold_ok ?_⟩
   ·simp only [shapeC_t1, tl]
    omega
   ·exact ⟨by show (0 : Int) = kindI (d 0).toInt; unfold kindI; rw [if_neg (by omega)], tabE, True.intro⟩
  ·have hc : (d 0).toInt = 0 ∨ (d 0).toInt = 1 ∨ (d 0).toInt = 2 ∨ (d 0).toInt = 3 ∨ (d 0).toInt = 4 ∨ (d 0).toInt = 5 ∨ (d 0).toInt = 6 ∨ (d 0).toInt = 7 ∨ (d 0).toInt = 8 ∨ (d 0).toInt = 9 ∨ (d 0).toInt = 10 ∨ (d 0).toInt = 11 ∨ (d 0).toInt = 12 ∨ (d 0).toInt = 13 ∨ (d 0).toInt = 14 ∨ (d 0).toInt = 15 ∨ (d 0).toInt = 16 ∨ (d 0).toInt = 17 ∨ (d 0).toInt = 18 ∨ (d 0).toInt = 19 ∨ (d 0).toInt = 20 ∨ (d 0).toInt = 21 ∨ (d 0).toInt = 22 ∨ (d 0).toInt = 23 ∨ (d 0).toInt = 24 := by omega
   rcases hc with h | h | h | h | h | h | h | h | h | h | h | h | h | h | h | h | h | h | h | h | h | h | h | h | h
   ·refine ⟨tellA shapeC_t2, _, _, _, tellA_ok (allTold'_iff.1 ?_), shapeC_y2, dutiesTold_ok ?_⟩
    ·simp only [shapeC_t2, tl]
     omega
    ·exact ⟨by show (0 : Int) = kindI (d 0).toInt; rw [h]; rfl, tabE, True.intro⟩
   ·refine ⟨tellA shapeC_t3, _, _, _, tellA_ok (allTold'_iff.1 ?_), shapeC_y3, dutiesTold_ok ?_⟩
    ·simp only [shapeC_t3, tl]
     omega
    ·exact ⟨by show (1 : Int) = kindI (d 0).toInt; rw [h]; rfl, tabE, True.intro⟩
   ·refine ⟨tellA shapeC_t4, _, _, _, tellA_ok (allTold'_iff.1 ?_), shapeC_y4, dutiesTold_ok ?_⟩
    ·simp only [shapeC_t4, tl]
     omega
    ·exact ⟨by show (2 : Int) = kindI (d 0).toInt; rw [h]; rfl, tabE, True.intro⟩
   ·refine ⟨tellA shapeC_t5, _, _, _, tellA_ok (allTold'_iff.1 ?_), shapeC_y5, dutiesTold_ok ?_⟩
    ·simp only [shapeC_t5, tl]
     omega
    ·exact ⟨by show (3 : Int) = kindI (d 0).toInt; rw [h]; rfl, tabE, True.intro⟩
   ·refine ⟨tellA shapeC_t6, _, _, _, tellA_ok (allTold'_iff.1 ?_), shapeC_y6, dutiesTold_ok ?_⟩
    ·simp only [shapeC_t6, tl]
     omega
    ·exact ⟨by show (4 : Int) = kindI (d 0).toInt; rw [h]; rfl, tabE, True.intro⟩
   ·refine ⟨tellA shapeC_t7, _, _, _, tellA_ok (allTold'_iff.1 ?_), shapeC_y7, dutiesTold_ok ?_⟩
    ·simp only [shapeC_t7, tl]
     omega
    ·exact ⟨by show (5 : Int) = kindI (d 0).toInt; rw [h]; rfl, tabE, True.intro⟩
   ·refine ⟨tellA shapeC_t8, _, _, _, tellA_ok (allTold'_iff.1 ?_), shapeC_y8, dutiesTold_ok ?_⟩
    ·simp only [shapeC_t8, tl]
     omega
    ·exact ⟨by show (6 : Int) = kindI (d 0).toInt; rw [h]; rfl, tabE, True.intro⟩
   ·refine ⟨tellA shapeC_t9, _, _, _, tellA_ok (allTold'_iff.1 ?_), shapeC_y9, dutiesTold_ok ?_⟩
    ·simp only [shapeC_t9, tl]
     omega
    ·exact ⟨by show (7 : Int) = kindI (d 0).toInt; rw [h]; rfl, tabE, True.intro⟩
   ·refine ⟨tellA shapeC_t10, _, _, _, tellA_ok (allTold'_iff.1 ?_), shapeC_y10, dutiesTold_ok ?_⟩
    ·simp only [shapeC_t10, tl]
     omega
    ·exact ⟨by show (8 : Int) = kindI (d 0).toInt; rw [h]; rfl, tabE, True.intro⟩
   ·refine ⟨tellA shapeC_t11, _, _, _, tellA_ok (allTold'_iff.1 ?_), shapeC_y11, dutiesTold_ok ?_⟩
    ·simp only [shapeC_t11, tl]
     omega
    ·exact ⟨by show (9 : Int) = kindI (d 0).toInt; rw [h]; rfl, tabE, True.intro⟩
   ·refine ⟨tellA shapeC_t12, _, _, _, tellA_ok (allTold'_iff.1 ?_), shapeC_y12, dutiesTold_ok ?_⟩
    ·simp only [shapeC_t12, tl]
     omega
    ·exact ⟨by show (10 : Int) = kindI (d 0).toInt; rw [h]; rfl, tabE, True.intro⟩
   ·refine ⟨tellA shapeC_t13, _, _, _, tellA_ok (allTold'_iff.1 ?_), shapeC_y13, dutiesTold_ok ?_⟩
    ·simp only [shapeC_t13, tl]
     omega
    ·exact ⟨by show (11 : Int) = kindI (d 0).toInt; rw [h]; rfl, tabE, True.intro⟩
   ·refine ⟨tellA shapeC_t14, _, _, _, tellA_ok (allTold'_iff.1 ?_), shapeC_y14, dutiesTold_ok ?_⟩
    ·simp only [shapeC_t14, tl]
     omega
    ·exact ⟨by show (12 : Int) = kindI (d 0).toInt; rw [h]; rfl, tabE, True.intro⟩
   ·refine ⟨tellA shapeC_t15, _, _, _, tellA_ok (allTold'_iff.1 ?_), shapeC_y15, dutiesTold_ok ?_⟩
    ·simp only [shapeC_t15, tl]
     omega
    ·exact ⟨by show (13 : Int) = kindI (d 0).toInt; rw [h]; rfl, tabE, True.intro⟩
   ·refine ⟨tellA shapeC_t16, _, _, _, tellA_ok (allTold'_iff.1 ?_), shapeC_y16, dutiesTold_ok ?_⟩
    ·simp only [shapeC_t16, tl]
     omega
    ·exact ⟨by show (14 : Int) = kindI (d 0).toInt; rw [h]; rfl, tabE, True.intro⟩
   ·refine ⟨tellA shapeC_t17, _, _, _, tellA_ok (allTold'_iff.1 ?_), shapeC_y17, dutiesTold_ok ?_⟩
    ·simp only [shapeC_t17, tl]
     omega
    ·exact ⟨by show (15 : Int) = kindI (d 0).toInt; rw [h]; rfl, tabE, True.intro⟩
   ·refine ⟨tellA shapeC_t18, _, _, _, tellA_ok (allTold'_iff.1 ?_), shapeC_y18, dutiesTold_ok ?_⟩
    ·simp only [shapeC_t18, tl]
     omega
    ·exact ⟨by show (16 : Int) = kindI (d 0).toInt; rw [h]; rfl, tabE, True.intro⟩
   ·refine ⟨tellA shapeC_t19, _, _, _, tellA_ok (allTold'_iff.1 ?_), shapeC_y19, dutiesTold_ok ?_⟩
    ·simp only [shapeC_t19, tl]
     omega
    ·exact ⟨by show (17 : Int) = kindI (d 0).toInt; rw [h]; rfl, tabE, True.intro⟩
   ·refine ⟨tellA shapeC_t20, _, _, _, tellA_ok (allTold'_iff.1 ?_), shapeC_y20, dutiesTold_ok ?_⟩
    ·simp only [shapeC_t20, tl]
     omega
    ·exact ⟨by show (18 : Int) = kindI (d 0).toInt; rw [h]; rfl, tabE, True.intro⟩
   ·refine ⟨tellA shapeC_t21, _, _, _, tellA_ok (allTold'_iff.1 ?_), shapeC_y21, dutiesTold_ok ?_⟩
    ·simp only [shapeC_t21, tl]
     omega
    ·exact ⟨by show (19 : Int) = kindI (d 0).toInt; rw [h]; rfl, tabE, True.intro⟩
   ·refine ⟨tellA shapeC_t22, _, _, _, tellA_ok (allTold'_iff.1 ?_), shapeC_y22, dutiesTold_ok ?_⟩
    ·simp only [shapeC_t22, tl]
     omega
    ·exact ⟨by show (20 : Int) = kindI (d 0).toInt; rw [h]; rfl, tabE, True.intro⟩
   ·refine ⟨tellA shapeC_t23, _, _, _, tellA_ok (allTold'_iff.1 ?_), shapeC_y23, dutiesTold_ok ?_⟩
    ·simp only [shapeC_t23, tl]
     omega
    ·exact ⟨by show (21 : Int) = kindI (d 0).toInt; rw [h]; rfl, tabE, True.intro⟩
   ·refine ⟨tellA shapeC_t24, _, _, _, tellA_ok (allTold'_iff.1 ?_), shapeC_y24, dutiesTold_ok ?_⟩
    ·simp only [shapeC_t24, tl]
     omega
    ·exact ⟨by show (22 : Int) = kindI (d 0).toInt; rw [h]; rfl, tabE, True.intro⟩
   ·refine ⟨tellA shapeC_t25, _, _, _, tellA_ok (allTold'_iff.1 ?_), shapeC_y25, dutiesTold_ok ?_⟩
    ·simp only [shapeC_t25, tl]
     omega
    ·exact ⟨by show (23 : Int) = kindI (d 0).toInt; rw [h]; rfl, tabE, True.intro⟩
   ·refine ⟨tellA shapeC_t26, _, _, _, tellA_ok (allTold'_iff.1 ?_), shapeC_y26, dutiesTold_ok ?_⟩
    ·simp only [shapeC_t26, tl]
     omega
    ·exact ⟨by show (24 : Int) = kindI (d 0).toInt; rw [h]; rfl, tabE, True.intro⟩
 ·refine ⟨tellA shapeC_t0, _, _, _, tellA_ok (allTold'_iff.1 ?_), shapeC_y0, dutiesTold_ok ?_⟩
  ·simp only [shapeC_t0, tl]
   omega
  ·exact ⟨by show (0 : Int) = kindI (d 0).toInt; unfold kindI; rw [if_neg (by omega)], tabE, True.intro⟩

def numOY : LSpec := { n := 54, next := 2, pat := [(1, .ptr 1 0), (41, .sslice 3 (.int 0) (.var 1) (.var 9) true), (42, .sint .i64 (.var 1)), (43, .sint .i64 (.var 0))], rows := [zNa14], pre := [(.le (.int 0) (.var 0), true), (.le (.var 0) (.var 1), true), (.eq (.fn 33 (.bi .pair (.var 2) zNa1)) (.int 1), true)], x := 1, fin := [], frows := [], same := [3], chg := [1, 5, 41, 42, 43, 44, 45, 46, 47, 48, 49, 50, 51, 52, 53] }
abbrev asNa77 : Q × Bool := ((.le (.var 1) (.var 0)), false)
abbrev asNa78 : Q × Bool := ((.le (.int 0) zNa15), true)
abbrev asNa79 : Q × Bool := ((.le zNa15 (.int 2147483647)), true)
abbrev asNa80 : Q × Bool := ((.fit .i64 zNa12), true)
def numOY_t0 : List (Q × Bool) := [asNa77, asNa9, asNa78, asNa79, asNa80]
def numOY_d0 : List Duty := []
def numOY_h0 : List (Nat × E) := [(2, (.var 2)), (0, zNa12), (1, (.var 1)), (9, (.var 9))]
theorem numOY_h0_a : lookE numOY_h0 0 = zNa12 ∧ lookE numOY_h0 1 = (.var 1) ∧ lookE numOY_h0 2 = (.var 2) ∧ lookE numOY_h0 9 = (.var 9) := ⟨rfl, rfl, rfl, rfl⟩
theorem numOY_y0 : nextD numOY numOY_h0 [(3, 3), (1, 1)] (roundC Try.prog [] [] [] 3000 40 13 [4, 1, 0, 1, 1, 1] (tellA numOY_t0) numOY) = some numOY_d0 := by kernel_rfl
abbrev asNa81 : Q × Bool := ((.le (.var 1) (.var 0)), true)
def numOY_t1 : List (Q × Bool) := [asNa81]
def numOY_d1 : List Duty := []
theorem numOY_y1 : endD numOY [(3, 3), (1, 1)] 1000 (roundC Try.prog [] [] [] 3000 40 13 [4, 1, 0, 1, 1, 1] (tellA numOY_t1) numOY) = some numOY_d1 := by kernel_rfl
theorem numOY_holds : LHolds Try.prog (loopAt Try.prog 13 [4, 1, 0, 1, 1, 1]) numOY F := by
 refine loop_roundsC sound (tableNil _ _) (specsNil _ _) (oversNil _ _) (fuel := 3000) (depth := 40) (by kernel_rfl) (by kernel_rfl) (by kernel_rfl) (fun d => ((d 1).toInt - (d 0).toInt).toNat) fun d hp hR hA => ?_
 have hp := allTold'_iff.2 hp
 simp only [numOY, tl] at hp hR hA
 simp only [F33] at hp
 obtain ⟨p0, p1, p2⟩ := hp
 have hl : ((d 2).ints.length : Int) = (d 1).toInt := by omega
 by_cases h : (d 1).toInt ≤ (d 0).toInt
 ·refine ⟨tellA numOY_t1, tellA_ok (allTold'_iff.1 ?_), .inl ⟨_, _, _, numOY_y1, dutiesTold_ok ?_⟩⟩
  all_goals try simp only [numOY_t1, numOY_d1, F33, tl]
  all_goals first | done | (and_intros <;> first | omega | assumption | exact one_to (by assumption) | exact not_to (by assumption) | trivial)
 ·have p2 := one_of p2
  have hs := fine_step (x := (d 2).ints) (i := (d 0).toInt) p0 (by omega)
  rw [hs] at p2
  simp only [Bool.and_eq_true, decide_eq_true_eq] at p2
  obtain ⟨⟨q0, q1⟩, q2⟩ := p2
  refine ⟨tellA numOY_t0, tellA_ok (allTold'_iff.1 ?_), .inr ⟨numOY_h0, _, _, numOY_y0, dutiesTold_ok ?_, allTold'_iff.1 ?_, ?_⟩⟩
  all_goals try simp only [numOY_t0, numOY_d0, F33, numOY, numOY_h0_a, tl]
  all_goals first | done | (and_intros <;> first | omega | assumption | exact one_to (by assumption) | exact not_to (by assumption) | trivial)

def numON : LSpec := { n := 54, next := 2, pat := [(1, .ptr 1 0), (41, .sslice 3 (.int 0) (.var 1) (.var 9) true), (42, .sint .i64 (.var 1)), (43, .sint .i64 (.var 0))], rows := [zNa14], pre := [(.le (.int 0) (.var 0), true), (.le (.var 0) (.var 1), true), (.eq (.fn 33 (.bi .pair (.var 2) zNa1)) (.int 1), false)], x := 999999, fin := [(2, .int .i64 5)], frows := [], same := [3], chg := [1, 2, 5, 41, 42, 43, 44, 45, 46, 47, 48, 49, 50, 51, 52, 53] }
def numON_t0 : List (Q × Bool) := [asNa77, asNa9, asNa78, asNa79, asNa80]
def numON_d0 : List Duty := []
def numON_h0 : List (Nat × E) := [(2, (.var 2)), (0, zNa12), (1, (.var 1)), (9, (.var 9))]
theorem numON_h0_a : lookE numON_h0 0 = zNa12 ∧ lookE numON_h0 1 = (.var 1) ∧ lookE numON_h0 2 = (.var 2) ∧ lookE numON_h0 9 = (.var 9) := ⟨rfl, rfl, rfl, rfl⟩
theorem numON_y0 : nextD numON numON_h0 [(3, 3), (1, 1)] (roundC Try.prog [] [] [] 3000 40 13 [4, 1, 0, 1, 1, 1] (tellA numON_t0) numON) = some numON_d0 := by kernel_rfl
abbrev asNa82 : Q × Bool := ((.le (.int 0) zNa15), false)
def numON_t1 : List (Q × Bool) := [asNa77, asNa9, asNa82]
def numON_d1 : List Duty := []
theorem numON_y1 : endD numON [(3, 3), (1, 1)] 1000 (roundC Try.prog [] [] [] 3000 40 13 [4, 1, 0, 1, 1, 1] (tellA numON_t1) numON) = some numON_d1 := by kernel_rfl
abbrev asNa83 : Q × Bool := ((.le zNa15 (.int 2147483647)), false)
def numON_t2 : List (Q × Bool) := [asNa77, asNa9, asNa78, asNa83]
def numON_d2 : List Duty := []
theorem numON_y2 : endD numON [(3, 3), (1, 1)] 1000 (roundC Try.prog [] [] [] 3000 40 13 [4, 1, 0, 1, 1, 1] (tellA numON_t2) numON) = some numON_d2 := by kernel_rfl
theorem numON_holds : LHolds Try.prog (loopAt Try.prog 13 [4, 1, 0, 1, 1, 1]) numON F := by
 refine loop_roundsC sound (tableNil _ _) (specsNil _ _) (oversNil _ _) (fuel := 3000) (depth := 40) (by kernel_rfl) (by kernel_rfl) (by kernel_rfl) (fun d => ((d 1).toInt - (d 0).toInt).toNat) fun d hp hR hA => ?_
 have hp := allTold'_iff.2 hp
 simp only [numON, tl] at hp hR hA
 simp only [F33] at hp
 obtain ⟨p0, p1, p2⟩ := hp
 have hl : ((d 2).ints.length : Int) = (d 1).toInt := by omega
 have p2 := not_of p2
 by_cases h : (d 1).toInt ≤ (d 0).toInt
 ·exact absurd (fine_end (x := (d 2).ints) (i := (d 0).toInt) (by omega)) p2
 ·have hs := fine_step (x := (d 2).ints) (i := (d 0).toInt) p0 (by omega)
  rw [hs] at p2
  simp only [Bool.and_eq_true, decide_eq_true_eq] at p2
  by_cases g : 0 ≤ (d 2).ints[(d 0).toInt.toNat]?.getD 0
  ·by_cases g2 : (d 2).ints[(d 0).toInt.toNat]?.getD 0 ≤ 2147483647
   ·have q2 : ¬ fineL ((d 2).ints.drop ((d 0).toInt + 1).toNat) = true := fun q => p2 ⟨⟨g, g2⟩, q⟩
    refine ⟨tellA numON_t0, tellA_ok (allTold'_iff.1 ?_), .inr ⟨numON_h0, _, _, numON_y0, dutiesTold_ok ?_, allTold'_iff.1 ?_, ?_⟩⟩
    all_goals try simp only [numON_t0, numON_d0, F33, numON, numON_h0_a, tl]
    all_goals first | done | (and_intros <;> first | omega | assumption | exact one_to (by assumption) | exact not_to (by assumption) | trivial)
   ·refine ⟨tellA numON_t2, tellA_ok (allTold'_iff.1 ?_), .inl ⟨_, _, _, numON_y2, dutiesTold_ok ?_⟩⟩
    all_goals try simp only [numON_t2, numON_d2, F33, tl]
    all_goals first | done | (and_intros <;> first | omega | assumption | exact one_to (by assumption) | exact not_to (by assumption) | trivial)
  ·refine ⟨tellA numON_t1, tellA_ok (allTold'_iff.1 ?_), .inl ⟨_, _, _, numON_y1, dutiesTold_ok ?_⟩⟩
   all_goals try simp only [numON_t1, numON_d1, F33, tl]
   all_goals first | done | (and_intros <;> first | omega | assumption | exact one_to (by assumption) | exact not_to (by assumption) | trivial)

def chkoeo : CSpec := { args := [.agg [.sint .i64 (.var 0), .sslice 3 (.int 0) (.var 1) (.var 9) true, .slice 5 0 0 0 false, .sslice 7 (.int 0) (.var 5) (.var 11) true]], next := 4, rows := [zNa14], pre := [(.le (.int 0) (.var 1), true), (.le (.var 1) (.int 5000), true), (.le (.int 0) (.var 5), true), (.le (.var 5) (.int 5000), true)], res := .sint .i64 zNa3, frows := [], same := [3] }
abbrev asNa84 : Q × Bool := ((.le (.int 0) (.fn 30 zNa1)), true)
abbrev asNa85 : Q × Bool := ((.le (.int 25) (.fn 30 zNa1)), false)
abbrev asNa86 : Q × Bool := ((.same (.bi .sel txNa36 (.int 0)) (.lits [])), true)
def chkoeo_t0 : List (Q × Bool) := [asNa84, asNa85, asNa86]
def chkoeo_d0 : List Duty := [(true, (.int 2), zNa3)]
noncomputable abbrev ltNa0 : List LEntry := [⟨13, [4, 1, 0, 1, 1, 1], numOY⟩, ⟨13, [4, 1, 0, 1, 1, 1], numON⟩]
theorem chkoeo_y0 : endC chkoeo [(3, 3)] 1000 (callC Try.prog (tellA chkoeo_t0) ltNa0 [(35, shapeC)] [] 3000 40 13 chkoeo) = some chkoeo_d0 := by kernel_rfl
abbrev asNa87 : Q × Bool := ((.same (.bi .sel txNa36 (.int 0)) (.lits [])), false)
abbrev asNa88 : Q × Bool := ((.fit .i64 (.var 1)), true)
abbrev asNa89 : Q × Bool := ((.le txNa47 (.var 1)), false)
def chkoeo_t1 : List (Q × Bool) := [asNa84, asNa85, asNa87, asNa88, asNa89]
def chkoeo_d1 : List Duty := [(true, (.int 5), zNa3)]
theorem chkoeo_y1 : endC chkoeo [(3, 3)] 1000 (callC Try.prog (tellA chkoeo_t1) ltNa0 [(35, shapeC)] [] 3000 40 13 chkoeo) = some chkoeo_d1 := by kernel_rfl
abbrev asNa90 : Q × Bool := ((.le txNa47 (.var 1)), true)
abbrev asNa91 : Q × Bool := ((.le (.var 1) txNa48), false)
def chkoeo_t2 : List (Q × Bool) := [asNa84, asNa85, asNa87, asNa88, asNa90, asNa91]
def chkoeo_d2 : List Duty := [(true, (.int 5), zNa3)]
theorem chkoeo_y2 : endC chkoeo [(3, 3)] 1000 (callC Try.prog (tellA chkoeo_t2) ltNa0 [(35, shapeC)] [] 3000 40 13 chkoeo) = some chkoeo_d2 := by kernel_rfl
abbrev asNa92 : Q × Bool := ((.le (.var 1) txNa48), true)
abbrev asNa93 : Q × Bool := ((.le txNa49 (.int 0)), false)
def chkoeo_t3 : List (Q × Bool) := [asNa84, asNa85, asNa87, asNa88, asNa90, asNa92, asNa93]
def chkoeo_d3 : List Duty := [(true, (.int 5), zNa3)]
theorem chkoeo_y3 : endC chkoeo [(3, 3)] 1000 (callC Try.prog (tellA chkoeo_t3) ltNa0 [(35, shapeC)] [] 3000 40 13 chkoeo) = some chkoeo_d3 := by kernel_rfl
abbrev asNa94 : Q × Bool := ((.le txNa49 (.int 0)), true)
abbrev asNa95 : Q × Bool := ((.le (.int 0) txNa50), true)
abbrev asNa96 : Q × Bool := ((.fit .i64 (.var 5)), true)
abbrev asNa97 : Q × Bool := ((.le txNa51 (.var 5)), false)
def chkoeo_t4 : List (Q × Bool) := [asNa84, asNa85, asNa87, asNa88, asNa90, asNa92, asNa94, asNa95, asNa96, asNa97]
def chkoeo_d4 : List Duty := [(true, (.int 5), zNa3)]
theorem chkoeo_y4 : endC chkoeo [(3, 3)] 1000 (callC Try.prog (tellA chkoeo_t4) ltNa0 [(35, shapeC)] [] 3000 40 13 chkoeo) = some chkoeo_d4 := by kernel_rfl
abbrev asNa98 : Q × Bool := ((.le txNa51 (.var 5)), true)
abbrev asNa99 : Q × Bool := ((.le (.var 5) txNa52), false)
def chkoeo_t5 : List (Q × Bool) := [asNa84, asNa85, asNa87, asNa88, asNa90, asNa92, asNa94, asNa95, asNa96, asNa98, asNa99]
def chkoeo_d5 : List Duty := [(true, (.int 5), zNa3)]
theorem chkoeo_y5 : endC chkoeo [(3, 3)] 1000 (callC Try.prog (tellA chkoeo_t5) ltNa0 [(35, shapeC)] [] 3000 40 13 chkoeo) = some chkoeo_d5 := by kernel_rfl
abbrev asNa100 : Q × Bool := ((.le (.var 5) txNa52), true)
abbrev asNa101 : Q × Bool := ((.le (.int 0) (.var 1)), true)
abbrev asNa102 : Q × Bool := ((.eq zNa16 (.int 1)), false)
def chkoeo_t6 : List (Q × Bool) := [asNa84, asNa85, asNa87, asNa88, asNa90, asNa92, asNa94, asNa95, asNa96, asNa98, asNa100, asNa101, asNa102]
def chkoeo_d6 : List Duty := [(true, (.int 5), zNa3)]
theorem chkoeo_y6 : endC chkoeo [(3, 3)] 1000 (callC Try.prog (tellA chkoeo_t6) ltNa0 [(35, shapeC)] [] 3000 40 13 chkoeo) = some chkoeo_d6 := by kernel_rfl
abbrev asNa103 : Q × Bool := ((.eq zNa16 (.int 1)), true)
def chkoeo_t7 : List (Q × Bool) := [asNa84, asNa85, asNa87, asNa88, asNa90, asNa92, asNa94, asNa95, asNa96, asNa98, asNa100, asNa101, asNa103]
def chkoeo_d7 : List Duty := [(true, (.int 0), zNa3)]
theorem chkoeo_y7 : endC chkoeo [(3, 3)] 1000 (callC Try.prog (tellA chkoeo_t7) ltNa0 [(35, shapeC)] [] 3000 40 13 chkoeo) = some chkoeo_d7 := by kernel_rfl
set_option maxHeartbeats 16000000 in
theorem chkoeo_holds : CHolds Try.prog 13 chkoeo F := by
 refine cholds_of sound (tableCons numOY_holds (tableCons numON_holds (tableNil _ _))) (specsCons shapeC_holds (specsNil _ _)) (oversNil _ _) (fuel := 3000) (depth := 40) (by kernel_rfl) fun d hp hR hA => ?_
 have hp := allTold'_iff.2 hp
 simp only [chkoeo, tl] at hp hR hA
 have hk := kind_in (d 0).toInt
 have tf := tab_in hk
 by_cases g0 : nameI (kindI (d 0).toInt) = []
 ·refine ⟨tellA chkoeo_t0, _, _, _, tellA_ok (allTold'_iff.1 ?_), chkoeo_y0, dutiesTold_ok ?_⟩
  all_goals simp only [chkoeo_t0, chkoeo_d0, F30, F31, F32, F33, rowF, lowF, topF, nameF, drop_z, tl]
  all_goals first | done | (and_intros <;> first | omega | assumption | exact one_to (by assumption) | exact not_to (by assumption) | trivial) | (simp [wrongI, holdB, g0]; done)
 ·by_cases g1 : lowI (kindI (d 0).toInt) 1 ≤ (d 1).toInt
  ·by_cases g2 : (d 1).toInt ≤ topI (kindI (d 0).toInt) 1
   ·by_cases g3 : lowI (kindI (d 0).toInt) 2 ≤ (0 : Int)
    ·by_cases g4 : (0 : Int) ≤ topI (kindI (d 0).toInt) 2
     ·by_cases g5 : lowI (kindI (d 0).toInt) 3 ≤ (d 5).toInt
      ·by_cases g6 : (d 5).toInt ≤ topI (kindI (d 0).toInt) 3
       ·by_cases g7 : fineL (d 2).ints = true
        ·refine ⟨tellA chkoeo_t7, _, _, _, tellA_ok (allTold'_iff.1 ?_), chkoeo_y7, dutiesTold_ok ?_⟩
         all_goals simp only [chkoeo_t7, chkoeo_d7, F30, F31, F32, F33, rowF, lowF, topF, nameF, drop_z, tl]
         all_goals first | done | (and_intros <;> first | omega | assumption | exact one_to (by assumption) | exact not_to (by assumption) | trivial) | (simp [wrongI, holdB, g0, g1, g2, g3, g4, g5, g6, g7]; done)
        ·refine ⟨tellA chkoeo_t6, _, _, _, tellA_ok (allTold'_iff.1 ?_), chkoeo_y6, dutiesTold_ok ?_⟩
         all_goals simp only [chkoeo_t6, chkoeo_d6, F30, F31, F32, F33, rowF, lowF, topF, nameF, drop_z, tl]
         all_goals first | done | (and_intros <;> first | omega | assumption | exact one_to (by assumption) | exact not_to (by assumption) | trivial) | (simp [wrongI, holdB, g0, g1, g2, g3, g4, g5, g6, g7]; done)
       ·refine ⟨tellA chkoeo_t5, _, _, _, tellA_ok (allTold'_iff.1 ?_), chkoeo_y5, dutiesTold_ok ?_⟩
        all_goals simp only [chkoeo_t5, chkoeo_d5, F30, F31, F32, F33, rowF, lowF, topF, nameF, drop_z, tl]
        all_goals first | done | (and_intros <;> first | omega | assumption | exact one_to (by assumption) | exact not_to (by assumption) | trivial) | (simp [wrongI, holdB, g0, g1, g2, g3, g4, g5, g6]; done)
      ·refine ⟨tellA chkoeo_t4, _, _, _, tellA_ok (allTold'_iff.1 ?_), chkoeo_y4, dutiesTold_ok ?_⟩
       all_goals simp only [chkoeo_t4, chkoeo_d4, F30, F31, F32, F33, rowF, lowF, topF, nameF, drop_z, tl]
       all_goals first | done | (and_intros <;> first | omega | assumption | exact one_to (by assumption) | exact not_to (by assumption) | trivial) | (simp [wrongI, holdB, g0, g1, g2, g3, g4, g5]; done)
     ·exfalso
      omega
    ·refine ⟨tellA chkoeo_t3, _, _, _, tellA_ok (allTold'_iff.1 ?_), chkoeo_y3, dutiesTold_ok ?_⟩
     all_goals simp only [chkoeo_t3, chkoeo_d3, F30, F31, F32, F33, rowF, lowF, topF, nameF, drop_z, tl]
     all_goals first | done | (and_intros <;> first | omega | assumption | exact one_to (by assumption) | exact not_to (by assumption) | trivial) | (simp [wrongI, holdB, g0, g1, g2, g3]; done)
   ·refine ⟨tellA chkoeo_t2, _, _, _, tellA_ok (allTold'_iff.1 ?_), chkoeo_y2, dutiesTold_ok ?_⟩
    all_goals simp only [chkoeo_t2, chkoeo_d2, F30, F31, F32, F33, rowF, lowF, topF, nameF, drop_z, tl]
    all_goals first | done | (and_intros <;> first | omega | assumption | exact one_to (by assumption) | exact not_to (by assumption) | trivial) | (simp [wrongI, holdB, g0, g1, g2]; done)
  ·refine ⟨tellA chkoeo_t1, _, _, _, tellA_ok (allTold'_iff.1 ?_), chkoeo_y1, dutiesTold_ok ?_⟩
   all_goals simp only [chkoeo_t1, chkoeo_d1, F30, F31, F32, F33, rowF, lowF, topF, nameF, drop_z, tl]
   all_goals first | done | (and_intros <;> first | omega | assumption | exact one_to (by assumption) | exact not_to (by assumption) | trivial) | (simp [wrongI, holdB, g0, g1]; done)

def chkooo : CSpec := { args := [.agg [.sint .i64 (.var 0), .sslice 3 (.int 0) (.var 1) (.var 9) true, .vslice 5 16 (.int 0) (.var 3) (.var 10) true, .sslice 7 (.int 0) (.var 5) (.var 11) true]], next := 4, rows := [zNa14], pre := [(.le (.int 0) (.var 1), true), (.le (.var 1) (.int 5000), true), (.le (.int 0) (.var 3), true), (.le (.var 3) (.int 5000), true), (.le (.int 0) (.var 5), true), (.le (.var 5) (.int 5000), true)], res := .sint .i64 zNa11, frows := [], same := [3] }
def chkooo_t0 : List (Q × Bool) := [asNa84, asNa85, asNa86]
def chkooo_d0 : List Duty := [(true, (.int 2), zNa11)]
theorem chkooo_y0 : endC chkooo [(3, 3)] 1000 (callC Try.prog (tellA chkooo_t0) ltNa0 [(35, shapeC)] [] 3000 40 13 chkooo) = some chkooo_d0 := by kernel_rfl
def chkooo_t1 : List (Q × Bool) := [asNa84, asNa85, asNa87, asNa88, asNa89]
def chkooo_d1 : List Duty := [zNa2]
theorem chkooo_y1 : endC chkooo [(3, 3)] 1000 (callC Try.prog (tellA chkooo_t1) ltNa0 [(35, shapeC)] [] 3000 40 13 chkooo) = some chkooo_d1 := by kernel_rfl
def chkooo_t2 : List (Q × Bool) := [asNa84, asNa85, asNa87, asNa88, asNa90, asNa91]
def chkooo_d2 : List Duty := [zNa2]
theorem chkooo_y2 : endC chkooo [(3, 3)] 1000 (callC Try.prog (tellA chkooo_t2) ltNa0 [(35, shapeC)] [] 3000 40 13 chkooo) = some chkooo_d2 := by kernel_rfl
abbrev asNa104 : Q × Bool := ((.fit .i64 (.var 3)), true)
abbrev asNa105 : Q × Bool := ((.le txNa49 (.var 3)), false)
def chkooo_t3 : List (Q × Bool) := [asNa84, asNa85, asNa87, asNa88, asNa90, asNa92, asNa104, asNa105]
def chkooo_d3 : List Duty := [zNa2]
theorem chkooo_y3 : endC chkooo [(3, 3)] 1000 (callC Try.prog (tellA chkooo_t3) ltNa0 [(35, shapeC)] [] 3000 40 13 chkooo) = some chkooo_d3 := by kernel_rfl
abbrev asNa106 : Q × Bool := ((.le txNa49 (.var 3)), true)
abbrev asNa107 : Q × Bool := ((.le (.var 3) txNa50), false)
def chkooo_t4 : List (Q × Bool) := [asNa84, asNa85, asNa87, asNa88, asNa90, asNa92, asNa104, asNa106, asNa107]
def chkooo_d4 : List Duty := [zNa2]
theorem chkooo_y4 : endC chkooo [(3, 3)] 1000 (callC Try.prog (tellA chkooo_t4) ltNa0 [(35, shapeC)] [] 3000 40 13 chkooo) = some chkooo_d4 := by kernel_rfl
abbrev asNa108 : Q × Bool := ((.le (.var 3) txNa50), true)
def chkooo_t5 : List (Q × Bool) := [asNa84, asNa85, asNa87, asNa88, asNa90, asNa92, asNa104, asNa106, asNa108, asNa96, asNa97]
def chkooo_d5 : List Duty := [zNa2]
theorem chkooo_y5 : endC chkooo [(3, 3)] 1000 (callC Try.prog (tellA chkooo_t5) ltNa0 [(35, shapeC)] [] 3000 40 13 chkooo) = some chkooo_d5 := by kernel_rfl
def chkooo_t6 : List (Q × Bool) := [asNa84, asNa85, asNa87, asNa88, asNa90, asNa92, asNa104, asNa106, asNa108, asNa96, asNa98, asNa99]
def chkooo_d6 : List Duty := [zNa2]
theorem chkooo_y6 : endC chkooo [(3, 3)] 1000 (callC Try.prog (tellA chkooo_t6) ltNa0 [(35, shapeC)] [] 3000 40 13 chkooo) = some chkooo_d6 := by kernel_rfl
def chkooo_t7 : List (Q × Bool) := [asNa84, asNa85, asNa87, asNa88, asNa90, asNa92, asNa104, asNa106, asNa108, asNa96, asNa98, asNa100, asNa101, asNa102]
def chkooo_d7 : List Duty := [zNa2]
theorem chkooo_y7 : endC chkooo [(3, 3)] 1000 (callC Try.prog (tellA chkooo_t7) ltNa0 [(35, shapeC)] [] 3000 40 13 chkooo) = some chkooo_d7 := by kernel_rfl
def chkooo_t8 : List (Q × Bool) := [asNa84, asNa85, asNa87, asNa88, asNa90, asNa92, asNa104, asNa106, asNa108, asNa96, asNa98, asNa100, asNa101, asNa103]
def chkooo_d8 : List Duty := [(true, (.int 0), zNa11)]
theorem chkooo_y8 : endC chkooo [(3, 3)] 1000 (callC Try.prog (tellA chkooo_t8) ltNa0 [(35, shapeC)] [] 3000 40 13 chkooo) = some chkooo_d8 := by kernel_rfl
set_option maxHeartbeats 16000000 in
theorem chkooo_holds : CHolds Try.prog 13 chkooo F := by
 refine cholds_of sound (tableCons numOY_holds (tableCons numON_holds (tableNil _ _))) (specsCons shapeC_holds (specsNil _ _)) (oversNil _ _) (fuel := 3000) (depth := 40) (by kernel_rfl) fun d hp hR hA => ?_
 have hp := allTold'_iff.2 hp
 simp only [chkooo, tl] at hp hR hA
 have hk := kind_in (d 0).toInt
 have tf := tab_in hk
 by_cases g0 : nameI (kindI (d 0).toInt) = []
 ·refine ⟨tellA chkooo_t0, _, _, _, tellA_ok (allTold'_iff.1 ?_), chkooo_y0, dutiesTold_ok ?_⟩
  all_goals simp only [chkooo_t0, chkooo_d0, F30, F31, F32, F33, rowF, lowF, topF, nameF, drop_z, tl]
  all_goals first | done | (and_intros <;> first | omega | assumption | exact one_to (by assumption) | exact not_to (by assumption) | trivial) | (simp [wrongI, holdB, g0]; done)
 ·by_cases g1 : lowI (kindI (d 0).toInt) 1 ≤ (d 1).toInt
  ·by_cases g2 : (d 1).toInt ≤ topI (kindI (d 0).toInt) 1
   ·by_cases g3 : lowI (kindI (d 0).toInt) 2 ≤ (d 3).toInt
    ·by_cases g4 : (d 3).toInt ≤ topI (kindI (d 0).toInt) 2
     ·by_cases g5 : lowI (kindI (d 0).toInt) 3 ≤ (d 5).toInt
      ·by_cases g6 : (d 5).toInt ≤ topI (kindI (d 0).toInt) 3
       ·by_cases g7 : fineL (d 2).ints = true
        ·refine ⟨tellA chkooo_t8, _, _, _, tellA_ok (allTold'_iff.1 ?_), chkooo_y8, dutiesTold_ok ?_⟩
         all_goals simp only [chkooo_t8, chkooo_d8, F30, F31, F32, F33, rowF, lowF, topF, nameF, drop_z, tl]
         all_goals first | done | (and_intros <;> first | omega | assumption | exact one_to (by assumption) | exact not_to (by assumption) | trivial) | (simp [wrongI, holdB, g0, g1, g2, g3, g4, g5, g6, g7]; done)
        ·refine ⟨tellA chkooo_t7, _, _, _, tellA_ok (allTold'_iff.1 ?_), chkooo_y7, dutiesTold_ok ?_⟩
         all_goals simp only [chkooo_t7, chkooo_d7, F30, F31, F32, F33, rowF, lowF, topF, nameF, drop_z, tl]
         all_goals first | done | (and_intros <;> first | omega | assumption | exact one_to (by assumption) | exact not_to (by assumption) | trivial) | (simp [wrongI, holdB, g0, g1, g2, g3, g4, g5, g6, g7]; done)
       ·refine ⟨tellA chkooo_t6, _, _, _, tellA_ok (allTold'_iff.1 ?_), chkooo_y6, dutiesTold_ok ?_⟩
        all_goals simp only [chkooo_t6, chkooo_d6, F30, F31, F32, F33, rowF, lowF, topF, nameF, drop_z, tl]
        all_goals first | done | (and_intros <;> first | omega | assumption | exact one_to (by assumption) | exact not_to (by assumption) | trivial) | (simp [wrongI, holdB, g0, g1, g2, g3, g4, g5, g6]; done)
      ·refine ⟨tellA chkooo_t5, _, _, _, tellA_ok (allTold'_iff.1 ?_), chkooo_y5, dutiesTold_ok ?_⟩
       all_goals simp only [chkooo_t5, chkooo_d5, F30, F31, F32, F33, rowF, lowF, topF, nameF, drop_z, tl]
       all_goals first | done | (and_intros <;> first | omega | assumption | exact one_to (by assumption) | exact not_to (by assumption) | trivial) | (simp [wrongI, holdB, g0, g1, g2, g3, g4, g5]; done)
     ·refine ⟨tellA chkooo_t4, _, _, _, tellA_ok (allTold'_iff.1 ?_), chkooo_y4, dutiesTold_ok ?_⟩
      all_goals simp only [chkooo_t4, chkooo_d4, F30, F31, F32, F33, rowF, lowF, topF, nameF, drop_z, tl]
      all_goals first | done | (and_intros <;> first | omega | assumption | exact one_to (by assumption) | exact not_to (by assumption) | trivial) | (simp [wrongI, holdB, g0, g1, g2, g3, g4]; done)
    ·refine ⟨tellA chkooo_t3, _, _, _, tellA_ok (allTold'_iff.1 ?_), chkooo_y3, dutiesTold_ok ?_⟩
     all_goals simp only [chkooo_t3, chkooo_d3, F30, F31, F32, F33, rowF, lowF, topF, nameF, drop_z, tl]
     all_goals first | done | (and_intros <;> first | omega | assumption | exact one_to (by assumption) | exact not_to (by assumption) | trivial) | (simp [wrongI, holdB, g0, g1, g2, g3]; done)
   ·refine ⟨tellA chkooo_t2, _, _, _, tellA_ok (allTold'_iff.1 ?_), chkooo_y2, dutiesTold_ok ?_⟩
    all_goals simp only [chkooo_t2, chkooo_d2, F30, F31, F32, F33, rowF, lowF, topF, nameF, drop_z, tl]
    all_goals first | done | (and_intros <;> first | omega | assumption | exact one_to (by assumption) | exact not_to (by assumption) | trivial) | (simp [wrongI, holdB, g0, g1, g2]; done)
  ·refine ⟨tellA chkooo_t1, _, _, _, tellA_ok (allTold'_iff.1 ?_), chkooo_y1, dutiesTold_ok ?_⟩
   all_goals simp only [chkooo_t1, chkooo_d1, F30, F31, F32, F33, rowF, lowF, topF, nameF, drop_z, tl]
   all_goals first | done | (and_intros <;> first | omega | assumption | exact one_to (by assumption) | exact not_to (by assumption) | trivial) | (simp [wrongI, holdB, g0, g1]; done)

def tabB : List LEntry := []
def specsB : List (FuncId × CSpec) := [(60, partsC)]
def oversB : Overs := []
theorem tabB_ok : TableOK Try.prog tabB F := tableNil _ _
theorem specsB_ok : SpecsOK Try.prog specsB F := specsCons partsC_holds (specsNil _ _)
theorem oversB_ok : OversOK Try.prog oversB F := oversNil _ _
end Go.Proofs.Ytmmfjmmldhnpfaa.Na
