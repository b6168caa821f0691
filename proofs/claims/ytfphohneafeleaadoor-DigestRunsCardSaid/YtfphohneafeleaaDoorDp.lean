/-
  Contracts of this seat: what loops and calls leave, for all inputs. No condition.
-/
import Derived.Test.YtfphohneafeleaaDoorSycp
import Derived.Test.YtfphohneafeleaaDoorCo
set_option linter.unusedSimpArgs false
set_option linter.unusedVariables false
namespace Go.Proofs.YtfphohneafeleaaDoor.Dp
open Go.RowKit Go.Ev Go.Proofs.YtfphohneafeleaaDoor.Co


abbrev txDp0 : E := (.bi (.iop .xor .u32) (.int 4294967295) (.var 5))
abbrev txDp1 : E := (.bi .pair (.var 7) (.bi .pair (.var 9) (.int 0)))
abbrev txDp2 : E := (.bi .pair (.var 8) (.bi .pair (.var 9) (.int 0)))
abbrev txDp3 : E := (.bi .pair (.var 1) (.bi .pair (.var 2) (.int 0)))
abbrev txDp4 : E := (.bi .sel (.var 1) (.bi .add (.var 0) (.int (-7))))
abbrev txDp5 : E := (.bi .sel (.var 1) (.bi .add (.var 0) (.int (-2))))
abbrev txDp6 : E := (.bi .sel (.var 1) (.bi .add (.var 0) (.int (-16))))
abbrev txDp7 : E := (.bi .sel (.var 1) (.bi .add (.var 0) (.int (-15))))
abbrev txDp8 : E := (.bi (.iop .mul .u64) (.un (.wrap .u64) (.var 0)) (.int 8))
abbrev txDp9 : E := (.bi (.iop .shl .u32) (.bi .sel (.var 2) (.int 2)) (.int 8))
abbrev txDp10 : E := (.bi (.iop .shl .u32) (.bi .sel (.var 2) (.int 6)) (.int 8))
abbrev txDp11 : E := (.bi (.iop .shl .u32) (.bi .sel (.var 2) (.int 0)) (.int 24))
abbrev txDp12 : E := (.bi (.iop .shl .u32) (.bi .sel (.var 2) (.int 1)) (.int 16))
abbrev txDp13 : E := (.bi (.iop .shl .u32) (.bi .sel (.var 2) (.int 4)) (.int 24))
abbrev txDp14 : E := (.bi (.iop .shl .u32) (.bi .sel (.var 2) (.int 5)) (.int 16))
abbrev txDp15 : E := (.bi (.iop .shl .u32) (.bi .sel (.var 2) (.int 8)) (.int 24))
abbrev txDp16 : E := (.bi (.iop .shl .u32) (.bi .sel (.var 2) (.int 9)) (.int 16))
abbrev txDp17 : E := (.bi (.iop .shl .u32) (.bi .sel (.var 2) (.int 10)) (.int 8))
abbrev txDp18 : E := (.bi (.iop .shl .u32) (.bi .sel (.var 2) (.int 14)) (.int 8))
abbrev txDp19 : E := (.bi (.iop .shl .u32) (.bi .sel (.var 2) (.int 18)) (.int 8))
abbrev txDp20 : E := (.bi (.iop .shl .u32) (.bi .sel (.var 2) (.int 22)) (.int 8))
abbrev txDp21 : E := (.bi (.iop .shl .u32) (.bi .sel (.var 2) (.int 26)) (.int 8))
abbrev txDp22 : E := (.bi (.iop .shl .u32) (.bi .sel (.var 2) (.int 30)) (.int 8))
abbrev txDp23 : E := (.bi (.iop .shl .u32) (.bi .sel (.var 2) (.int 34)) (.int 8))
abbrev txDp24 : E := (.bi (.iop .shl .u32) (.bi .sel (.var 2) (.int 38)) (.int 8))
abbrev txDp25 : E := (.bi (.iop .shl .u32) (.bi .sel (.var 2) (.int 42)) (.int 8))
abbrev txDp26 : E := (.bi (.iop .shl .u32) (.bi .sel (.var 2) (.int 46)) (.int 8))
abbrev txDp27 : E := (.bi (.iop .shl .u32) (.bi .sel (.var 2) (.int 50)) (.int 8))
abbrev txDp28 : E := (.bi (.iop .shl .u32) (.bi .sel (.var 2) (.int 54)) (.int 8))
abbrev txDp29 : E := (.bi (.iop .shl .u32) (.bi .sel (.var 2) (.int 58)) (.int 8))
abbrev txDp30 : E := (.bi (.iop .shl .u32) (.bi .sel (.var 2) (.int 62)) (.int 8))
abbrev txDp31 : E := (.bi (.iop .shl .u32) (.bi .sel (.var 2) (.int 12)) (.int 24))
abbrev txDp32 : E := (.bi (.iop .shl .u32) (.bi .sel (.var 2) (.int 13)) (.int 16))
abbrev txDp33 : E := (.bi (.iop .shl .u32) (.bi .sel (.var 2) (.int 16)) (.int 24))
abbrev txDp34 : E := (.bi (.iop .shl .u32) (.bi .sel (.var 2) (.int 17)) (.int 16))
abbrev txDp35 : E := (.bi (.iop .shl .u32) (.bi .sel (.var 2) (.int 20)) (.int 24))
abbrev txDp36 : E := (.bi (.iop .shl .u32) (.bi .sel (.var 2) (.int 21)) (.int 16))
abbrev txDp37 : E := (.bi (.iop .shl .u32) (.bi .sel (.var 2) (.int 24)) (.int 24))
abbrev txDp38 : E := (.bi (.iop .shl .u32) (.bi .sel (.var 2) (.int 25)) (.int 16))
abbrev txDp39 : E := (.bi (.iop .shl .u32) (.bi .sel (.var 2) (.int 28)) (.int 24))
abbrev txDp40 : E := (.bi (.iop .shl .u32) (.bi .sel (.var 2) (.int 29)) (.int 16))
abbrev txDp41 : E := (.bi (.iop .shl .u32) (.bi .sel (.var 2) (.int 32)) (.int 24))
abbrev txDp42 : E := (.bi (.iop .shl .u32) (.bi .sel (.var 2) (.int 33)) (.int 16))
abbrev txDp43 : E := (.bi (.iop .shl .u32) (.bi .sel (.var 2) (.int 36)) (.int 24))
abbrev txDp44 : E := (.bi (.iop .shl .u32) (.bi .sel (.var 2) (.int 37)) (.int 16))
abbrev txDp45 : E := (.bi (.iop .shl .u32) (.bi .sel (.var 2) (.int 40)) (.int 24))
abbrev txDp46 : E := (.bi (.iop .shl .u32) (.bi .sel (.var 2) (.int 41)) (.int 16))
abbrev txDp47 : E := (.bi (.iop .shl .u32) (.bi .sel (.var 2) (.int 44)) (.int 24))
abbrev txDp48 : E := (.bi (.iop .shl .u32) (.bi .sel (.var 2) (.int 45)) (.int 16))
abbrev txDp49 : E := (.bi (.iop .shl .u32) (.bi .sel (.var 2) (.int 48)) (.int 24))
abbrev txDp50 : E := (.bi (.iop .shl .u32) (.bi .sel (.var 2) (.int 49)) (.int 16))
abbrev txDp51 : E := (.bi (.iop .shl .u32) (.bi .sel (.var 2) (.int 52)) (.int 24))
abbrev txDp52 : E := (.bi (.iop .shl .u32) (.bi .sel (.var 2) (.int 53)) (.int 16))
abbrev txDp53 : E := (.bi (.iop .shl .u32) (.bi .sel (.var 2) (.int 56)) (.int 24))
abbrev txDp54 : E := (.bi (.iop .shl .u32) (.bi .sel (.var 2) (.int 57)) (.int 16))
abbrev txDp55 : E := (.bi (.iop .shl .u32) (.bi .sel (.var 2) (.int 60)) (.int 24))
abbrev txDp56 : E := (.bi (.iop .shl .u32) (.bi .sel (.var 2) (.int 61)) (.int 16))
abbrev txDp57 : E := (.bi .sub (.int 119) (.bi (.iop .rem .i64) (.var 0) (.int 64)))
abbrev txDp58 : E := (.bi .pair (.var 5) (.bi .pair (.var 6) txDp1))
abbrev txDp59 : E := (.bi .pair (.var 6) (.bi .pair (.var 7) txDp2))
abbrev txDp60 : E := (.bi (.iop .or .u32) (.bi (.iop .shl .u32) (.var 5) (.int 26)) (.bi (.iop .shr .u32) (.var 5) (.int 6)))
abbrev txDp61 : E := (.bi (.iop .or .u32) (.bi (.iop .shl .u32) (.var 5) (.int 7)) (.bi (.iop .shr .u32) (.var 5) (.int 25)))
abbrev txDp62 : E := (.bi (.iop .or .u32) (.bi (.iop .shl .u32) (.var 1) (.int 30)) (.bi (.iop .shr .u32) (.var 1) (.int 2)))
abbrev txDp63 : E := (.bi (.iop .xor .u32) (.bi (.iop .and .u32) (.var 1) (.var 2)) (.bi (.iop .and .u32) (.var 1) (.var 3)))
abbrev txDp64 : E := (.bi (.iop .or .u32) (.bi (.iop .shl .u32) (.var 5) (.int 21)) (.bi (.iop .shr .u32) (.var 5) (.int 11)))
abbrev txDp65 : E := (.bi (.iop .or .u32) (.bi (.iop .shl .u32) (.var 1) (.int 19)) (.bi (.iop .shr .u32) (.var 1) (.int 13)))
abbrev txDp66 : E := (.bi (.iop .or .u32) (.bi (.iop .shl .u32) (.var 1) (.int 10)) (.bi (.iop .shr .u32) (.var 1) (.int 22)))
abbrev txDp67 : E := (.bi .add (.bi (.iop .rem .i64) txDp57 (.int 64)) (.int 1))
abbrev txDp68 : E := (.bi .add (.bi (.iop .rem .i64) txDp57 (.int 64)) (.int 9))
abbrev txDp69 : E := (.bi .pair (.var 4) (.bi .pair (.var 5) txDp59))
abbrev txDp70 : E := (.bi (.iop .xor .u32) (.bi (.iop .and .u32) (.var 5) (.var 6)) (.bi (.iop .and .u32) txDp0 (.var 7)))
abbrev txDp71 : E := (.bi (.iop .xor .u32) txDp63 (.bi (.iop .and .u32) (.var 2) (.var 3)))
abbrev txDp72 : E := (.bi .pair (.var 2) (.bi .pair (.var 3) txDp69))
abbrev txDp73 : E := (.bi (.iop .or .u32) (.bi (.iop .shl .u32) txDp5 (.int 15)) (.bi (.iop .shr .u32) txDp5 (.int 17)))
abbrev txDp74 : E := (.bi (.iop .or .u32) (.bi (.iop .shl .u32) txDp5 (.int 13)) (.bi (.iop .shr .u32) txDp5 (.int 19)))
abbrev txDp75 : E := (.bi (.iop .or .u32) (.bi (.iop .shl .u32) txDp7 (.int 25)) (.bi (.iop .shr .u32) txDp7 (.int 7)))
abbrev txDp76 : E := (.bi (.iop .or .u32) (.bi (.iop .shl .u32) txDp7 (.int 14)) (.bi (.iop .shr .u32) txDp7 (.int 18)))
abbrev txDp77 : E := (.bi .pair (.var 0) (.bi .pair (.var 1) txDp72))
abbrev txDp78 : E := (.bi (.iop .or .u32) (.bi (.iop .or .u32) txDp11 txDp12) txDp9)
abbrev txDp79 : E := (.bi (.iop .or .u32) (.bi (.iop .or .u32) txDp13 txDp14) txDp10)
abbrev txDp80 : E := (.bi (.iop .or .u32) (.bi (.iop .or .u32) txDp15 txDp16) txDp17)
abbrev txDp81 : E := (.bi (.iop .or .u32) (.bi (.iop .or .u32) txDp31 txDp32) txDp18)
abbrev txDp82 : E := (.bi (.iop .or .u32) (.bi (.iop .or .u32) txDp33 txDp34) txDp19)
abbrev txDp83 : E := (.bi (.iop .or .u32) (.bi (.iop .or .u32) txDp35 txDp36) txDp20)
abbrev txDp84 : E := (.bi (.iop .or .u32) (.bi (.iop .or .u32) txDp37 txDp38) txDp21)
abbrev txDp85 : E := (.bi (.iop .or .u32) (.bi (.iop .or .u32) txDp39 txDp40) txDp22)
abbrev txDp86 : E := (.bi (.iop .or .u32) (.bi (.iop .or .u32) txDp41 txDp42) txDp23)
abbrev txDp87 : E := (.bi (.iop .or .u32) (.bi (.iop .or .u32) txDp43 txDp44) txDp24)
abbrev txDp88 : E := (.bi (.iop .or .u32) (.bi (.iop .or .u32) txDp45 txDp46) txDp25)
abbrev txDp89 : E := (.bi (.iop .or .u32) (.bi (.iop .or .u32) txDp47 txDp48) txDp26)
abbrev txDp90 : E := (.bi (.iop .or .u32) (.bi (.iop .or .u32) txDp49 txDp50) txDp27)
abbrev txDp91 : E := (.bi (.iop .or .u32) (.bi (.iop .or .u32) txDp51 txDp52) txDp28)
abbrev txDp92 : E := (.bi (.iop .or .u32) (.bi (.iop .or .u32) txDp53 txDp54) txDp29)
abbrev txDp93 : E := (.bi (.iop .or .u32) (.bi (.iop .or .u32) txDp55 txDp56) txDp30)
abbrev txDp94 : E := (.bi (.iop .or .u32) txDp78 (.bi .sel (.var 2) (.int 3)))
abbrev txDp95 : E := (.bi (.iop .or .u32) txDp79 (.bi .sel (.var 2) (.int 7)))
abbrev txDp96 : E := (.bi (.iop .or .u32) txDp80 (.bi .sel (.var 2) (.int 11)))
abbrev txDp97 : E := (.bi (.iop .or .u32) txDp81 (.bi .sel (.var 2) (.int 15)))
abbrev txDp98 : E := (.bi (.iop .or .u32) txDp82 (.bi .sel (.var 2) (.int 19)))
abbrev txDp99 : E := (.bi (.iop .or .u32) txDp83 (.bi .sel (.var 2) (.int 23)))
abbrev txDp100 : E := (.bi (.iop .or .u32) txDp84 (.bi .sel (.var 2) (.int 27)))
abbrev txDp101 : E := (.bi (.iop .or .u32) txDp85 (.bi .sel (.var 2) (.int 31)))
abbrev txDp102 : E := (.bi (.iop .or .u32) txDp86 (.bi .sel (.var 2) (.int 35)))
abbrev txDp103 : E := (.bi (.iop .or .u32) txDp87 (.bi .sel (.var 2) (.int 39)))
abbrev txDp104 : E := (.bi (.iop .or .u32) txDp88 (.bi .sel (.var 2) (.int 43)))
abbrev txDp105 : E := (.bi (.iop .or .u32) txDp89 (.bi .sel (.var 2) (.int 47)))
abbrev txDp106 : E := (.bi (.iop .or .u32) txDp90 (.bi .sel (.var 2) (.int 51)))
abbrev txDp107 : E := (.bi (.iop .or .u32) txDp91 (.bi .sel (.var 2) (.int 55)))
abbrev txDp108 : E := (.bi (.iop .or .u32) txDp92 (.bi .sel (.var 2) (.int 59)))
abbrev txDp109 : E := (.bi (.iop .or .u32) txDp93 (.bi .sel (.var 2) (.int 63)))
abbrev txDp110 : E := (.bi (.iop .xor .u32) (.bi (.iop .xor .u32) txDp60 txDp64) txDp61)
abbrev txDp111 : E := (.bi (.iop .xor .u32) (.bi (.iop .xor .u32) txDp62 txDp65) txDp66)
abbrev txDp112 : E := (.bi .app (.un .one txDp109) (.lits [0, 0, 0, 0, 0, 0, 0, 0, 0, 0, 0, 0, 0, 0, 0, 0, 0, 0, 0, 0, 0, 0, 0, 0, 0, 0, 0, 0, 0, 0, 0, 0, 0, 0, 0, 0, 0, 0, 0, 0, 0, 0, 0, 0, 0, 0, 0, 0]))
abbrev txDp113 : E := (.bi (.iop .xor .u32) (.bi (.iop .xor .u32) txDp73 txDp74) (.bi (.iop .shr .u32) txDp5 (.int 10)))
abbrev txDp114 : E := (.bi (.iop .xor .u32) (.bi (.iop .xor .u32) txDp75 txDp76) (.bi (.iop .shr .u32) txDp7 (.int 3)))
abbrev txDp115 : E := (.bi (.iop .add .u32) (.bi (.iop .add .u32) (.var 8) txDp110) txDp70)
abbrev txDp116 : E := (.bi (.iop .add .u32) (.bi (.iop .add .u32) txDp6 txDp114) txDp4)
abbrev txDp117 : E := (.bi .sel (.lits [1116352408, 1899447441, 3049323471, 3921009573, 961987163, 1508970993, 2453635748, 2870763221, 3624381080, 310598401, 607225278, 1426881987, 1925078388, 2162078206, 2614888103, 3248222580, 3835390401, 4022224774, 264347078, 604807628, 770255983, 1249150122, 1555081692, 1996064986, 2554220882, 2821834349, 2952996808, 3210313671, 3336571891, 3584528711, 113926993, 338241895, 666307205, 773529912, 1294757372, 1396182291, 1695183700, 1986661051, 2177026350, 2456956037, 2730485921, 2820302411, 3259730800, 3345764771, 3516065817, 3600352804, 4094571909, 275423344, 430227734, 506948616, 659060556, 883997877, 958139571, 1322822218, 1537002063, 1747873779, 1955562222, 2024104815, 2227730452, 2361852424, 2428436474, 2756734187, 3204031479, 3329325298]) (.var 0))
abbrev txDp118 : E := (.bi .app (.un .one txDp107) (.bi .app (.un .one txDp108) txDp112))
abbrev txDp119 : E := (.tr .upd (.var 1) (.var 0) (.bi (.iop .add .u32) txDp116 txDp113))
abbrev txDp120 : E := (.bi (.iop .add .u32) (.bi (.iop .add .u32) txDp115 txDp117) (.bi .sel (.var 9) (.var 0)))
abbrev txDp121 : E := (.bi .pair (.bi (.iop .add .u32) (.var 4) txDp120) txDp58)
abbrev txDp122 : E := (.bi .pair (.var 2) (.bi .pair (.var 3) txDp121))
abbrev txDp123 : E := (.bi .app (.un .one txDp105) (.bi .app (.un .one txDp106) txDp118))
abbrev txDp124 : E := (.bi (.iop .add .u32) txDp120 (.bi (.iop .add .u32) txDp111 txDp71))
abbrev txDp125 : E := (.bi .app (.un .one txDp103) (.bi .app (.un .one txDp104) txDp123))
abbrev txDp126 : E := (.bi .app (.un .one txDp101) (.bi .app (.un .one txDp102) txDp125))
abbrev txDp127 : E := (.bi .app (.un .one txDp99) (.bi .app (.un .one txDp100) txDp126))
abbrev txDp128 : E := (.bi .pair txDp124 (.bi .pair (.var 1) txDp122))
abbrev txDp129 : E := (.bi .pair (.bi .add (.var 0) (.int 1)) txDp128)
abbrev txDp130 : E := (.bi .app (.un .one txDp97) (.bi .app (.un .one txDp98) txDp127))
abbrev txDp131 : E := (.bi .app (.un .one txDp95) (.bi .app (.un .one txDp96) txDp130))
abbrev txDp132 : E := (.bi .pair (.bi .app (.un .one txDp94) txDp131) (.int 0))
abbrev txDp133 : E := (.tr .seg (.fn 1 (.bi .pair (.int 16) txDp132)) (.int 0) (.int 64))
abbrev txDp134 : E := (.bi .pair (.bi .sel (.var 1) (.int 7)) (.bi .pair txDp133 (.int 0)))
abbrev txDp135 : E := (.bi .pair (.bi .sel (.var 1) (.int 6)) txDp134)
abbrev txDp136 : E := (.bi .pair (.bi .sel (.var 1) (.int 5)) txDp135)
abbrev txDp137 : E := (.bi .pair (.bi .sel (.var 1) (.int 4)) txDp136)
abbrev txDp138 : E := (.bi .pair (.bi .sel (.var 1) (.int 3)) txDp137)
abbrev txDp139 : E := (.bi .pair (.bi .sel (.var 1) (.int 2)) txDp138)
abbrev txDp140 : E := (.bi .pair (.bi .sel (.var 1) (.int 1)) txDp139)
abbrev txDp141 : E := (.bi .pair (.bi .sel (.var 1) (.int 0)) txDp140)
abbrev vu32Dp (a : E) (j : Int) : AV := .sint .u32 (.bi .sel a (.int j))
abbrev vu8Dp (a : E) (j : Int) : AV := .sint .u8 (.bi .sel a (.int j))
def addedL : List Int := [1116352408, 1899447441, 3049323471, 3921009573, 961987163, 1508970993, 2453635748, 2870763221, 3624381080, 310598401, 607225278, 1426881987, 1925078388, 2162078206, 2614888103, 3248222580, 3835390401, 4022224774, 264347078, 604807628, 770255983, 1249150122, 1555081692, 1996064986, 2554220882, 2821834349, 2952996808, 3210313671, 3336571891, 3584528711, 113926993, 338241895, 666307205, 773529912, 1294757372, 1396182291, 1695183700, 1986661051, 2177026350, 2456956037, 2730485921, 2820302411, 3259730800, 3345764771, 3516065817, 3600352804, 4094571909, 275423344, 430227734, 506948616, 659060556, 883997877, 958139571, 1322822218, 1537002063, 1747873779, 1955562222, 2024104815, 2227730452, 2361852424, 2428436474, 2756734187, 3204031479, 3329325298]
def cellsG : List AV := addedL.map (.int .u32)
def rotI (n m x : Int) : Int := iopI .or .u32 (iopI .shl .u32 x m) (iopI .shr .u32 x n)
def xorI (x y : Int) : Int := iopI .xor .u32 x y
def addI (x y : Int) : Int := iopI .add .u32 x y
def andI (x y : Int) : Int := iopI .and .u32 x y
def getI (l : List Int) (i : Int) : Int := (l[i.toNat]?).getD 0
/-- A word that is made of those before it. -/
def spW (w : List Int) (i : Int) : Int :=
  addI (addI (addI (getI w (i + -16)) (xorI (xorI (rotI 7 25 (getI w (i + -15))) (rotI 18 14 (getI w (i + -15)))) (iopI .shr .u32 (getI w (i + -15)) 3))) (getI w (i + -7)))
    (xorI (xorI (rotI 17 15 (getI w (i + -2))) (rotI 19 13 (getI w (i + -2)))) (iopI .shr .u32 (getI w (i + -2)) 10))
def spr : Nat → Int → List Int → List Int
  | 0, _, w => w
  | r + 1, i, w => spr r (i + 1) (w.set i.toNat (spW w i))
structure S8 where
  a : Int
  b : Int
  c : Int
  d : Int
  e : Int
  f : Int
  g : Int
  h : Int
def S8.at (s : S8) (j : Int) : Int := match j with
  | 0 => s.a
  | 1 => s.b
  | 2 => s.c
  | 3 => s.d
  | 4 => s.e
  | 5 => s.f
  | 6 => s.g
  | _ => s.h
def tI (s : S8) (k w : Int) : Int := addI (addI (addI (addI s.h (xorI (xorI (rotI 6 26 s.e) (rotI 11 21 s.e)) (rotI 25 7 s.e))) (xorI (andI s.e s.f) (andI (xorI 4294967295 s.e) s.g))) k) w
def uI (s : S8) : Int := addI (xorI (xorI (rotI 2 30 s.a) (rotI 13 19 s.a)) (rotI 22 10 s.a)) (xorI (xorI (andI s.a s.b) (andI s.a s.c)) (andI s.b s.c))
def mixS (w : List Int) (i : Int) (s : S8) : S8 := ⟨addI (tI s (getI addedL i) (getI w i)) (uI s), s.a, s.b, s.c, addI s.d (tI s (getI addedL i) (getI w i)), s.e, s.f, s.g⟩
def mixN (w : List Int) : Nat → Int → S8 → S8
  | 0, _, s => s
  | r + 1, i, s => mixN w r (i + 1) (mixS w i s)
def orI (x y : Int) : Int := iopI .or .u32 x y
def wordI (b : List Int) (j : Int) : Int := orI (orI (orI (iopI .shl .u32 (getI b j) 24) (iopI .shl .u32 (getI b (j + 1)) 16)) (iopI .shl .u32 (getI b (j + 2)) 8)) (getI b (j + 3))
def wordsI (b : List Int) : List Int := [wordI b 0, wordI b 4, wordI b 8, wordI b 12, wordI b 16, wordI b 20, wordI b 24, wordI b 28, wordI b 32, wordI b 36, wordI b 40, wordI b 44, wordI b 48, wordI b 52, wordI b 56, wordI b 60] ++ List.replicate 48 0
def mixedI (s : S8) (b : List Int) : S8 :=
  let m := mixN (spr 48 16 (wordsI b)) 64 0 s
  ⟨addI s.a m.a, addI s.b m.b, addI s.c m.c, addI s.d m.d, addI s.e m.e, addI s.f m.f, addI s.g m.g, addI s.h m.h⟩
def s8L (l : List Int) : S8 := ⟨getI l 0, getI l 1, getI l 2, getI l 3, getI l 4, getI l 5, getI l 6, getI l 7⟩
def S8.list (s : S8) : List Int := [s.a, s.b, s.c, s.d, s.e, s.f, s.g, s.h]
def s8D (a : D) (k : Nat) : S8 := ⟨(argD a k).toInt, (argD a (k + 1)).toInt, (argD a (k + 2)).toInt, (argD a (k + 3)).toInt, (argD a (k + 4)).toInt, (argD a (k + 5)).toInt, (argD a (k + 6)).toInt, (argD a (k + 7)).toInt⟩
def mix3 (s b : List Int) : List Int := (mixedI (s8L s) b).list
/-- What is kept of bytes that were taken. -/
structure TK where
  s : List Int
  b : List Int
  z : Int
def tkRoom (k : TK) (r : List Int) : Nat := min (64 - (k.z % 64).toNat) r.length
def tkBlock (k : TK) (r : List Int) : List Int := k.b.take (k.z % 64).toNat ++ r.take (tkRoom k r) ++ k.b.drop ((k.z % 64).toNat + tkRoom k r)
def tkStep (k : TK) (r : List Int) : TK := ⟨if (k.z + (tkRoom k r : Nat)) % 64 = 0 then mix3 k.s (tkBlock k r) else k.s, tkBlock k r, k.z + (tkRoom k r : Nat)⟩
def takeN : Nat → TK → List Int → TK
  | 0, k, _ => k
  | f + 1, k, r => if r.length = 0 then k else takeN f (tkStep k r) (r.drop (tkRoom k r))
def takeI (k : TK) (r : List Int) : TK := takeN r.length k r
def tkD (a : D) (i : Nat) : TK := ⟨(argD a i).ints, (argD a (i + 1)).ints, (argD a (i + 2)).toInt⟩
def tkR (a : D) (i : Nat) : List Int := prt (argD a i).ints (argD a (i + 1)).toInt ((argD a (i + 1)).toInt + (argD a (i + 2)).toInt)
def markI (i : Int) : Int := 160 + i % 90
def lentI (l : List Int) : List Int := l ++ [markI l.length, markI (l.length + 1), markI (l.length + 2)]
def byteI (n : Int) (k : Int) : Int := IntKind.u8.wrap (iopI .shr .u64 n k)
def fillI (z : Int) : List Int := [128] ++ List.replicate ((119 - z % 64) % 64).toNat 0 ++ [56, 48, 40, 32, 24, 16, 8, 0].map (byteI (z * 8))
def outI (s : List Int) : List Int := (List.range 32).map fun i => IntKind.u8.wrap (iopI .shr .u32 (getI s (i / 4 : Nat)) (8 * (3 - (i % 4 : Nat)) : Int))
def sumI (k : TK) : List Int := outI (takeI k (fillI k.z)).s
def firstL : List Int := [0x6a09e667, 0xbb67ae85, 0x3c6ef372, 0xa54ff53a, 0x510e527f, 0x9b05688c, 0x1f83d9ab, 0x5be0cd19]
def zeroK : TK := ⟨firstL, List.replicate 64 0, 0⟩
def blkN : Nat → List Int → List Int → List Int
  | 0, s, _ => s
  | f + 1, s, r => if r.length = 0 then s else blkN f (mix3 s (r.take 64)) (r.drop 64)
def blkI (s r : List Int) : List Int := blkN r.length s r
def absI (c : Int) : Int := if iopI .rem .i64 c 130 < 0 then -(iopI .rem .i64 c 130) else iopI .rem .i64 c 130
def cutN (L : Int) : List Int → Int → Int
  | [], p => p
  | c :: l, p => cutN L l (if p + absI c ≤ L then p + absI c else L)
/-- The lengths of lists, all together; lists, one behind the other. -/
def lensI : List D → Int
  | [] => 0
  | x :: l => (x.toList.length : Int) + lensI l
def catI : List D → List Int
  | [] => []
  | x :: l => x.ints ++ catI l
/-- 4, 5, 6: what is kept behind bytes that were taken. 7: what fills up. 8: words as bytes. 9: the sum. 10: the sum of bytes.
1: words made from i on. 2: a word of the state mixed from i on. 3: the state behind a block. -/
def F : Nat → D → D
  | 1 => fun a => D.ofInts (spr (64 - (argD a 0).toInt).toNat (argD a 0).toInt (argD a 1).ints)
  | 2 => fun a => .int ((mixN (argD a 10).ints (64 - (argD a 1).toInt).toNat (argD a 1).toInt (s8D a 2)).at (argD a 0).toInt)
  | 3 => fun a => D.ofInts (mixedI (s8L (argD a 0).ints) (argD a 1).ints).list
  | 4 => fun a => D.ofInts (takeI (tkD a 0) (tkR a 3)).s
  | 5 => fun a => D.ofInts (takeI (tkD a 0) (tkR a 3)).b
  | 6 => fun a => D.ofInts (lentI (prt (argD a 0).ints (argD a 1).toInt (argD a 2).toInt))
  | 7 => fun a => D.ofInts (fillI (argD a 0).toInt)
  | 8 => fun a => D.ofInts (outI (argD a 0).ints)
  | 9 => fun a => D.ofInts (sumI (tkD a 0))
  | 10 => fun a => D.ofInts (sumI (takeI zeroK (tkR a 0)))
  | 17 => fun a => .int ((119 - (argD a 0).toInt % 64) % 64 + 9)
  | 11 => fun _ => D.ofInts firstL
  | 12 => fun _ => D.ofInts (List.replicate 64 0)
  | 13 => fun a => .int (cutN (argD a 4).toInt (prt (argD a 2).ints (argD a 0).toInt (argD a 3).toInt) (argD a 1).toInt)
  | 14 => fun a => D.ofInts (spr 48 16 (wordsI (prt (argD a 0).ints (argD a 1).toInt ((argD a 1).toInt + 64))))
  | 15 => fun a => D.ofInts (mix3 (argD a 0).ints (prt (argD a 1).ints (argD a 2).toInt ((argD a 2).toInt + 64)))
  | 16 => fun a => D.ofInts ((argD a 1).ints ++ List.replicate ((56 - (argD a 0).toInt) % 64).toNat 0)
  | 18 => fun a => .int ((56 - (argD a 0).toInt) % 64)
  | 19 => fun a => D.ofInts (prt (argD a 0).ints (argD a 1).toInt ((argD a 1).toInt + (argD a 2).toInt) ++ fillI (argD a 2).toInt)
  | 20 => fun a => D.ofInts (blkI (argD a 0).ints (prt (argD a 1).ints (argD a 2).toInt (argD a 3).toInt))
  | 30 => fun a => .int (lensI (((argD a 0).toList.take 21).drop (argD a 1).toInt.toNat))
  | 31 => fun a => D.ofInts (catI ((argD a 0).toList.take (argD a 1).toInt.toNat))
  | _ => fun x => x

theorem F1 (i w : D) : F 1 (.list [i, .list [w, .int 0]]) = D.ofInts (spr (64 - i.toInt).toNat i.toInt w.ints) := rfl
theorem F2 (j i a b c d e f g h w : D) : F 2 (.list [j, (.list [i, (.list [a, (.list [b, (.list [c, (.list [d, (.list [e, (.list [f, (.list [g, (.list [h, (.list [w, (.int 0)])])])])])])])])])])]) = .int ((mixN w.ints (64 - i.toInt).toNat i.toInt ⟨a.toInt, b.toInt, c.toInt, d.toInt, e.toInt, f.toInt, g.toInt, h.toInt⟩).at j.toInt) := rfl
theorem F3 (s w : D) : F 3 (.list [s, .list [w, .int 0]]) = D.ofInts (mixedI (s8L s.ints) w.ints).list := rfl
theorem spr_len : ∀ (r : Nat) (i : Int) (w : List Int), (spr r i w).length = w.length
  | 0, _, _ => rfl
  | r + 1, i, w => by simp only [spr]; rw [spr_len r]; simp
theorem spr_step (i : Int) (w : List Int) (h : i < 64) : spr (64 - i).toNat i w = spr (64 - (i + 1)).toNat (i + 1) (w.set i.toNat (spW w i)) := by
  rw [show (64 - i).toNat = (64 - (i + 1)).toNat + 1 by omega]; rfl
theorem mixN_step (i : Int) (w : List Int) (s : S8) (h : i < 64) : mixN w (64 - i).toNat i s = mixN w (64 - (i + 1)).toNat (i + 1) (mixS w i s) := by
  rw [show (64 - i).toNat = (64 - (i + 1)).toNat + 1 by omega]; rfl

theorem F4 (s b z x o l : D) : F 4 (.list [s, (.list [b, (.list [z, (.list [x, (.list [o, (.list [l, (.int 0)])])])])])]) = D.ofInts (takeI ⟨s.ints, b.ints, z.toInt⟩ (prt x.ints o.toInt (o.toInt + l.toInt))).s := rfl
theorem F5 (s b z x o l : D) : F 5 (.list [s, (.list [b, (.list [z, (.list [x, (.list [o, (.list [l, (.int 0)])])])])])]) = D.ofInts (takeI ⟨s.ints, b.ints, z.toInt⟩ (prt x.ints o.toInt (o.toInt + l.toInt))).b := rfl
theorem F6 (x o t : D) : F 6 (.list [x, .list [o, .list [t, .int 0]]]) = D.ofInts (lentI (prt x.ints o.toInt t.toInt)) := rfl
theorem F7 (z : D) : F 7 (.list [z, .int 0]) = D.ofInts (fillI z.toInt) := rfl
theorem F8 (s : D) : F 8 (.list [s, .int 0]) = D.ofInts (outI s.ints) := rfl
theorem F9 (s b z : D) : F 9 (.list [s, (.list [b, (.list [z, (.int 0)])])]) = D.ofInts (sumI ⟨s.ints, b.ints, z.toInt⟩) := rfl
theorem F10 (x o l : D) : F 10 (.list [x, (.list [o, (.list [l, (.int 0)])])]) = D.ofInts (sumI (takeI zeroK (prt x.ints o.toInt (o.toInt + l.toInt)))) := rfl
theorem F11 (x : D) : F 11 x = D.ofInts firstL := rfl
theorem F12 (x : D) : F 12 x = D.ofInts (List.replicate 64 0) := rfl
theorem F13 (i p c l b : D) : F 13 (.list [i, (.list [p, (.list [c, (.list [l, (.list [b, (.int 0)])])])])]) = .int (cutN b.toInt (prt c.ints i.toInt l.toInt) p.toInt) := rfl
theorem F14 (x o : D) : F 14 (.list [x, (.list [o, (.int 0)])]) = D.ofInts (spr 48 16 (wordsI (prt x.ints o.toInt (o.toInt + 64)))) := rfl
theorem F15 (s x o : D) : F 15 (.list [s, (.list [x, (.list [o, (.int 0)])])]) = D.ofInts (mix3 s.ints (prt x.ints o.toInt (o.toInt + 64))) := rfl
theorem F16 (l x : D) : F 16 (.list [l, (.list [x, (.int 0)])]) = D.ofInts (x.ints ++ List.replicate ((56 - l.toInt) % 64).toNat 0) := rfl
theorem F18 (l : D) : F 18 (.list [l, .int 0]) = .int ((56 - l.toInt) % 64) := rfl
theorem F19 (x o l : D) : F 19 (.list [x, (.list [o, (.list [l, (.int 0)])])]) = D.ofInts (prt x.ints o.toInt (o.toInt + l.toInt) ++ fillI l.toInt) := rfl
theorem F20 (s x o l : D) : F 20 (.list [s, (.list [x, (.list [o, (.list [l, (.int 0)])])])]) = D.ofInts (blkI s.ints (prt x.ints o.toInt l.toInt)) := rfl
theorem F30 (x i : D) : F 30 (.list [x, .list [i, .int 0]]) = .int (lensI ((x.toList.take 21).drop i.toInt.toNat)) := rfl
theorem F31 (x i : D) : F 31 (.list [x, .list [i, .int 0]]) = D.ofInts (catI (x.toList.take i.toInt.toNat)) := rfl
theorem F17 (z : D) : F 17 (.list [z, .int 0]) = .int ((119 - z.toInt % 64) % 64 + 9) := rfl
theorem fill_len (z : Int) : ((fillI z).length : Int) = (119 - z % 64) % 64 + 9 := by
  have := emod_in (x := 119 - z % 64) (n := 64) (by omega)
  unfold fillI
  simp
  omega
theorem room_pos {k : TK} {r : List Int} (h : r.length ≠ 0) : 1 ≤ tkRoom k r := by
  unfold tkRoom
  have := Int.emod_lt_of_pos k.z (show (0 : Int) < 64 by omega)
  have := Int.emod_nonneg k.z (show (64 : Int) ≠ 0 by omega)
  omega
theorem room_le (k : TK) (r : List Int) : tkRoom k r ≤ r.length := Nat.min_le_right _ _
theorem takeN_le : ∀ (f g : Nat) (k : TK) (r : List Int), r.length ≤ f → r.length ≤ g → takeN f k r = takeN g k r
  | 0, 0, _, _, _, _ => rfl
  | 0, g + 1, k, r, h, _ => by simp only [takeN]; rw [if_pos (by omega)]
  | f + 1, 0, k, r, _, h => by simp only [takeN]; rw [if_pos (by omega)]
  | f + 1, g + 1, k, r, h1, h2 => by
    simp only [takeN]
    by_cases h : r.length = 0
    · rw [if_pos h, if_pos h]
    · rw [if_neg h, if_neg h]
      have := room_pos (k := k) h
      exact takeN_le f g _ _ (by simp; omega) (by simp; omega)
theorem take_step {k : TK} {r : List Int} (h : r.length ≠ 0) : takeI k r = takeI (tkStep k r) (r.drop (tkRoom k r)) := by
  unfold takeI
  have := room_pos (k := k) h
  rw [takeN_le r.length (r.length + 1) k r (Nat.le_refl _) (by omega)]
  simp only [takeN]
  rw [if_neg h]
  exact takeN_le _ _ _ _ (by simp) (Nat.le_refl _)
theorem take_nil {k : TK} {r : List Int} (h : r.length = 0) : takeI k r = k := by
  unfold takeI
  rw [h]; rfl
theorem prt_drop {x : List Int} {o l : Int} {n : Nat} (h0 : 0 ≤ o) (h : (n : Int) ≤ l) : (prt x o (o + l)).drop n = prt x (o + n) (o + n + (l - n)) := by
  unfold prt
  rw [List.drop_drop]
  rw [show o + (n : Int) + (l - n) = o + l by omega, show (o + (n : Int)).toNat = o.toNat + n by omega]
theorem take_one {S B X : List Int} {z o l n : Int} {b' : List Int} (h0 : 0 ≤ o) (hl : ((prt X o (o + l)).length : Int) = l) (hp : 0 < l) (hn : n = if l ≤ 64 - z % 64 then l else 64 - z % 64)
    (hb : b' = B.take (z % 64).toNat ++ (prt X o (o + l)).take n.toNat ++ B.drop ((z % 64).toNat + n.toNat)) :
    takeI ⟨S, B, z⟩ (prt X o (o + l)) = takeI ⟨if (z + n) % 64 = 0 then mix3 S b' else S, b', z + n⟩ (prt X (o + n) (o + n + (l - n))) := by
  have hm := emod_in (x := z) (n := 64) (by omega)
  have hnn : 0 ≤ n ∧ n ≤ l := by rw [hn]; split <;> omega
  have hr : tkRoom ⟨S, B, z⟩ (prt X o (o + l)) = n.toNat := by
    unfold tkRoom
    simp only
    rw [hn]
    split <;> omega
  have hB : tkBlock ⟨S, B, z⟩ (prt X o (o + l)) = b' := by
    unfold tkBlock
    rw [hr, hb]
  rw [take_step (by omega)]
  unfold tkStep
  have e2 := prt_drop (x := X) (o := o) (l := l) (n := n.toNat) h0 (by omega)
  rw [show ((n.toNat : Nat) : Int) = n by omega] at e2
  rw [hB, hr, e2, show ((n.toNat : Nat) : Int) = n by omega]
theorem splice_prt {x y : D} {a n : Nat} {o t : Int} (hn : (prt y.ints o t).length = n) :
    D.ints (.list (x.toList.take a ++ (y.toList.take t.toNat).drop o.toNat ++ x.toList.drop (a + ((y.toList.take t.toNat).drop o.toNat).length))) = x.ints.take a ++ prt y.ints o t ++ x.ints.drop (a + n) := by
  have := ints_splice x (.list ((y.toList.take t.toNat).drop o.toNat)) a
  rw [ints_cut] at this
  rw [← hn]
  exact this
theorem splice_prt2 {x y : D} {a m n : Nat} {o t : Int} (hn : ((prt y.ints o t).take m).length = n) :
    D.ints (.list (x.toList.take a ++ (((y.toList.take t.toNat).drop o.toNat).take m).drop 0 ++ x.toList.drop (a + ((((y.toList.take t.toNat).drop o.toNat).take m).drop 0).length))) = x.ints.take a ++ (prt y.ints o t).take m ++ x.ints.drop (a + n) := by
  have := ints_splice x (.list ((((y.toList.take t.toNat).drop o.toNat).take m).drop 0)) a
  have e3 : D.ints (.list ((((y.toList.take t.toNat).drop o.toNat).take m).drop 0)) = (prt y.ints o t).take m := by
    simp only [ints_list, List.map_drop, List.map_take, map_ints, List.drop_zero]; rfl
  rw [e3] at this
  rw [← hn]
  exact this
theorem fill_front (m : Nat) : ((List.replicate (m + 9) (D.int 0)).set 0 (D.int 128)).take (m + 1) = D.int 128 :: List.replicate m (D.int 0) := by
  rw [show m + 9 = (m + 8) + 1 from rfl, List.replicate_succ]
  simp [List.take_replicate]
theorem take_blen : ∀ (f : Nat) (k : TK) (r : List Int), k.b.length = 64 → (takeN f k r).b.length = 64
  | 0, k, r, h => h
  | f + 1, k, r, h => by
    simp only [takeN]
    split
    · exact h
    · refine take_blen f _ _ ?_
      have := Int.emod_lt_of_pos k.z (show (0 : Int) < 64 by omega)
      have := Int.emod_nonneg k.z (show (64 : Int) ≠ 0 by omega)
      have := room_le k r
      have hr : tkRoom k r ≤ 64 - (k.z % 64).toNat := Nat.min_le_left _ _
      simp only [tkStep, tkBlock, List.length_append, List.length_take, List.length_drop]
      omega
theorem take_b {k : TK} {r : List Int} (h : k.b.length = 64) : (takeI k r).b.length = 64 := take_blen _ _ _ h
theorem take_zN : ∀ (f : Nat) (k : TK) (r : List Int), r.length ≤ f → (takeN f k r).z = k.z + r.length
  | 0, k, r, h => by
    have : r.length = 0 := by omega
    simp [takeN, this]
  | f + 1, k, r, h => by
    simp only [takeN]
    split
    · rename_i h0; simp [h0]
    · rename_i h0
      have h1 := room_pos (k := k) h0
      have h2 := room_le k r
      rw [take_zN f _ _ (by simp; omega)]
      simp only [tkStep, List.length_drop]
      omega
theorem take_z (k : TK) (r : List Int) : (takeI k r).z = k.z + r.length := take_zN _ _ _ (Nat.le_refl _)
theorem take_app : ∀ (n : Nat) (k : TK) (r q : List Int), r.length ≤ n → k.b.length = 64 → takeI k (r ++ q) = takeI (takeI k r) q
  | 0, k, r, q, hn, hb => by
    have : r = [] := List.eq_nil_of_length_eq_zero (by omega)
    subst this
    rfl
  | n + 1, k, r, q, hn, hb => by
    have ha := Int.emod_lt_of_pos k.z (show (0 : Int) < 64 by omega)
    have ha' := Int.emod_nonneg k.z (show (64 : Int) ≠ 0 by omega)
    by_cases h0 : r.length = 0
    · have : r = [] := List.eq_nil_of_length_eq_zero h0
      subst this
      rfl
    · have h1 := room_pos (k := k) h0
      by_cases hA : 64 - (k.z % 64).toNat ≤ r.length
      · have e1 : tkRoom k (r ++ q) = tkRoom k r := by
          simp only [tkRoom, List.length_append]; omega
        have hle := room_le k r
        have e2 : tkBlock k (r ++ q) = tkBlock k r := by
          simp only [tkBlock, e1]
          rw [List.take_append_of_le_length hle]
        have e3 : tkStep k (r ++ q) = tkStep k r := by simp only [tkStep, e1, e2]
        rw [take_step (k := k) (r := r ++ q) (by rw [List.length_append]; omega), take_step (k := k) (r := r) h0, e3, e1, List.drop_append_of_le_length hle]
        refine take_app n _ _ _ (by simp; omega) ?_
        simp only [tkStep, tkBlock, List.length_append, List.length_take, List.length_drop]
        have hr : tkRoom k r ≤ 64 - (k.z % 64).toNat := Nat.min_le_left _ _
        omega
      · by_cases hq : q.length = 0
        · have : q = [] := List.eq_nil_of_length_eq_zero hq
          subst this
          rw [List.append_nil, take_nil (r := []) rfl]
        · have e1 : tkRoom k r = r.length := by simp only [tkRoom]; omega
          have e2 : takeI k r = ⟨k.s, k.b.take (k.z % 64).toNat ++ r ++ k.b.drop ((k.z % 64).toNat + r.length), k.z + r.length⟩ := by
            rw [take_step h0, take_nil (by simp [e1])]
            simp only [tkStep, tkBlock, e1, List.take_length]
            rw [if_neg (by omega)]
          rw [e2]
          have hz : (k.z + (r.length : Int)) % 64 = k.z % 64 + r.length := by omega
          have e3 : tkRoom k (r ++ q) = r.length + tkRoom ⟨k.s, k.b.take (k.z % 64).toNat ++ r ++ k.b.drop ((k.z % 64).toNat + r.length), k.z + r.length⟩ q := by
            simp only [tkRoom, List.length_append, hz]; omega
          rw [take_step (k := k) (r := r ++ q) (by rw [List.length_append]; omega), take_step (r := q) hq, e3]
          generalize hm : tkRoom ⟨k.s, k.b.take (k.z % 64).toNat ++ r ++ k.b.drop ((k.z % 64).toNat + r.length), k.z + r.length⟩ q = m at *
          have e4 : tkBlock k (r ++ q) = tkBlock ⟨k.s, k.b.take (k.z % 64).toNat ++ r ++ k.b.drop ((k.z % 64).toNat + r.length), k.z + r.length⟩ q := by
            simp only [tkBlock, e3, hm, hz]
            have l1 : (k.b.take (k.z % 64).toNat).length = (k.z % 64).toNat := by simp; omega
            have hN : (k.z % 64 + (r.length : Int)).toNat = (k.z % 64).toNat + r.length := by omega
            rw [hN]
            have t1 : List.take ((k.z % 64).toNat + r.length) (k.b.take (k.z % 64).toNat ++ r ++ k.b.drop ((k.z % 64).toNat + r.length)) = k.b.take (k.z % 64).toNat ++ r := by
              rw [List.take_append_of_le_length (by simp; omega), List.take_of_length_le (by simp; omega)]
            have t2 : List.drop ((k.z % 64).toNat + r.length + m) (k.b.take (k.z % 64).toNat ++ r ++ k.b.drop ((k.z % 64).toNat + r.length)) = k.b.drop ((k.z % 64).toNat + (r.length + m)) := by
              rw [List.drop_append, List.drop_of_length_le (by simp; omega), List.nil_append, List.drop_drop]
              congr 1
              simp
              omega
            rw [t1, t2]
            have t3 : (r ++ q).take (r.length + m) = r ++ q.take m := by rw [List.take_append, List.take_of_length_le (by omega)]; congr 2; omega
            rw [t3]
            simp only [List.append_assoc]
          have e5 : (r ++ q).drop (r.length + m) = q.drop m := by rw [List.drop_append, List.drop_of_length_le (by omega), List.nil_append]; congr 1; omega
          rw [e5]
          congr 1
          simp only [tkStep, e4, e3, hm]
          have : k.z + ((r.length + m : Nat) : Int) = k.z + (r.length : Int) + (m : Int) := by omega
          rw [this]
theorem blk_le : ∀ (f g : Nat) (s r : List Int), r.length ≤ f → r.length ≤ g → blkN f s r = blkN g s r
  | 0, 0, _, _, _, _ => rfl
  | 0, g + 1, s, r, h, _ => by simp only [blkN]; rw [if_pos (by omega)]
  | f + 1, 0, s, r, _, h => by simp only [blkN]; rw [if_pos (by omega)]
  | f + 1, g + 1, s, r, h1, h2 => by
    simp only [blkN]
    by_cases h : r.length = 0
    · rw [if_pos h, if_pos h]
    · rw [if_neg h, if_neg h]
      exact blk_le f g _ _ (by simp; omega) (by simp; omega)
theorem blk_step {s r : List Int} (h : r.length ≠ 0) : blkI s r = blkI (mix3 s (r.take 64)) (r.drop 64) := by
  unfold blkI
  rw [blk_le r.length (r.length + 1) s r (Nat.le_refl _) (by omega)]
  simp only [blkN]
  rw [if_neg h]
  exact blk_le _ _ _ _ (by simp) (Nat.le_refl _)
theorem blk_nil {s r : List Int} (h : r.length = 0) : blkI s r = s := by
  unfold blkI
  rw [h]; rfl
theorem blk_take : ∀ (n : Nat) (s b : List Int) (z : Int) (r : List Int), r.length ≤ n → b.length = 64 → z % 64 = 0 → (r.length : Int) % 64 = 0 → (takeI ⟨s, b, z⟩ r).s = blkI s r
  | 0, s, b, z, r, hn, hb, hz, hr => by
    rw [take_nil (by omega), blk_nil (by omega)]
  | n + 1, s, b, z, r, hn, hb, hz, hr => by
    by_cases h0 : r.length = 0
    · rw [take_nil h0, blk_nil h0]
    · have e1 : tkRoom ⟨s, b, z⟩ r = 64 := by simp only [tkRoom, hz]; omega
      have e2 : tkBlock ⟨s, b, z⟩ r = r.take 64 := by
        simp only [tkBlock, e1, hz]
        rw [show ((0 : Int).toNat + 64) = 64 from rfl, List.drop_of_length_le (by omega)]
        simp
      rw [take_step h0, blk_step h0, e1]
      simp only [tkStep, e1, e2]
      rw [if_pos (by omega)]
      exact blk_take n _ _ _ _ (by simp; omega) (by simp; omega) (by omega) (by simp; omega)
theorem or_turn (x n m : Int) : iopI .or .u32 (iopI .shr .u32 x n) (iopI .shl .u32 x m) = rotI n m x := by
  simp only [rotI, iopI]
  rw [BitVec.or_comm]

def sprL : LSpec := { n := 86, next := 1, pat := [(6, .sint .i64 (.var 0)), (3, .ptr 1 0)], rows := [(1, .seq ⟨50, .u32, .int 64, .var 1, false, false⟩)], pre := [(.le (.int 16) (.var 0), true), (.le (.var 0) (.int 64), true)], x := 2, fin := [(3, .ptr 1 0)], frows := [(1, .seq ⟨50, .u32, .int 64, .fn 1 (argsE [.var 0, .var 1]), false, false⟩)], same := [1], chg := [3, 6, 7, 8, 9, 10, 42, 43, 44, 45, 46, 47, 48, 49, 50, 51, 52, 53, 54, 55, 56, 57, 58, 59, 60, 61, 62, 63, 64, 65, 66, 67, 68, 69, 70, 71, 72, 73, 74, 75, 76, 77, 78, 79, 80, 81, 82, 83, 84] }
abbrev asDp0 : Q × Bool := ((.le (.int 64) (.var 0)), false)
abbrev asDp1 : Q × Bool := ((.fit .i64 (.bi .add (.var 0) (.int (-15)))), true)
abbrev asDp2 : Q × Bool := ((.le (.int 0) (.bi .add (.var 0) (.int (-15)))), true)
abbrev asDp3 : Q × Bool := ((.le (.int 64) (.bi .add (.var 0) (.int (-15)))), false)
abbrev asDp4 : Q × Bool := ((.fit .i64 (.bi .add (.var 0) (.int (-2)))), true)
abbrev asDp5 : Q × Bool := ((.le (.int 0) (.bi .add (.var 0) (.int (-2)))), true)
abbrev asDp6 : Q × Bool := ((.le (.int 64) (.bi .add (.var 0) (.int (-2)))), false)
abbrev asDp7 : Q × Bool := ((.fit .i64 (.bi .add (.var 0) (.int (-16)))), true)
abbrev asDp8 : Q × Bool := ((.le (.int 0) (.bi .add (.var 0) (.int (-16)))), true)
abbrev asDp9 : Q × Bool := ((.le (.int 64) (.bi .add (.var 0) (.int (-16)))), false)
abbrev asDp10 : Q × Bool := ((.fit .i64 (.bi .add (.var 0) (.int (-7)))), true)
abbrev asDp11 : Q × Bool := ((.le (.int 0) (.bi .add (.var 0) (.int (-7)))), true)
abbrev asDp12 : Q × Bool := ((.le (.int 64) (.bi .add (.var 0) (.int (-7)))), false)
abbrev asDp13 : Q × Bool := ((.le (.int 0) (.var 0)), true)
abbrev asDp14 : Q × Bool := ((.fit .i64 (.bi .add (.var 0) (.int 1))), true)
def sprL_t0 : List (Q × Bool) := [asDp0, asDp1, asDp2, asDp3, asDp4, asDp5, asDp6, asDp7, asDp8, asDp9, asDp10, asDp11, asDp12, asDp13, asDp14]
def sprL_d0 : List Duty := [(false, (.fn 1 (.bi .pair (.bi .add (.var 0) (.int 1)) (.bi .pair txDp119 (.int 0)))), (.fn 1 (.bi .pair (.var 0) (.bi .pair (.var 1) (.int 0)))))]
def sprL_h0 : List (Nat × E) := [(1, txDp119), (0, (.bi .add (.var 0) (.int 1)))]
theorem sprL_h0_0 : lookE sprL_h0 0 = (.bi .add (.var 0) (.int 1)) := rfl
theorem sprL_h0_1 : lookE sprL_h0 1 = txDp119 := rfl
theorem sprL_y0 : nextD sprL sprL_h0 [(1, 1)] (roundC Tryd.prog [] [] [] 3000 40 28 [4, 1, 0, 1, 1, 1] (tellA sprL_t0) sprL) = some sprL_d0 := by kernel_rfl
abbrev asDp15 : Q × Bool := ((.le (.int 64) (.var 0)), true)
def sprL_t1 : List (Q × Bool) := [asDp15]
def sprL_d1 : List Duty := [(false, (.var 1), (.fn 1 (.bi .pair (.var 0) (.bi .pair (.var 1) (.int 0)))))]
theorem sprL_y1 : endD sprL [(1, 1)] 1000 (roundC Tryd.prog [] [] [] 3000 40 28 [4, 1, 0, 1, 1, 1] (tellA sprL_t1) sprL) = some sprL_d1 := by kernel_rfl
theorem sprL_holds : LHolds Tryd.prog (loopAt Tryd.prog 28 [4, 1, 0, 1, 1, 1]) sprL F := by
  refine loop_roundsC sound (tableNil _ _) (specsNil _ _) (oversNil _ _) (fuel := 3000) (depth := 40) (by kernel_rfl) (by kernel_rfl) (by kernel_rfl) (fun d => (64 - (d 0).toInt).toNat) fun d hp hR hA => ?_
  have hp := allTold'_iff.2 hp
  simp only [sprL, allTold', dutiesTold, factsA, factsC, factsP, factsR, AV.facts, RW.facts, inK, and_true, Q.holds', E.i, E.s, E.n, D.nat, E.den, BO.den, UO.den, TO.den, D.toInt_int, D.toList_list, D.ints_ofInts, i64min, i64max, u8min, u8max, u16min, u16max, u32min, u32max, u64min, u64max, i32min, i32max, Om.sub, selI, ints_app, ints_cut, ints_upd, ints_rep, ints_splice, ints_seg, len_ints] at hp hR hA
  by_cases h : 64 ≤ (d 0).toInt
  · refine ⟨tellA sprL_t1, tellA_ok (allTold'_iff.1 ?_), .inl ⟨_, _, _, sprL_y1, dutiesTold_ok ?_⟩⟩
    · simp only [sprL_t1, allTold', dutiesTold, factsA, factsC, factsP, factsR, AV.facts, RW.facts, inK, and_true, Q.holds', E.i, E.s, E.n, D.nat, E.den, BO.den, UO.den, TO.den, D.toInt_int, D.toList_list, D.ints_ofInts, i64min, i64max, u8min, u8max, u16min, u16max, u32min, u32max, u64min, u64max, i32min, i32max, Om.sub, selI, ints_app, ints_cut, ints_upd, ints_rep, ints_splice, ints_seg, len_ints]
      omega
    · simp only [sprL_d1, F1, allTold', dutiesTold, factsA, factsC, factsP, factsR, AV.facts, RW.facts, inK, and_true, Q.holds', E.i, E.s, E.n, D.nat, E.den, BO.den, UO.den, TO.den, D.toInt_int, D.toList_list, D.ints_ofInts, i64min, i64max, u8min, u8max, u16min, u16max, u32min, u32max, u64min, u64max, i32min, i32max, Om.sub, selI, ints_app, ints_cut, ints_upd, ints_rep, ints_splice, ints_seg, len_ints]
      rw [show (64 - (d 0).toInt).toNat = 0 by omega]
      rfl
  · refine ⟨tellA sprL_t0, tellA_ok (allTold'_iff.1 ?_), .inr ⟨sprL_h0, _, _, sprL_y0, dutiesTold_ok ?_, allTold'_iff.1 ?_, ?_⟩⟩
    · simp only [sprL_t0, allTold', dutiesTold, factsA, factsC, factsP, factsR, AV.facts, RW.facts, inK, and_true, Q.holds', E.i, E.s, E.n, D.nat, E.den, BO.den, UO.den, TO.den, D.toInt_int, D.toList_list, D.ints_ofInts, i64min, i64max, u8min, u8max, u16min, u16max, u32min, u32max, u64min, u64max, i32min, i32max, Om.sub, selI, ints_app, ints_cut, ints_upd, ints_rep, ints_splice, ints_seg, len_ints]
      omega
    · simp only [sprL_d0, F1, allTold', dutiesTold, factsA, factsC, factsP, factsR, AV.facts, RW.facts, inK, and_true, Q.holds', E.i, E.s, E.n, D.nat, E.den, BO.den, UO.den, TO.den, D.toInt_int, D.toList_list, D.ints_ofInts, i64min, i64max, u8min, u8max, u16min, u16max, u32min, u32max, u64min, u64max, i32min, i32max, Om.sub, selI, ints_app, ints_cut, ints_upd, ints_rep, ints_splice, ints_seg, len_ints]
      rw [spr_step (d 0).toInt (d 1).ints (by omega)]
      rfl
    · simp only [sprL, sprL_h0_0, sprL_h0_1, allTold', dutiesTold, factsA, factsC, factsP, factsR, AV.facts, RW.facts, inK, and_true, Q.holds', E.i, E.s, E.n, D.nat, E.den, BO.den, UO.den, TO.den, D.toInt_int, D.toList_list, D.ints_ofInts, i64min, i64max, u8min, u8max, u16min, u16max, u32min, u32max, u64min, u64max, i32min, i32max, Om.sub, selI, ints_app, ints_cut, ints_upd, ints_rep, ints_splice, ints_seg, len_ints]
      omega
    · simp only [sprL_h0_0, sprL_h0_1, allTold', dutiesTold, factsA, factsC, factsP, factsR, AV.facts, RW.facts, inK, and_true, Q.holds', E.i, E.s, E.n, D.nat, E.den, BO.den, UO.den, TO.den, D.toInt_int, D.toList_list, D.ints_ofInts, i64min, i64max, u8min, u8max, u16min, u16max, u32min, u32max, u64min, u64max, i32min, i32max, Om.sub, selI, ints_app, ints_cut, ints_upd, ints_rep, ints_splice, ints_seg, len_ints]
      omega

def mixL : LSpec := { n := 131, next := 1, pat := [(35, .sint .i64 (.var 0)), (6, .sint .u32 (.var 1)), (7, .sint .u32 (.var 2)), (8, .sint .u32 (.var 3)), (9, .sint .u32 (.var 4)), (10, .sint .u32 (.var 5)), (11, .sint .u32 (.var 6)), (12, .sint .u32 (.var 7)), (13, .sint .u32 (.var 8)), (5, .ptr 1 0)], rows := [(1, .seq ⟨50, .u32, .int 64, .var 9, false, false⟩), (0, .ext cellsG)], pre := [(.le (.int 0) (.var 0), true), (.le (.var 0) (.int 64), true)], x := 0, fin := [(6, .sint .u32 (.fn 2 (argsE [.int 0, .var 0, .var 1, .var 2, .var 3, .var 4, .var 5, .var 6, .var 7, .var 8, .var 9]))), (7, .sint .u32 (.fn 2 (argsE [.int 1, .var 0, .var 1, .var 2, .var 3, .var 4, .var 5, .var 6, .var 7, .var 8, .var 9]))), (8, .sint .u32 (.fn 2 (argsE [.int 2, .var 0, .var 1, .var 2, .var 3, .var 4, .var 5, .var 6, .var 7, .var 8, .var 9]))), (9, .sint .u32 (.fn 2 (argsE [.int 3, .var 0, .var 1, .var 2, .var 3, .var 4, .var 5, .var 6, .var 7, .var 8, .var 9]))), (10, .sint .u32 (.fn 2 (argsE [.int 4, .var 0, .var 1, .var 2, .var 3, .var 4, .var 5, .var 6, .var 7, .var 8, .var 9]))), (11, .sint .u32 (.fn 2 (argsE [.int 5, .var 0, .var 1, .var 2, .var 3, .var 4, .var 5, .var 6, .var 7, .var 8, .var 9]))), (12, .sint .u32 (.fn 2 (argsE [.int 6, .var 0, .var 1, .var 2, .var 3, .var 4, .var 5, .var 6, .var 7, .var 8, .var 9]))), (13, .sint .u32 (.fn 2 (argsE [.int 7, .var 0, .var 1, .var 2, .var 3, .var 4, .var 5, .var 6, .var 7, .var 8, .var 9])))], frows := [], same := [], chg := [5, 6, 7, 8, 9, 10, 11, 12, 13, 14, 15, 16, 35, 36, 37, 38, 39, 40, 41, 42, 43, 44, 45, 46, 47, 48, 49, 50, 51, 52, 53, 54, 55, 56, 57, 58, 59, 60, 61, 62, 63, 64, 65, 66, 67, 68, 69, 70, 71, 72, 73, 74, 75, 76, 77, 78, 79, 80, 81, 82, 83, 84, 85, 86, 87, 88, 89, 90, 91, 92, 93, 94, 95, 96, 97] }
def mixL_t0 : List (Q × Bool) := [asDp0, asDp13, asDp14]
def mixL_d0 : List Duty := [(true, (.fn 2 (.bi .pair (.int 0) txDp129)), (.fn 2 (.bi .pair (.int 0) txDp77))), (true, (.fn 2 (.bi .pair (.int 1) txDp129)), (.fn 2 (.bi .pair (.int 1) txDp77))), (true, (.fn 2 (.bi .pair (.int 2) txDp129)), (.fn 2 (.bi .pair (.int 2) txDp77))), (true, (.fn 2 (.bi .pair (.int 3) txDp129)), (.fn 2 (.bi .pair (.int 3) txDp77))), (true, (.fn 2 (.bi .pair (.int 4) txDp129)), (.fn 2 (.bi .pair (.int 4) txDp77))), (true, (.fn 2 (.bi .pair (.int 5) txDp129)), (.fn 2 (.bi .pair (.int 5) txDp77))), (true, (.fn 2 (.bi .pair (.int 6) txDp129)), (.fn 2 (.bi .pair (.int 6) txDp77))), (true, (.fn 2 (.bi .pair (.int 7) txDp129)), (.fn 2 (.bi .pair (.int 7) txDp77)))]
def mixL_h0 : List (Nat × E) := [(9, (.var 9)), (8, (.var 7)), (7, (.var 6)), (6, (.var 5)), (5, (.bi (.iop .add .u32) (.var 4) txDp120)), (4, (.var 3)), (3, (.var 2)), (2, (.var 1)), (1, txDp124), (0, (.bi .add (.var 0) (.int 1)))]
theorem mixL_h0_0 : lookE mixL_h0 0 = (.bi .add (.var 0) (.int 1)) := rfl
theorem mixL_h0_1 : lookE mixL_h0 1 = txDp124 := rfl
theorem mixL_h0_2 : lookE mixL_h0 2 = (.var 1) := rfl
theorem mixL_h0_3 : lookE mixL_h0 3 = (.var 2) := rfl
theorem mixL_h0_4 : lookE mixL_h0 4 = (.var 3) := rfl
theorem mixL_h0_5 : lookE mixL_h0 5 = (.bi (.iop .add .u32) (.var 4) txDp120) := rfl
theorem mixL_h0_6 : lookE mixL_h0 6 = (.var 5) := rfl
theorem mixL_h0_7 : lookE mixL_h0 7 = (.var 6) := rfl
theorem mixL_h0_8 : lookE mixL_h0 8 = (.var 7) := rfl
theorem mixL_h0_9 : lookE mixL_h0 9 = (.var 9) := rfl
theorem mixL_y0 : nextD mixL mixL_h0 [(1, 1)] (roundC Tryd.prog [⟨28, [4, 1, 0, 1, 1, 1], sprL⟩] [] [] 3000 40 22 [4, 1, 0, 1, 1, 1] (tellA mixL_t0) mixL) = some mixL_d0 := by kernel_rfl
def mixL_t1 : List (Q × Bool) := [asDp15]
def mixL_d1 : List Duty := [(true, (.var 1), (.fn 2 (.bi .pair (.int 0) txDp77))), (true, (.var 2), (.fn 2 (.bi .pair (.int 1) txDp77))), (true, (.var 3), (.fn 2 (.bi .pair (.int 2) txDp77))), (true, (.var 4), (.fn 2 (.bi .pair (.int 3) txDp77))), (true, (.var 5), (.fn 2 (.bi .pair (.int 4) txDp77))), (true, (.var 6), (.fn 2 (.bi .pair (.int 5) txDp77))), (true, (.var 7), (.fn 2 (.bi .pair (.int 6) txDp77))), (true, (.var 8), (.fn 2 (.bi .pair (.int 7) txDp77)))]
theorem mixL_y1 : endD mixL [(1, 1)] 1000 (roundC Tryd.prog [⟨28, [4, 1, 0, 1, 1, 1], sprL⟩] [] [] 3000 40 22 [4, 1, 0, 1, 1, 1] (tellA mixL_t1) mixL) = some mixL_d1 := by kernel_rfl
theorem mixL_holds : LHolds Tryd.prog (loopAt Tryd.prog 22 [4, 1, 0, 1, 1, 1]) mixL F := by
  refine loop_roundsC sound (tableCons sprL_holds (tableNil _ _)) (specsNil _ _) (oversNil _ _) (fuel := 3000) (depth := 40) (by kernel_rfl) (by kernel_rfl) (by kernel_rfl) (fun d => (64 - (d 0).toInt).toNat) fun d hp hR hA => ?_
  have hp := allTold'_iff.2 hp
  simp only [mixL, allTold', dutiesTold, factsA, factsC, factsP, factsR, AV.facts, RW.facts, inK, and_true, Q.holds', E.i, E.s, E.n, D.nat, E.den, BO.den, UO.den, TO.den, D.toInt_int, D.toList_list, D.ints_ofInts, i64min, i64max, u8min, u8max, u16min, u16max, u32min, u32max, u64min, u64max, i32min, i32max, Om.sub, selI, ints_app, ints_cut, ints_upd, ints_rep, ints_splice, ints_seg, len_ints] at hp hR hA
  by_cases h : 64 ≤ (d 0).toInt
  · refine ⟨tellA mixL_t1, tellA_ok (allTold'_iff.1 ?_), .inl ⟨_, _, _, mixL_y1, dutiesTold_ok ?_⟩⟩
    · simp only [mixL_t1, allTold', dutiesTold, factsA, factsC, factsP, factsR, AV.facts, RW.facts, inK, and_true, Q.holds', E.i, E.s, E.n, D.nat, E.den, BO.den, UO.den, TO.den, D.toInt_int, D.toList_list, D.ints_ofInts, i64min, i64max, u8min, u8max, u16min, u16max, u32min, u32max, u64min, u64max, i32min, i32max, Om.sub, selI, ints_app, ints_cut, ints_upd, ints_rep, ints_splice, ints_seg, len_ints]
      omega
    · simp only [mixL_d1, F2, allTold', dutiesTold, factsA, factsC, factsP, factsR, AV.facts, RW.facts, inK, and_true, Q.holds', E.i, E.s, E.n, D.nat, E.den, BO.den, UO.den, TO.den, D.toInt_int, D.toList_list, D.ints_ofInts, i64min, i64max, u8min, u8max, u16min, u16max, u32min, u32max, u64min, u64max, i32min, i32max, Om.sub, selI, ints_app, ints_cut, ints_upd, ints_rep, ints_splice, ints_seg, len_ints]
      rw [show (64 - (d 0).toInt).toNat = 0 by omega]
      and_intros <;> rfl
  · refine ⟨tellA mixL_t0, tellA_ok (allTold'_iff.1 ?_), .inr ⟨mixL_h0, _, _, mixL_y0, dutiesTold_ok ?_, allTold'_iff.1 ?_, ?_⟩⟩
    · simp only [mixL_t0, allTold', dutiesTold, factsA, factsC, factsP, factsR, AV.facts, RW.facts, inK, and_true, Q.holds', E.i, E.s, E.n, D.nat, E.den, BO.den, UO.den, TO.den, D.toInt_int, D.toList_list, D.ints_ofInts, i64min, i64max, u8min, u8max, u16min, u16max, u32min, u32max, u64min, u64max, i32min, i32max, Om.sub, selI, ints_app, ints_cut, ints_upd, ints_rep, ints_splice, ints_seg, len_ints]
      omega
    · simp only [mixL_d0, F2, allTold', dutiesTold, factsA, factsC, factsP, factsR, AV.facts, RW.facts, inK, and_true, Q.holds', E.i, E.s, E.n, D.nat, E.den, BO.den, UO.den, TO.den, D.toInt_int, D.toList_list, D.ints_ofInts, i64min, i64max, u8min, u8max, u16min, u16max, u32min, u32max, u64min, u64max, i32min, i32max, Om.sub, selI, ints_app, ints_cut, ints_upd, ints_rep, ints_splice, ints_seg, len_ints]
      rw [mixN_step (d 0).toInt (d 9).ints _ (by omega)]
      and_intros <;> rfl
    · simp only [mixL, mixL_h0_0, mixL_h0_1, mixL_h0_2, mixL_h0_3, mixL_h0_4, mixL_h0_5, mixL_h0_6, mixL_h0_7, mixL_h0_8, mixL_h0_9, allTold', dutiesTold, factsA, factsC, factsP, factsR, AV.facts, RW.facts, inK, and_true, Q.holds', E.i, E.s, E.n, D.nat, E.den, BO.den, UO.den, TO.den, D.toInt_int, D.toList_list, D.ints_ofInts, i64min, i64max, u8min, u8max, u16min, u16max, u32min, u32max, u64min, u64max, i32min, i32max, Om.sub, selI, ints_app, ints_cut, ints_upd, ints_rep, ints_splice, ints_seg, len_ints]
      omega
    · simp only [mixL_h0_0, mixL_h0_1, mixL_h0_2, mixL_h0_3, mixL_h0_4, mixL_h0_5, mixL_h0_6, mixL_h0_7, mixL_h0_8, mixL_h0_9, allTold', dutiesTold, factsA, factsC, factsP, factsR, AV.facts, RW.facts, inK, and_true, Q.holds', E.i, E.s, E.n, D.nat, E.den, BO.den, UO.den, TO.den, D.toInt_int, D.toList_list, D.ints_ofInts, i64min, i64max, u8min, u8max, u16min, u16max, u32min, u32max, u64min, u64max, i32min, i32max, Om.sub, selI, ints_app, ints_cut, ints_upd, ints_rep, ints_splice, ints_seg, len_ints]
      omega

def mixedC : CSpec := { args := [.agg [vu32Dp (.var 1) 0, vu32Dp (.var 1) 1, vu32Dp (.var 1) 2, vu32Dp (.var 1) 3, vu32Dp (.var 1) 4, vu32Dp (.var 1) 5, vu32Dp (.var 1) 6, vu32Dp (.var 1) 7], .agg [vu8Dp (.var 2) 0, vu8Dp (.var 2) 1, vu8Dp (.var 2) 2, vu8Dp (.var 2) 3, vu8Dp (.var 2) 4, vu8Dp (.var 2) 5, vu8Dp (.var 2) 6, vu8Dp (.var 2) 7, vu8Dp (.var 2) 8, vu8Dp (.var 2) 9, vu8Dp (.var 2) 10, vu8Dp (.var 2) 11, vu8Dp (.var 2) 12, vu8Dp (.var 2) 13, vu8Dp (.var 2) 14, vu8Dp (.var 2) 15, vu8Dp (.var 2) 16, vu8Dp (.var 2) 17, vu8Dp (.var 2) 18, vu8Dp (.var 2) 19, vu8Dp (.var 2) 20, vu8Dp (.var 2) 21, vu8Dp (.var 2) 22, vu8Dp (.var 2) 23, vu8Dp (.var 2) 24, vu8Dp (.var 2) 25, vu8Dp (.var 2) 26, vu8Dp (.var 2) 27, vu8Dp (.var 2) 28, vu8Dp (.var 2) 29, vu8Dp (.var 2) 30, vu8Dp (.var 2) 31, vu8Dp (.var 2) 32, vu8Dp (.var 2) 33, vu8Dp (.var 2) 34, vu8Dp (.var 2) 35, vu8Dp (.var 2) 36, vu8Dp (.var 2) 37, vu8Dp (.var 2) 38, vu8Dp (.var 2) 39, vu8Dp (.var 2) 40, vu8Dp (.var 2) 41, vu8Dp (.var 2) 42, vu8Dp (.var 2) 43, vu8Dp (.var 2) 44, vu8Dp (.var 2) 45, vu8Dp (.var 2) 46, vu8Dp (.var 2) 47, vu8Dp (.var 2) 48, vu8Dp (.var 2) 49, vu8Dp (.var 2) 50, vu8Dp (.var 2) 51, vu8Dp (.var 2) 52, vu8Dp (.var 2) 53, vu8Dp (.var 2) 54, vu8Dp (.var 2) 55, vu8Dp (.var 2) 56, vu8Dp (.var 2) 57, vu8Dp (.var 2) 58, vu8Dp (.var 2) 59, vu8Dp (.var 2) 60, vu8Dp (.var 2) 61, vu8Dp (.var 2) 62, vu8Dp (.var 2) 63]], next := 0, rows := [(0, .ext cellsG)], pre := [], res := .agg [.sint .u32 (.bi .sel (.fn 3 (argsE [.var 1, .var 2])) (.int 0)), .sint .u32 (.bi .sel (.fn 3 (argsE [.var 1, .var 2])) (.int 1)), .sint .u32 (.bi .sel (.fn 3 (argsE [.var 1, .var 2])) (.int 2)), .sint .u32 (.bi .sel (.fn 3 (argsE [.var 1, .var 2])) (.int 3)), .sint .u32 (.bi .sel (.fn 3 (argsE [.var 1, .var 2])) (.int 4)), .sint .u32 (.bi .sel (.fn 3 (argsE [.var 1, .var 2])) (.int 5)), .sint .u32 (.bi .sel (.fn 3 (argsE [.var 1, .var 2])) (.int 6)), .sint .u32 (.bi .sel (.fn 3 (argsE [.var 1, .var 2])) (.int 7))], frows := [], same := [] }
def mixedC_t0 : List (Q × Bool) := []
def mixedC_d0 : List Duty := [(true, (.bi (.iop .add .u32) (.bi .sel (.var 1) (.int 0)) (.fn 2 (.bi .pair (.int 0) (.bi .pair (.int 0) txDp141)))), (.bi .sel (.fn 3 txDp3) (.int 0))), (true, (.bi (.iop .add .u32) (.bi .sel (.var 1) (.int 1)) (.fn 2 (.bi .pair (.int 1) (.bi .pair (.int 0) txDp141)))), (.bi .sel (.fn 3 txDp3) (.int 1))), (true, (.bi (.iop .add .u32) (.bi .sel (.var 1) (.int 2)) (.fn 2 (.bi .pair (.int 2) (.bi .pair (.int 0) txDp141)))), (.bi .sel (.fn 3 txDp3) (.int 2))), (true, (.bi (.iop .add .u32) (.bi .sel (.var 1) (.int 3)) (.fn 2 (.bi .pair (.int 3) (.bi .pair (.int 0) txDp141)))), (.bi .sel (.fn 3 txDp3) (.int 3))), (true, (.bi (.iop .add .u32) (.bi .sel (.var 1) (.int 4)) (.fn 2 (.bi .pair (.int 4) (.bi .pair (.int 0) txDp141)))), (.bi .sel (.fn 3 txDp3) (.int 4))), (true, (.bi (.iop .add .u32) (.bi .sel (.var 1) (.int 5)) (.fn 2 (.bi .pair (.int 5) (.bi .pair (.int 0) txDp141)))), (.bi .sel (.fn 3 txDp3) (.int 5))), (true, (.bi (.iop .add .u32) (.bi .sel (.var 1) (.int 6)) (.fn 2 (.bi .pair (.int 6) (.bi .pair (.int 0) txDp141)))), (.bi .sel (.fn 3 txDp3) (.int 6))), (true, (.bi (.iop .add .u32) (.bi .sel (.var 1) (.int 7)) (.fn 2 (.bi .pair (.int 7) (.bi .pair (.int 0) txDp141)))), (.bi .sel (.fn 3 txDp3) (.int 7)))]
theorem mixedC_y0 : endC mixedC [] 1000 (callC Tryd.prog (tellA mixedC_t0) [⟨28, [4, 1, 0, 1, 1, 1], sprL⟩, ⟨22, [4, 1, 0, 1, 1, 1], mixL⟩] [] [] 3000 40 22 mixedC) = some mixedC_d0 := by kernel_rfl
theorem mixedC_holds : CHolds Tryd.prog 22 mixedC F := by
  refine cholds_of sound (tableCons sprL_holds (tableCons mixL_holds (tableNil _ _))) (specsNil _ _) (oversNil _ _) (fuel := 3000) (depth := 40) (by kernel_rfl) fun d hp hR hA => ?_
  have hp := allTold'_iff.2 hp
  simp only [mixedC, allTold', dutiesTold, factsA, factsC, factsP, factsR, AV.facts, RW.facts, inK, and_true, Q.holds', E.i, E.s, E.n, D.nat, E.den, BO.den, UO.den, TO.den, D.toInt_int, D.toList_list, D.ints_ofInts, i64min, i64max, u8min, u8max, u16min, u16max, u32min, u32max, u64min, u64max, i32min, i32max, Om.sub, selI, ints_app, ints_cut, ints_upd, ints_rep, ints_splice, ints_seg, len_ints] at hp hR hA
  refine ⟨tellA mixedC_t0, _, _, _, tellA_ok (allTold'_iff.1 ?_), mixedC_y0, dutiesTold_ok ?_⟩
  · simp only [mixedC_t0, allTold', dutiesTold, factsA, factsC, factsP, factsR, AV.facts, RW.facts, inK, and_true, Q.holds', E.i, E.s, E.n, D.nat, E.den, BO.den, UO.den, TO.den, D.toInt_int, D.toList_list, D.ints_ofInts, i64min, i64max, u8min, u8max, u16min, u16max, u32min, u32max, u64min, u64max, i32min, i32max, Om.sub, selI, ints_app, ints_cut, ints_upd, ints_rep, ints_splice, ints_seg, len_ints]
  · simp only [mixedC_d0, F1, F2, F3, allTold', dutiesTold, factsA, factsC, factsP, factsR, AV.facts, RW.facts, inK, and_true, Q.holds', E.i, E.s, E.n, D.nat, E.den, BO.den, UO.den, TO.den, D.toInt_int, D.toList_list, D.ints_ofInts, i64min, i64max, u8min, u8max, u16min, u16max, u32min, u32max, u64min, u64max, i32min, i32max, Om.sub, selI, ints_app, ints_cut, ints_upd, ints_rep, ints_splice, ints_seg, len_ints]
    generalize hW : D.ints (D.list (_ ++ _)) = W
    have hW2 : W = wordsI (d 2).ints := by
      rw [← hW]
      simp [wordsI, wordI, orI, getI, ints_list, D.ofInts, Function.comp_def, List.replicate]
    subst hW2
    rw [show ((64 : Int) - 16).toNat = 48 from rfl, show ((64 : Int) - 0).toNat = 64 from rfl, show Int.toNat 0 = 0 from rfl, show Int.toNat 64 = 64 from rfl, segI_all (l := spr 48 16 (wordsI (d 2).ints)) (n := 64) (by rw [spr_len]; rfl)]
    simp only [mixedI, s8L, getI, S8.list, S8.at, addI]
    and_intros <;> rfl

def fillC : CSpec := { args := [.sint .i64 (.var 0)], next := 0, rows := [], pre := [(.le (.int 0) (.var 0), true), (.le (.var 0) (.int 1152921504606846976), true)], res := .sslice 1 (.int 0) (.fn 17 (argsE [.var 0])) (.fn 17 (argsE [.var 0])) true, frows := [(1, .seq ⟨5, .u8, .fn 17 (argsE [.var 0]), .fn 7 (argsE [.var 0]), true, false⟩)], same := [] }
abbrev asDp16 : Q × Bool := ((.fit .i64 txDp57), true)
abbrev asDp17 : Q × Bool := ((.fit .i64 txDp67), true)
abbrev asDp18 : Q × Bool := ((.fit .i64 txDp68), true)
abbrev asDp19 : Q × Bool := ((.le (.int 0) txDp67), true)
abbrev asDp20 : Q × Bool := ((.le txDp67 txDp68), true)
abbrev asDp21 : Q × Bool := ((.le txDp68 (.int 281474976710656)), true)
abbrev asDp22 : Q × Bool := ((.le txDp68 (.int 9223372036854775807)), true)
abbrev asDp23 : Q × Bool := ((.le txDp67 (.int 0)), false)
abbrev asDp24 : Q × Bool := ((.le txDp68 (.int 0)), false)
abbrev asDp25 : Q × Bool := ((.le (.bi .mul (.bi .add (.bi (.iop .rem .i64) txDp57 (.int 64)) (.int 2)) (.int 2)) (.int 281474976710656)), true)
abbrev asDp26 : Q × Bool := ((.le (.bi .mul (.bi .add (.bi (.iop .rem .i64) txDp57 (.int 64)) (.int 3)) (.int 2)) (.int 281474976710656)), true)
abbrev asDp27 : Q × Bool := ((.le (.bi .mul (.bi .add (.bi (.iop .rem .i64) txDp57 (.int 64)) (.int 4)) (.int 2)) (.int 281474976710656)), true)
abbrev asDp28 : Q × Bool := ((.le (.bi .mul (.bi .add (.bi (.iop .rem .i64) txDp57 (.int 64)) (.int 5)) (.int 2)) (.int 281474976710656)), true)
abbrev asDp29 : Q × Bool := ((.le (.bi .mul (.bi .add (.bi (.iop .rem .i64) txDp57 (.int 64)) (.int 6)) (.int 2)) (.int 281474976710656)), true)
abbrev asDp30 : Q × Bool := ((.le (.bi .mul (.bi .add (.bi (.iop .rem .i64) txDp57 (.int 64)) (.int 7)) (.int 2)) (.int 281474976710656)), true)
abbrev asDp31 : Q × Bool := ((.le (.bi .mul (.bi .add (.bi (.iop .rem .i64) txDp57 (.int 64)) (.int 8)) (.int 2)) (.int 281474976710656)), true)
abbrev asDp32 : Q × Bool := ((.le (.bi .mul txDp68 (.int 2)) (.int 281474976710656)), true)
def fillC_t0 : List (Q × Bool) := [asDp16, asDp17, asDp18, asDp19, asDp20, asDp21, asDp22, asDp23, asDp24, asDp25, asDp26, asDp27, asDp28, asDp29, asDp30, asDp31, asDp32]
def fillC_d0 : List Duty := [(true, txDp68, (.fn 17 (.bi .pair (.var 0) (.int 0)))), (true, txDp68, (.fn 17 (.bi .pair (.var 0) (.int 0)))), (true, txDp68, (.fn 17 (.bi .pair (.var 0) (.int 0)))), (false, (.bi .app (.bi .app (.bi .app (.bi .app (.bi .app (.bi .app (.bi .app (.bi .app (.tr .cut (.tr .upd (.bi .rep txDp68 (.int 0)) (.int 0) (.int 128)) (.int 0) txDp67) (.bi .app (.un .one (.un (.wrap .u8) (.bi (.iop .shr .u64) txDp8 (.int 56)))) (.lits []))) (.bi .app (.un .one (.un (.wrap .u8) (.bi (.iop .shr .u64) txDp8 (.int 48)))) (.lits []))) (.bi .app (.un .one (.un (.wrap .u8) (.bi (.iop .shr .u64) txDp8 (.int 40)))) (.lits []))) (.bi .app (.un .one (.un (.wrap .u8) (.bi (.iop .shr .u64) txDp8 (.int 32)))) (.lits []))) (.bi .app (.un .one (.un (.wrap .u8) (.bi (.iop .shr .u64) txDp8 (.int 24)))) (.lits []))) (.bi .app (.un .one (.un (.wrap .u8) (.bi (.iop .shr .u64) txDp8 (.int 16)))) (.lits []))) (.bi .app (.un .one (.un (.wrap .u8) (.bi (.iop .shr .u64) txDp8 (.int 8)))) (.lits []))) (.bi .app (.un .one (.un (.wrap .u8) (.bi (.iop .shr .u64) txDp8 (.int 0)))) (.lits []))), (.fn 7 (.bi .pair (.var 0) (.int 0))))]
theorem fillC_y0 : endC fillC [(1, 33)] 1000 (callC Tryd.prog (tellA fillC_t0) [] [] [] 3000 40 23 fillC) = some fillC_d0 := by kernel_rfl
theorem fillC_holds : CHolds Tryd.prog 23 fillC F := by
  refine cholds_of sound (tableNil _ _) (specsNil _ _) (oversNil _ _) (fuel := 3000) (depth := 40) (by kernel_rfl) fun d hp hR hA => ?_
  have hp := allTold'_iff.2 hp
  simp only [fillC, allTold', dutiesTold, factsA, factsC, factsP, factsR, AV.facts, RW.facts, inK, and_true, Q.holds', E.i, E.s, E.n, D.nat, E.den, BO.den, UO.den, TO.den, D.toInt_int, D.toList_list, D.ints_ofInts, i64min, i64max, u8min, u8max, u16min, u16max, u32min, u32max, u64min, u64max, i32min, i32max, Om.sub, selI, ints_app, ints_cut, ints_upd, ints_rep, ints_splice, ints_seg, len_ints] at hp hR hA
  have hm := emod_in (x := (d 0).toInt) (n := 64) (by omega)
  have hm2 := emod_in (x := 119 - (d 0).toInt % 64) (n := 64) (by omega)
  have hz : iopI .rem .i64 (d 0).toInt 64 = (d 0).toInt % 64 := rem_emod .i64 (by omega)
  have hz2 : iopI .rem .i64 (119 - (d 0).toInt % 64) 64 = (119 - (d 0).toInt % 64) % 64 := rem_emod .i64 (by omega)
  refine ⟨tellA fillC_t0, _, _, _, tellA_ok (allTold'_iff.1 ?_), fillC_y0, dutiesTold_ok ?_⟩
  · simp only [fillC_t0, hz, hz2, allTold', dutiesTold, factsA, factsC, factsP, factsR, AV.facts, RW.facts, inK, and_true, Q.holds', E.i, E.s, E.n, D.nat, E.den, BO.den, UO.den, TO.den, D.toInt_int, D.toList_list, D.ints_ofInts, i64min, i64max, u8min, u8max, u16min, u16max, u32min, u32max, u64min, u64max, i32min, i32max, Om.sub, selI, ints_app, ints_cut, ints_upd, ints_rep, ints_splice, ints_seg, len_ints]
    omega
  · simp only [fillC_d0, F7, F17, hz, hz2, allTold', dutiesTold, factsA, factsC, factsP, factsR, AV.facts, RW.facts, inK, and_true, Q.holds', E.i, E.s, E.n, D.nat, E.den, BO.den, UO.den, TO.den, D.toInt_int, D.toList_list, D.ints_ofInts, i64min, i64max, u8min, u8max, u16min, u16max, u32min, u32max, u64min, u64max, i32min, i32max, Om.sub, selI, ints_app, ints_cut, ints_upd, ints_rep, ints_splice, ints_seg, len_ints]
    have hw : IntKind.u64.wrap (d 0).toInt = (d 0).toInt := wrap_fit (by simp only [u64min, u64max]; omega)
    have hw2 : iopI .mul .u64 (d 0).toInt 8 = (d 0).toInt * 8 := by
      show IntKind.u64.wrap ((d 0).toInt * 8) = _
      exact wrap_fit (by simp only [u64min, u64max]; omega)
    rw [hw, hw2, show ((119 - (d 0).toInt % 64) % 64 + 1).toNat = ((119 - (d 0).toInt % 64) % 64).toNat + 1 by omega, show ((119 - (d 0).toInt % 64) % 64 + 9).toNat = ((119 - (d 0).toInt % 64) % 64).toNat + 9 by omega, show Int.toNat 0 = 0 from rfl, fill_front]
    refine ⟨trivial, trivial, trivial, ?_⟩
    simp [fillI, byteI, ints_list, D.ofInts]

def bytesC : CSpec := { args := [.agg [vu32Dp (.var 0) 0, vu32Dp (.var 0) 1, vu32Dp (.var 0) 2, vu32Dp (.var 0) 3, vu32Dp (.var 0) 4, vu32Dp (.var 0) 5, vu32Dp (.var 0) 6, vu32Dp (.var 0) 7]], next := 0, rows := [], pre := [], res := .agg [.sint .u8 (.bi .sel (.fn 8 (argsE [.var 0])) (.int 0)), .sint .u8 (.bi .sel (.fn 8 (argsE [.var 0])) (.int 1)), .sint .u8 (.bi .sel (.fn 8 (argsE [.var 0])) (.int 2)), .sint .u8 (.bi .sel (.fn 8 (argsE [.var 0])) (.int 3)), .sint .u8 (.bi .sel (.fn 8 (argsE [.var 0])) (.int 4)), .sint .u8 (.bi .sel (.fn 8 (argsE [.var 0])) (.int 5)), .sint .u8 (.bi .sel (.fn 8 (argsE [.var 0])) (.int 6)), .sint .u8 (.bi .sel (.fn 8 (argsE [.var 0])) (.int 7)), .sint .u8 (.bi .sel (.fn 8 (argsE [.var 0])) (.int 8)), .sint .u8 (.bi .sel (.fn 8 (argsE [.var 0])) (.int 9)), .sint .u8 (.bi .sel (.fn 8 (argsE [.var 0])) (.int 10)), .sint .u8 (.bi .sel (.fn 8 (argsE [.var 0])) (.int 11)), .sint .u8 (.bi .sel (.fn 8 (argsE [.var 0])) (.int 12)), .sint .u8 (.bi .sel (.fn 8 (argsE [.var 0])) (.int 13)), .sint .u8 (.bi .sel (.fn 8 (argsE [.var 0])) (.int 14)), .sint .u8 (.bi .sel (.fn 8 (argsE [.var 0])) (.int 15)), .sint .u8 (.bi .sel (.fn 8 (argsE [.var 0])) (.int 16)), .sint .u8 (.bi .sel (.fn 8 (argsE [.var 0])) (.int 17)), .sint .u8 (.bi .sel (.fn 8 (argsE [.var 0])) (.int 18)), .sint .u8 (.bi .sel (.fn 8 (argsE [.var 0])) (.int 19)), .sint .u8 (.bi .sel (.fn 8 (argsE [.var 0])) (.int 20)), .sint .u8 (.bi .sel (.fn 8 (argsE [.var 0])) (.int 21)), .sint .u8 (.bi .sel (.fn 8 (argsE [.var 0])) (.int 22)), .sint .u8 (.bi .sel (.fn 8 (argsE [.var 0])) (.int 23)), .sint .u8 (.bi .sel (.fn 8 (argsE [.var 0])) (.int 24)), .sint .u8 (.bi .sel (.fn 8 (argsE [.var 0])) (.int 25)), .sint .u8 (.bi .sel (.fn 8 (argsE [.var 0])) (.int 26)), .sint .u8 (.bi .sel (.fn 8 (argsE [.var 0])) (.int 27)), .sint .u8 (.bi .sel (.fn 8 (argsE [.var 0])) (.int 28)), .sint .u8 (.bi .sel (.fn 8 (argsE [.var 0])) (.int 29)), .sint .u8 (.bi .sel (.fn 8 (argsE [.var 0])) (.int 30)), .sint .u8 (.bi .sel (.fn 8 (argsE [.var 0])) (.int 31))], frows := [], same := [] }
def bytesC_t0 : List (Q × Bool) := []
def bytesC_d0 : List Duty := [(true, (.un (.wrap .u8) (.bi (.iop .shr .u32) (.bi .sel (.var 0) (.int 0)) (.int 24))), (.bi .sel (.fn 8 (.bi .pair (.var 0) (.int 0))) (.int 0))), (true, (.un (.wrap .u8) (.bi (.iop .shr .u32) (.bi .sel (.var 0) (.int 0)) (.int 16))), (.bi .sel (.fn 8 (.bi .pair (.var 0) (.int 0))) (.int 1))), (true, (.un (.wrap .u8) (.bi (.iop .shr .u32) (.bi .sel (.var 0) (.int 0)) (.int 8))), (.bi .sel (.fn 8 (.bi .pair (.var 0) (.int 0))) (.int 2))), (true, (.un (.wrap .u8) (.bi (.iop .shr .u32) (.bi .sel (.var 0) (.int 0)) (.int 0))), (.bi .sel (.fn 8 (.bi .pair (.var 0) (.int 0))) (.int 3))), (true, (.un (.wrap .u8) (.bi (.iop .shr .u32) (.bi .sel (.var 0) (.int 1)) (.int 24))), (.bi .sel (.fn 8 (.bi .pair (.var 0) (.int 0))) (.int 4))), (true, (.un (.wrap .u8) (.bi (.iop .shr .u32) (.bi .sel (.var 0) (.int 1)) (.int 16))), (.bi .sel (.fn 8 (.bi .pair (.var 0) (.int 0))) (.int 5))), (true, (.un (.wrap .u8) (.bi (.iop .shr .u32) (.bi .sel (.var 0) (.int 1)) (.int 8))), (.bi .sel (.fn 8 (.bi .pair (.var 0) (.int 0))) (.int 6))), (true, (.un (.wrap .u8) (.bi (.iop .shr .u32) (.bi .sel (.var 0) (.int 1)) (.int 0))), (.bi .sel (.fn 8 (.bi .pair (.var 0) (.int 0))) (.int 7))), (true, (.un (.wrap .u8) (.bi (.iop .shr .u32) (.bi .sel (.var 0) (.int 2)) (.int 24))), (.bi .sel (.fn 8 (.bi .pair (.var 0) (.int 0))) (.int 8))), (true, (.un (.wrap .u8) (.bi (.iop .shr .u32) (.bi .sel (.var 0) (.int 2)) (.int 16))), (.bi .sel (.fn 8 (.bi .pair (.var 0) (.int 0))) (.int 9))), (true, (.un (.wrap .u8) (.bi (.iop .shr .u32) (.bi .sel (.var 0) (.int 2)) (.int 8))), (.bi .sel (.fn 8 (.bi .pair (.var 0) (.int 0))) (.int 10))), (true, (.un (.wrap .u8) (.bi (.iop .shr .u32) (.bi .sel (.var 0) (.int 2)) (.int 0))), (.bi .sel (.fn 8 (.bi .pair (.var 0) (.int 0))) (.int 11))), (true, (.un (.wrap .u8) (.bi (.iop .shr .u32) (.bi .sel (.var 0) (.int 3)) (.int 24))), (.bi .sel (.fn 8 (.bi .pair (.var 0) (.int 0))) (.int 12))), (true, (.un (.wrap .u8) (.bi (.iop .shr .u32) (.bi .sel (.var 0) (.int 3)) (.int 16))), (.bi .sel (.fn 8 (.bi .pair (.var 0) (.int 0))) (.int 13))), (true, (.un (.wrap .u8) (.bi (.iop .shr .u32) (.bi .sel (.var 0) (.int 3)) (.int 8))), (.bi .sel (.fn 8 (.bi .pair (.var 0) (.int 0))) (.int 14))), (true, (.un (.wrap .u8) (.bi (.iop .shr .u32) (.bi .sel (.var 0) (.int 3)) (.int 0))), (.bi .sel (.fn 8 (.bi .pair (.var 0) (.int 0))) (.int 15))), (true, (.un (.wrap .u8) (.bi (.iop .shr .u32) (.bi .sel (.var 0) (.int 4)) (.int 24))), (.bi .sel (.fn 8 (.bi .pair (.var 0) (.int 0))) (.int 16))), (true, (.un (.wrap .u8) (.bi (.iop .shr .u32) (.bi .sel (.var 0) (.int 4)) (.int 16))), (.bi .sel (.fn 8 (.bi .pair (.var 0) (.int 0))) (.int 17))), (true, (.un (.wrap .u8) (.bi (.iop .shr .u32) (.bi .sel (.var 0) (.int 4)) (.int 8))), (.bi .sel (.fn 8 (.bi .pair (.var 0) (.int 0))) (.int 18))), (true, (.un (.wrap .u8) (.bi (.iop .shr .u32) (.bi .sel (.var 0) (.int 4)) (.int 0))), (.bi .sel (.fn 8 (.bi .pair (.var 0) (.int 0))) (.int 19))), (true, (.un (.wrap .u8) (.bi (.iop .shr .u32) (.bi .sel (.var 0) (.int 5)) (.int 24))), (.bi .sel (.fn 8 (.bi .pair (.var 0) (.int 0))) (.int 20))), (true, (.un (.wrap .u8) (.bi (.iop .shr .u32) (.bi .sel (.var 0) (.int 5)) (.int 16))), (.bi .sel (.fn 8 (.bi .pair (.var 0) (.int 0))) (.int 21))), (true, (.un (.wrap .u8) (.bi (.iop .shr .u32) (.bi .sel (.var 0) (.int 5)) (.int 8))), (.bi .sel (.fn 8 (.bi .pair (.var 0) (.int 0))) (.int 22))), (true, (.un (.wrap .u8) (.bi (.iop .shr .u32) (.bi .sel (.var 0) (.int 5)) (.int 0))), (.bi .sel (.fn 8 (.bi .pair (.var 0) (.int 0))) (.int 23))), (true, (.un (.wrap .u8) (.bi (.iop .shr .u32) (.bi .sel (.var 0) (.int 6)) (.int 24))), (.bi .sel (.fn 8 (.bi .pair (.var 0) (.int 0))) (.int 24))), (true, (.un (.wrap .u8) (.bi (.iop .shr .u32) (.bi .sel (.var 0) (.int 6)) (.int 16))), (.bi .sel (.fn 8 (.bi .pair (.var 0) (.int 0))) (.int 25))), (true, (.un (.wrap .u8) (.bi (.iop .shr .u32) (.bi .sel (.var 0) (.int 6)) (.int 8))), (.bi .sel (.fn 8 (.bi .pair (.var 0) (.int 0))) (.int 26))), (true, (.un (.wrap .u8) (.bi (.iop .shr .u32) (.bi .sel (.var 0) (.int 6)) (.int 0))), (.bi .sel (.fn 8 (.bi .pair (.var 0) (.int 0))) (.int 27))), (true, (.un (.wrap .u8) (.bi (.iop .shr .u32) (.bi .sel (.var 0) (.int 7)) (.int 24))), (.bi .sel (.fn 8 (.bi .pair (.var 0) (.int 0))) (.int 28))), (true, (.un (.wrap .u8) (.bi (.iop .shr .u32) (.bi .sel (.var 0) (.int 7)) (.int 16))), (.bi .sel (.fn 8 (.bi .pair (.var 0) (.int 0))) (.int 29))), (true, (.un (.wrap .u8) (.bi (.iop .shr .u32) (.bi .sel (.var 0) (.int 7)) (.int 8))), (.bi .sel (.fn 8 (.bi .pair (.var 0) (.int 0))) (.int 30))), (true, (.un (.wrap .u8) (.bi (.iop .shr .u32) (.bi .sel (.var 0) (.int 7)) (.int 0))), (.bi .sel (.fn 8 (.bi .pair (.var 0) (.int 0))) (.int 31)))]
theorem bytesC_y0 : endC bytesC [] 1000 (callC Tryd.prog (tellA bytesC_t0) [] [] [] 3000 40 24 bytesC) = some bytesC_d0 := by kernel_rfl
theorem bytesC_holds : CHolds Tryd.prog 24 bytesC F := by
  refine cholds_of sound (tableNil _ _) (specsNil _ _) (oversNil _ _) (fuel := 3000) (depth := 40) (by kernel_rfl) fun d hp hR hA => ?_
  have hp := allTold'_iff.2 hp
  simp only [bytesC, allTold', dutiesTold, factsA, factsC, factsP, factsR, AV.facts, RW.facts, inK, and_true, Q.holds', E.i, E.s, E.n, D.nat, E.den, BO.den, UO.den, TO.den, D.toInt_int, D.toList_list, D.ints_ofInts, i64min, i64max, u8min, u8max, u16min, u16max, u32min, u32max, u64min, u64max, i32min, i32max, Om.sub, selI, ints_app, ints_cut, ints_upd, ints_rep, ints_splice, ints_seg, len_ints] at hp hR hA
  refine ⟨tellA bytesC_t0, _, _, _, tellA_ok (allTold'_iff.1 ?_), bytesC_y0, dutiesTold_ok ?_⟩
  · simp only [bytesC_t0, allTold', dutiesTold, factsA, factsC, factsP, factsR, AV.facts, RW.facts, inK, and_true, Q.holds', E.i, E.s, E.n, D.nat, E.den, BO.den, UO.den, TO.den, D.toInt_int, D.toList_list, D.ints_ofInts, i64min, i64max, u8min, u8max, u16min, u16max, u32min, u32max, u64min, u64max, i32min, i32max, Om.sub, selI, ints_app, ints_cut, ints_upd, ints_rep, ints_splice, ints_seg, len_ints]
  · simp only [bytesC_d0, F8, allTold', dutiesTold, factsA, factsC, factsP, factsR, AV.facts, RW.facts, inK, and_true, Q.holds', E.i, E.s, E.n, D.nat, E.den, BO.den, UO.den, TO.den, D.toInt_int, D.toList_list, D.ints_ofInts, i64min, i64max, u8min, u8max, u16min, u16max, u32min, u32max, u64min, u64max, i32min, i32max, Om.sub, selI, ints_app, ints_cut, ints_upd, ints_rep, ints_splice, ints_seg, len_ints]
    and_intros <;> rfl

end Go.Proofs.YtfphohneafeleaaDoor.Dp
