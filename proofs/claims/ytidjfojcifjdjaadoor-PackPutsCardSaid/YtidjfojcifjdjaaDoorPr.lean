/-
 Contracts of this seat: what loops and calls leave, for all inputs. No condition.
-/
import Derived.Test.YtidjfojcifjdjaaDoorSycp
import Derived.Test.YtidjfojcifjdjaaDoorCo
import Derived.Test.YtidjfojcifjdjaaDoorP0
import Derived.Test.YtidjfojcifjdjaaDoorPa
set_option linter.unusedSimpArgs false
set_option linter.unusedVariables false
namespace Go.Proofs.YtidjfojcifjdjaaDoor.Pr
open Go.RowKit Go.Ev Go.Proofs.YtidjfojcifjdjaaDoor.Co

open Go.Proofs.YtidjfojcifjdjaaDoor.P0
open Go.Proofs.YtidjfojcifjdjaaDoor.Pa

def rotS (n m x : Int) : Int := iopI .or .u32 (iopI .shr .u32 x n) (iopI .shl .u32 x m)
theorem rot_eq (n m x : Int) : rotI n m x = rotS n m x := (or_turn x n m).symm
theorem spr_step2 (i : Int) (w : List Int) (h : i < 64) : spr (64 - i).toNat i w = spr (64 - (i + 1)).toNat (i + 1) (w.set i.toNat (
 addI (addI (addI (getI w (i + -16)) (xorI (xorI (rotS 7 25 (getI w (i + -15))) (rotS 18 14 (getI w (i + -15)))) (iopI .shr .u32 (getI w (i + -15)) 3))) (getI w (i + -7)))
  (xorI (xorI (rotS 17 15 (getI w (i + -2))) (rotS 19 13 (getI w (i + -2)))) (iopI .shr .u32 (getI w (i + -2)) 10)))) := by
 rw [spr_step i w h]
 simp only [spW, rot_eq]
def tS (s : S8) (k w : Int) : Int := addI (addI (addI (addI s.h (xorI (xorI (rotS 6 26 s.e) (rotS 11 21 s.e)) (rotS 25 7 s.e))) (xorI (andI s.e s.f) (andI (xorI 4294967295 s.e) s.g))) k) w
def uS (s : S8) : Int := addI (xorI (xorI (rotS 2 30 s.a) (rotS 13 19 s.a)) (rotS 22 10 s.a)) (xorI (xorI (andI s.a s.b) (andI s.a s.c)) (andI s.b s.c))
theorem t_eq (s : S8) (k w : Int) : tI s k w = tS s k w := by simp only [tI, tS, rot_eq]
theorem u_eq (s : S8) : uI s = uS s := by simp only [uI, uS, rot_eq]
theorem mixN_step2 (i : Int) (w : List Int) (s : S8) (h : i < 64) : mixN w (64 - i).toNat i s = mixN w (64 - (i + 1)).toNat (i + 1) ⟨addI (tS s (getI addedL i) (getI w i)) (uS s), s.a, s.b, s.c, addI s.d (tS s (getI addedL i) (getI w i)), s.e, s.f, s.g⟩ := by
 rw [mixN_step i w s h]
 simp only [mixS, t_eq, u_eq]
theorem prt_get {x : List Int} {o : Int} (h0 : 0 ≤ o) (n : Nat) (h : n < 64) : ((prt x o (o + 64))[n]?).getD 0 = (x[(o + (n : Int)).toNat]?).getD 0 := by
 unfold prt
 rw [List.getElem?_drop, List.getElem?_take, if_pos (by omega)]
 congr 2
 omega

theorem blk_prt {S X : List Int} {p n : Int} (h0 : 0 ≤ p) (h1 : p + 64 ≤ n) (h2 : n ≤ X.length) : blkI (mix3 S (prt X p (p + 64))) (prt X (p + 64) n) = blkI S (prt X p n) := by
 have hl := prt_length (x := X) (o := p) (t := p + 64) h0 (by omega) (by omega)
 have e := prt_app (x := X) (o := p) (m := p + 64) (t := n) h0 (by omega) h1 h2
 rw [e]
 rw [blk_step (r := prt X p (p + 64) ++ prt X (p + 64) n) (by rw [List.length_append]; omega), List.take_append_of_le_length (by omega), List.take_of_length_le (by omega), List.drop_append_of_le_length (by omega), List.drop_of_length_le (by omega), List.nil_append]

theorem blk_sum {X : List Int} {o l : Int} (h0 : 0 ≤ o) (h1 : 0 ≤ l) (h2 : o + l ≤ X.length) :
  blkI firstL (prt (prt X o (o + l) ++ fillI l) 0 (l + ((119 - l % 64) % 64 + 9))) = (takeI (takeI zeroK (prt X o (o + l))) (fillI (takeI zeroK (prt X o (o + l))).z)).s := by
 have hl := prt_length (x := X) (o := o) (t := o + l) h0 (by omega) h2
 have hf := fill_len l
 have hz : (takeI zeroK (prt X o (o + l))).z = l := by
  rw [take_z]
  show (0 : Int) + _ = _
  omega
 rw [hz, prt_all (by rw [List.length_append]; omega), ← take_app _ _ _ _ (Nat.le_refl _) (by rfl)]
 have hm := emod_in (x := 119 - l % 64) (n := 64) (by omega)
 exact (blk_take _ firstL (List.replicate 64 0) 0 _ (Nat.le_refl _) (by simp) rfl (by rw [List.length_append]; omega)).symm

abbrev dqPr (a b : E) (j : Int) : Duty := (true, .bi .sel a (.int j), .bi .sel b (.int j))
abbrev vu32Pr (a : E) (j : Int) : AV := .sint .u32 (.bi .sel a (.int j))
abbrev zPr85 : E := (.bi .add (.var 1) (.int 1))
abbrev txPr0 : E := (.bi .sel (.var 5) zPr85)
abbrev zPr86 : E := (.bi .add (.var 1) (.int 2))
abbrev txPr1 : E := (.bi .sel (.var 5) zPr86)
abbrev zPr87 : E := (.bi .add (.var 1) (.int 3))
abbrev txPr2 : E := (.bi .sel (.var 5) zPr87)
abbrev zPr88 : E := (.bi .add (.var 1) (.int 4))
abbrev txPr3 : E := (.bi .sel (.var 5) zPr88)
abbrev zPr89 : E := (.bi .add (.var 1) (.int 5))
abbrev txPr4 : E := (.bi .sel (.var 5) zPr89)
abbrev zPr90 : E := (.bi .add (.var 1) (.int 6))
abbrev txPr5 : E := (.bi .sel (.var 5) zPr90)
abbrev zPr91 : E := (.bi .add (.var 1) (.int 7))
abbrev txPr6 : E := (.bi .sel (.var 5) zPr91)
abbrev zPr92 : E := (.bi .add (.var 1) (.int 8))
abbrev txPr7 : E := (.bi .sel (.var 5) zPr92)
abbrev zPr93 : E := (.bi .add (.var 1) (.int 9))
abbrev txPr8 : E := (.bi .sel (.var 5) zPr93)
abbrev zPr31 : E := (.bi .add (.var 1) (.int 10))
abbrev txPr9 : E := (.bi .sel (.var 5) zPr31)
abbrev zPr32 : E := (.bi .add (.var 1) (.int 11))
abbrev txPr10 : E := (.bi .sel (.var 5) zPr32)
abbrev zPr33 : E := (.bi .add (.var 1) (.int 12))
abbrev txPr11 : E := (.bi .sel (.var 5) zPr33)
abbrev zPr34 : E := (.bi .add (.var 1) (.int 13))
abbrev txPr12 : E := (.bi .sel (.var 5) zPr34)
abbrev zPr35 : E := (.bi .add (.var 1) (.int 14))
abbrev txPr13 : E := (.bi .sel (.var 5) zPr35)
abbrev zPr36 : E := (.bi .add (.var 1) (.int 15))
abbrev txPr14 : E := (.bi .sel (.var 5) zPr36)
abbrev zPr37 : E := (.bi .add (.var 1) (.int 16))
abbrev txPr15 : E := (.bi .sel (.var 5) zPr37)
abbrev zPr38 : E := (.bi .add (.var 1) (.int 17))
abbrev txPr16 : E := (.bi .sel (.var 5) zPr38)
abbrev zPr39 : E := (.bi .add (.var 1) (.int 18))
abbrev txPr17 : E := (.bi .sel (.var 5) zPr39)
abbrev zPr40 : E := (.bi .add (.var 1) (.int 19))
abbrev txPr18 : E := (.bi .sel (.var 5) zPr40)
abbrev zPr41 : E := (.bi .add (.var 1) (.int 20))
abbrev txPr19 : E := (.bi .sel (.var 5) zPr41)
abbrev zPr42 : E := (.bi .add (.var 1) (.int 21))
abbrev txPr20 : E := (.bi .sel (.var 5) zPr42)
abbrev zPr43 : E := (.bi .add (.var 1) (.int 22))
abbrev txPr21 : E := (.bi .sel (.var 5) zPr43)
abbrev zPr44 : E := (.bi .add (.var 1) (.int 23))
abbrev txPr22 : E := (.bi .sel (.var 5) zPr44)
abbrev zPr45 : E := (.bi .add (.var 1) (.int 24))
abbrev txPr23 : E := (.bi .sel (.var 5) zPr45)
abbrev zPr46 : E := (.bi .add (.var 1) (.int 25))
abbrev txPr24 : E := (.bi .sel (.var 5) zPr46)
abbrev zPr47 : E := (.bi .add (.var 1) (.int 26))
abbrev txPr25 : E := (.bi .sel (.var 5) zPr47)
abbrev zPr48 : E := (.bi .add (.var 1) (.int 27))
abbrev txPr26 : E := (.bi .sel (.var 5) zPr48)
abbrev zPr49 : E := (.bi .add (.var 1) (.int 28))
abbrev txPr27 : E := (.bi .sel (.var 5) zPr49)
abbrev zPr50 : E := (.bi .add (.var 1) (.int 29))
abbrev txPr28 : E := (.bi .sel (.var 5) zPr50)
abbrev zPr51 : E := (.bi .add (.var 1) (.int 30))
abbrev txPr29 : E := (.bi .sel (.var 5) zPr51)
abbrev zPr52 : E := (.bi .add (.var 1) (.int 31))
abbrev txPr30 : E := (.bi .sel (.var 5) zPr52)
abbrev zPr53 : E := (.bi .add (.var 1) (.int 32))
abbrev txPr31 : E := (.bi .sel (.var 5) zPr53)
abbrev zPr54 : E := (.bi .add (.var 1) (.int 33))
abbrev txPr32 : E := (.bi .sel (.var 5) zPr54)
abbrev zPr55 : E := (.bi .add (.var 1) (.int 34))
abbrev txPr33 : E := (.bi .sel (.var 5) zPr55)
abbrev zPr56 : E := (.bi .add (.var 1) (.int 35))
abbrev txPr34 : E := (.bi .sel (.var 5) zPr56)
abbrev zPr57 : E := (.bi .add (.var 1) (.int 36))
abbrev txPr35 : E := (.bi .sel (.var 5) zPr57)
abbrev zPr58 : E := (.bi .add (.var 1) (.int 37))
abbrev txPr36 : E := (.bi .sel (.var 5) zPr58)
abbrev zPr59 : E := (.bi .add (.var 1) (.int 38))
abbrev txPr37 : E := (.bi .sel (.var 5) zPr59)
abbrev zPr60 : E := (.bi .add (.var 1) (.int 39))
abbrev txPr38 : E := (.bi .sel (.var 5) zPr60)
abbrev zPr61 : E := (.bi .add (.var 1) (.int 40))
abbrev txPr39 : E := (.bi .sel (.var 5) zPr61)
abbrev zPr62 : E := (.bi .add (.var 1) (.int 41))
abbrev txPr40 : E := (.bi .sel (.var 5) zPr62)
abbrev zPr63 : E := (.bi .add (.var 1) (.int 42))
abbrev txPr41 : E := (.bi .sel (.var 5) zPr63)
abbrev zPr64 : E := (.bi .add (.var 1) (.int 43))
abbrev txPr42 : E := (.bi .sel (.var 5) zPr64)
abbrev zPr65 : E := (.bi .add (.var 1) (.int 44))
abbrev txPr43 : E := (.bi .sel (.var 5) zPr65)
abbrev zPr66 : E := (.bi .add (.var 1) (.int 45))
abbrev txPr44 : E := (.bi .sel (.var 5) zPr66)
abbrev zPr67 : E := (.bi .add (.var 1) (.int 46))
abbrev txPr45 : E := (.bi .sel (.var 5) zPr67)
abbrev zPr68 : E := (.bi .add (.var 1) (.int 47))
abbrev txPr46 : E := (.bi .sel (.var 5) zPr68)
abbrev zPr69 : E := (.bi .add (.var 1) (.int 48))
abbrev txPr47 : E := (.bi .sel (.var 5) zPr69)
abbrev zPr70 : E := (.bi .add (.var 1) (.int 49))
abbrev txPr48 : E := (.bi .sel (.var 5) zPr70)
abbrev zPr71 : E := (.bi .add (.var 1) (.int 50))
abbrev txPr49 : E := (.bi .sel (.var 5) zPr71)
abbrev zPr72 : E := (.bi .add (.var 1) (.int 51))
abbrev txPr50 : E := (.bi .sel (.var 5) zPr72)
abbrev zPr73 : E := (.bi .add (.var 1) (.int 52))
abbrev txPr51 : E := (.bi .sel (.var 5) zPr73)
abbrev zPr74 : E := (.bi .add (.var 1) (.int 53))
abbrev txPr52 : E := (.bi .sel (.var 5) zPr74)
abbrev zPr75 : E := (.bi .add (.var 1) (.int 54))
abbrev txPr53 : E := (.bi .sel (.var 5) zPr75)
abbrev zPr76 : E := (.bi .add (.var 1) (.int 55))
abbrev txPr54 : E := (.bi .sel (.var 5) zPr76)
abbrev zPr77 : E := (.bi .add (.var 1) (.int 56))
abbrev txPr55 : E := (.bi .sel (.var 5) zPr77)
abbrev zPr78 : E := (.bi .add (.var 1) (.int 57))
abbrev txPr56 : E := (.bi .sel (.var 5) zPr78)
abbrev zPr79 : E := (.bi .add (.var 1) (.int 58))
abbrev txPr57 : E := (.bi .sel (.var 5) zPr79)
abbrev zPr80 : E := (.bi .add (.var 1) (.int 59))
abbrev txPr58 : E := (.bi .sel (.var 5) zPr80)
abbrev zPr81 : E := (.bi .add (.var 1) (.int 60))
abbrev txPr59 : E := (.bi .sel (.var 5) zPr81)
abbrev zPr82 : E := (.bi .add (.var 1) (.int 61))
abbrev txPr60 : E := (.bi .sel (.var 5) zPr82)
abbrev zPr83 : E := (.bi .add (.var 1) (.int 62))
abbrev txPr61 : E := (.bi .sel (.var 5) zPr83)
abbrev zPr84 : E := (.bi .add (.var 1) (.int 63))
abbrev txPr62 : E := (.bi .sel (.var 5) zPr84)
abbrev txPr63 : E := (.bi (.iop .xor .u32) (.int 4294967295) (.var 5))
abbrev zPr5 : E := (.bi .add (.var 0) (.int 1))
abbrev txPr64 : E := (.bi .pair zPr5 (.int 0))
abbrev zPr21 : E := (.bi .add (.var 2) (.int 1))
abbrev txPr65 : E := (.bi .pair zPr21 (.int 0))
abbrev txPr66 : E := (.fn 20 (argsE [.var 1, .var 5, .var 0, .var 4]))
abbrev txPr67 : E := (.bi .pair (.var 0) (.bi .pair (.var 1) (.int 0)))
abbrev txPr68 : E := (.bi .pair (.var 5) (.bi .pair (.var 1) (.int 0)))
abbrev txPr69 : E := (.bi .pair (.var 7) (.bi .pair (.var 9) (.int 0)))
abbrev txPr70 : E := (.bi .pair (.var 8) (.bi .pair (.var 9) (.int 0)))
abbrev txPr71 : E := (.bi .pair (.var 1) (.bi .pair (.var 2) (.int 0)))
abbrev txPr72 : E := (.bi .pair (.var 5) (.bi .pair (.var 0) (.int 0)))
abbrev txPr73 : E := (.bi .pair (.var 0) (.bi .pair (.var 4) (.int 0)))
abbrev zPr26 : E := (.bi .add (.var 0) (.int (-7)))
abbrev txPr74 : E := (.bi .sel (.var 1) zPr26)
abbrev zPr25 : E := (.bi .add (.var 0) (.int (-2)))
abbrev txPr75 : E := (.bi .sel (.var 1) zPr25)
abbrev zPr23 : E := (.bi .add (.var 0) (.int (-16)))
abbrev txPr76 : E := (.bi .sel (.var 1) zPr23)
abbrev zPr22 : E := (.bi .add (.var 0) (.int (-15)))
abbrev txPr77 : E := (.bi .sel (.var 1) zPr22)
abbrev txPr78 : E := (.bi .add (.var 0) (.fn 18 (.bi .pair (.var 0) (.int 0))))
abbrev txPr79 : E := (.bi .add (.var 2) (.fn 17 (.bi .pair (.var 2) (.int 0))))
abbrev txPr80 : E := (.bi (.iop .shl .u32) (.bi .sel (.var 5) (.var 1)) (.int 24))
abbrev zPr11 : E := (.bi .add (.var 0) (.int 64))
abbrev txPr81 : E := (.bi .pair zPr11 (.bi .pair (.var 4) (.int 0)))
abbrev txPr82 : E := (.tr .seg (.fn 14 txPr68) (.int 0) (.int 64))
abbrev txPr83 : E := (.bi .pair (.var 5) (.bi .pair (.var 6) txPr69))
abbrev txPr84 : E := (.bi .pair (.var 6) (.bi .pair (.var 7) txPr70))
abbrev txPr85 : E := (.bi .pair (.var 1) (.bi .pair (.var 5) txPr73))
abbrev txPr86 : E := (.bi .add zPr5 (.fn 18 txPr64))
abbrev txPr87 : E := (.bi .add zPr21 (.fn 18 txPr65))
abbrev txPr88 : E := (.bi .pair (.int 0) (.bi .pair txPr79 (.int 0)))
abbrev zPr3 : E := (.bi .pair (.var 5) txPr71)
abbrev txPr89 : E := (.bi .sel (.fn 10 zPr3) (.int 0))
abbrev txPr90 : E := (.bi .sel (.fn 10 zPr3) (.int 1))
abbrev txPr91 : E := (.bi .sel (.fn 10 zPr3) (.int 2))
abbrev txPr92 : E := (.bi .sel (.fn 10 zPr3) (.int 3))
abbrev txPr93 : E := (.bi .sel (.fn 10 zPr3) (.int 4))
abbrev txPr94 : E := (.bi .sel (.fn 10 zPr3) (.int 5))
abbrev txPr95 : E := (.bi .sel (.fn 10 zPr3) (.int 6))
abbrev txPr96 : E := (.bi .sel (.fn 10 zPr3) (.int 7))
abbrev txPr97 : E := (.bi .sel (.fn 10 zPr3) (.int 8))
abbrev txPr98 : E := (.bi .sel (.fn 10 zPr3) (.int 9))
abbrev txPr99 : E := (.bi .sel (.fn 10 zPr3) (.int 10))
abbrev txPr100 : E := (.bi .sel (.fn 10 zPr3) (.int 11))
abbrev txPr101 : E := (.bi .sel (.fn 10 zPr3) (.int 12))
abbrev txPr102 : E := (.bi .sel (.fn 10 zPr3) (.int 13))
abbrev txPr103 : E := (.bi .sel (.fn 10 zPr3) (.int 14))
abbrev txPr104 : E := (.bi .sel (.fn 10 zPr3) (.int 15))
abbrev txPr105 : E := (.bi (.iop .or .u32) (.bi (.iop .shr .u32) (.var 5) (.int 6)) (.bi (.iop .shl .u32) (.var 5) (.int 26)))
abbrev txPr106 : E := (.bi (.iop .or .u32) (.bi (.iop .shr .u32) (.var 5) (.int 25)) (.bi (.iop .shl .u32) (.var 5) (.int 7)))
abbrev txPr107 : E := (.bi (.iop .or .u32) (.bi (.iop .shr .u32) (.var 1) (.int 2)) (.bi (.iop .shl .u32) (.var 1) (.int 30)))
abbrev txPr108 : E := (.bi (.iop .xor .u32) (.bi (.iop .and .u32) (.var 1) (.var 2)) (.bi (.iop .and .u32) (.var 1) (.var 3)))
abbrev txPr109 : E := (.bi (.iop .or .u32) (.bi (.iop .shr .u32) (.var 5) (.int 11)) (.bi (.iop .shl .u32) (.var 5) (.int 21)))
abbrev txPr110 : E := (.bi (.iop .or .u32) (.bi (.iop .shr .u32) (.var 1) (.int 13)) (.bi (.iop .shl .u32) (.var 1) (.int 19)))
abbrev txPr111 : E := (.bi (.iop .or .u32) (.bi (.iop .shr .u32) (.var 1) (.int 22)) (.bi (.iop .shl .u32) (.var 1) (.int 10)))
abbrev txPr112 : E := (.bi .pair (.var 4) (.bi .pair (.var 5) txPr84))
abbrev txPr113 : E := (.bi (.iop .xor .u32) (.bi (.iop .and .u32) (.var 5) (.var 6)) (.bi (.iop .and .u32) txPr63 (.var 7)))
abbrev txPr114 : E := (.bi .pair (.bi .sel (.var 0) (.int 7)) (.bi .pair txPr82 (.int 0)))
abbrev txPr115 : E := (.bi (.iop .or .u32) txPr80 (.bi (.iop .shl .u32) txPr0 (.int 16)))
abbrev txPr116 : E := (.bi (.iop .xor .u32) txPr108 (.bi (.iop .and .u32) (.var 2) (.var 3)))
abbrev txPr117 : E := (.bi .pair (.var 2) (.bi .pair (.var 3) txPr112))
abbrev txPr118 : E := (.bi (.iop .or .u32) (.bi (.iop .shl .u32) txPr3 (.int 24)) (.bi (.iop .shl .u32) txPr4 (.int 16)))
abbrev txPr119 : E := (.bi (.iop .or .u32) (.bi (.iop .shl .u32) txPr7 (.int 24)) (.bi (.iop .shl .u32) txPr8 (.int 16)))
abbrev zPr29 : E := (.fn 15 (.bi .pair (.var 1) txPr72))
abbrev txPr120 : E := (.bi .pair zPr29 (.bi .pair (.var 5) txPr81))
abbrev txPr121 : E := (.bi (.iop .or .u32) (.bi (.iop .shl .u32) txPr11 (.int 24)) (.bi (.iop .shl .u32) txPr12 (.int 16)))
abbrev txPr122 : E := (.bi (.iop .or .u32) (.bi (.iop .shl .u32) txPr15 (.int 24)) (.bi (.iop .shl .u32) txPr16 (.int 16)))
abbrev txPr123 : E := (.bi (.iop .or .u32) (.bi (.iop .shl .u32) txPr19 (.int 24)) (.bi (.iop .shl .u32) txPr20 (.int 16)))
abbrev txPr124 : E := (.bi (.iop .or .u32) (.bi (.iop .shl .u32) txPr23 (.int 24)) (.bi (.iop .shl .u32) txPr24 (.int 16)))
abbrev txPr125 : E := (.bi (.iop .or .u32) (.bi (.iop .shl .u32) txPr27 (.int 24)) (.bi (.iop .shl .u32) txPr28 (.int 16)))
abbrev txPr126 : E := (.bi (.iop .or .u32) (.bi (.iop .shl .u32) txPr31 (.int 24)) (.bi (.iop .shl .u32) txPr32 (.int 16)))
abbrev txPr127 : E := (.bi (.iop .or .u32) (.bi (.iop .shl .u32) txPr35 (.int 24)) (.bi (.iop .shl .u32) txPr36 (.int 16)))
abbrev txPr128 : E := (.bi (.iop .or .u32) (.bi (.iop .shl .u32) txPr39 (.int 24)) (.bi (.iop .shl .u32) txPr40 (.int 16)))
abbrev txPr129 : E := (.bi (.iop .or .u32) (.bi (.iop .shl .u32) txPr43 (.int 24)) (.bi (.iop .shl .u32) txPr44 (.int 16)))
abbrev txPr130 : E := (.bi (.iop .or .u32) (.bi (.iop .shl .u32) txPr47 (.int 24)) (.bi (.iop .shl .u32) txPr48 (.int 16)))
abbrev txPr131 : E := (.bi (.iop .or .u32) (.bi (.iop .shl .u32) txPr51 (.int 24)) (.bi (.iop .shl .u32) txPr52 (.int 16)))
abbrev txPr132 : E := (.bi (.iop .or .u32) (.bi (.iop .shl .u32) txPr55 (.int 24)) (.bi (.iop .shl .u32) txPr56 (.int 16)))
abbrev txPr133 : E := (.bi (.iop .or .u32) (.bi (.iop .shl .u32) txPr59 (.int 24)) (.bi (.iop .shl .u32) txPr60 (.int 16)))
abbrev txPr134 : E := (.bi (.iop .or .u32) (.bi (.iop .shr .u32) txPr75 (.int 17)) (.bi (.iop .shl .u32) txPr75 (.int 15)))
abbrev txPr135 : E := (.bi (.iop .or .u32) (.bi (.iop .shr .u32) txPr75 (.int 19)) (.bi (.iop .shl .u32) txPr75 (.int 13)))
abbrev txPr136 : E := (.bi (.iop .or .u32) (.bi (.iop .shr .u32) txPr77 (.int 7)) (.bi (.iop .shl .u32) txPr77 (.int 25)))
abbrev txPr137 : E := (.bi .pair (.bi .sel (.var 0) (.int 6)) txPr114)
abbrev txPr138 : E := (.bi (.iop .or .u32) (.bi (.iop .shr .u32) txPr77 (.int 18)) (.bi (.iop .shl .u32) txPr77 (.int 14)))
abbrev txPr139 : E := (.bi .pair (.fn 19 zPr3) txPr88)
abbrev txPr140 : E := (.bi .pair (.var 0) (.bi .pair (.var 1) txPr117))
abbrev txPr141 : E := (.bi .pair (.bi .sel (.var 0) (.int 5)) txPr137)
abbrev txPr142 : E := (.bi (.iop .or .u32) txPr115 (.bi (.iop .shl .u32) txPr1 (.int 8)))
abbrev txPr143 : E := (.bi .pair (.bi .sel (.var 0) (.int 4)) txPr141)
abbrev txPr144 : E := (.bi (.iop .or .u32) txPr118 (.bi (.iop .shl .u32) txPr5 (.int 8)))
abbrev txPr145 : E := (.bi (.iop .or .u32) txPr119 (.bi (.iop .shl .u32) txPr9 (.int 8)))
abbrev txPr146 : E := (.bi (.iop .or .u32) txPr121 (.bi (.iop .shl .u32) txPr13 (.int 8)))
abbrev txPr147 : E := (.bi (.iop .or .u32) txPr122 (.bi (.iop .shl .u32) txPr17 (.int 8)))
abbrev txPr148 : E := (.bi (.iop .or .u32) txPr123 (.bi (.iop .shl .u32) txPr21 (.int 8)))
abbrev txPr149 : E := (.bi (.iop .or .u32) txPr124 (.bi (.iop .shl .u32) txPr25 (.int 8)))
abbrev txPr150 : E := (.bi (.iop .or .u32) txPr125 (.bi (.iop .shl .u32) txPr29 (.int 8)))
abbrev txPr151 : E := (.bi (.iop .or .u32) txPr126 (.bi (.iop .shl .u32) txPr33 (.int 8)))
abbrev txPr152 : E := (.bi (.iop .or .u32) txPr127 (.bi (.iop .shl .u32) txPr37 (.int 8)))
abbrev txPr153 : E := (.bi (.iop .or .u32) txPr128 (.bi (.iop .shl .u32) txPr41 (.int 8)))
abbrev txPr154 : E := (.bi (.iop .or .u32) txPr129 (.bi (.iop .shl .u32) txPr45 (.int 8)))
abbrev txPr155 : E := (.bi (.iop .or .u32) txPr130 (.bi (.iop .shl .u32) txPr49 (.int 8)))
abbrev txPr156 : E := (.bi (.iop .or .u32) txPr131 (.bi (.iop .shl .u32) txPr53 (.int 8)))
abbrev txPr157 : E := (.bi (.iop .or .u32) txPr132 (.bi (.iop .shl .u32) txPr57 (.int 8)))
abbrev txPr158 : E := (.bi (.iop .or .u32) txPr133 (.bi (.iop .shl .u32) txPr61 (.int 8)))
abbrev txPr159 : E := (.bi .pair (.lits [1779033703, 3144134277, 1013904242, 2773480762, 1359893119, 2600822924, 528734635, 1541459225]) txPr139)
abbrev txPr160 : E := (.bi .pair (.bi .sel (.var 0) (.int 3)) txPr143)
abbrev txPr161 : E := (.un .one (.bi (.iop .or .u32) txPr142 txPr2))
abbrev txPr162 : E := (.bi .pair (.bi .sel (.var 0) (.int 2)) txPr160)
abbrev txPr163 : E := (.bi (.iop .xor .u32) (.bi (.iop .xor .u32) txPr105 txPr109) txPr106)
abbrev txPr164 : E := (.bi (.iop .xor .u32) (.bi (.iop .xor .u32) txPr107 txPr110) txPr111)
abbrev txPr165 : E := (.un .one (.bi (.iop .or .u32) txPr144 txPr6))
abbrev txPr166 : E := (.un .one (.bi (.iop .or .u32) txPr145 txPr10))
abbrev txPr167 : E := (.un .one (.bi (.iop .or .u32) txPr146 txPr14))
abbrev txPr168 : E := (.un .one (.bi (.iop .or .u32) txPr147 txPr18))
abbrev txPr169 : E := (.un .one (.bi (.iop .or .u32) txPr148 txPr22))
abbrev txPr170 : E := (.un .one (.bi (.iop .or .u32) txPr149 txPr26))
abbrev txPr171 : E := (.un .one (.bi (.iop .or .u32) txPr150 txPr30))
abbrev txPr172 : E := (.un .one (.bi (.iop .or .u32) txPr151 txPr34))
abbrev txPr173 : E := (.un .one (.bi (.iop .or .u32) txPr152 txPr38))
abbrev txPr174 : E := (.un .one (.bi (.iop .or .u32) txPr153 txPr42))
abbrev txPr175 : E := (.un .one (.bi (.iop .or .u32) txPr154 txPr46))
abbrev txPr176 : E := (.un .one (.bi (.iop .or .u32) txPr155 txPr50))
abbrev txPr177 : E := (.un .one (.bi (.iop .or .u32) txPr156 txPr54))
abbrev txPr178 : E := (.un .one (.bi (.iop .or .u32) txPr157 txPr58))
abbrev txPr179 : E := (.un .one (.bi (.iop .or .u32) txPr158 txPr62))
abbrev txPr180 : E := (.bi .pair (.bi .sel (.var 0) (.int 1)) txPr162)
abbrev txPr181 : E := (.bi .pair (.bi .sel (.var 0) (.int 0)) txPr180)
abbrev txPr182 : E := (.bi (.iop .xor .u32) (.bi (.iop .xor .u32) txPr134 txPr135) (.bi (.iop .shr .u32) txPr75 (.int 10)))
abbrev txPr183 : E := (.bi (.iop .xor .u32) (.bi (.iop .xor .u32) txPr136 txPr138) (.bi (.iop .shr .u32) txPr77 (.int 3)))
abbrev txPr184 : E := (.bi .app txPr179 (.lits [0, 0, 0, 0, 0, 0, 0, 0, 0, 0, 0, 0, 0, 0, 0, 0, 0, 0, 0, 0, 0, 0, 0, 0, 0, 0, 0, 0, 0, 0, 0, 0, 0, 0, 0, 0, 0, 0, 0, 0, 0, 0, 0, 0, 0, 0, 0, 0]))
abbrev txPr185 : E := (.bi (.iop .add .u32) (.bi (.iop .add .u32) (.var 8) txPr163) txPr113)
abbrev txPr186 : E := (.bi (.iop .add .u32) (.bi (.iop .add .u32) txPr76 txPr183) txPr74)
abbrev txPr187 : E := (.bi .sel (.lits [1116352408, 1899447441, 3049323471, 3921009573, 961987163, 1508970993, 2453635748, 2870763221, 3624381080, 310598401, 607225278, 1426881987, 1925078388, 2162078206, 2614888103, 3248222580, 3835390401, 4022224774, 264347078, 604807628, 770255983, 1249150122, 1555081692, 1996064986, 2554220882, 2821834349, 2952996808, 3210313671, 3336571891, 3584528711, 113926993, 338241895, 666307205, 773529912, 1294757372, 1396182291, 1695183700, 1986661051, 2177026350, 2456956037, 2730485921, 2820302411, 3259730800, 3345764771, 3516065817, 3600352804, 4094571909, 275423344, 430227734, 506948616, 659060556, 883997877, 958139571, 1322822218, 1537002063, 1747873779, 1955562222, 2024104815, 2227730452, 2361852424, 2428436474, 2756734187, 3204031479, 3329325298]) (.var 0))
abbrev txPr188 : E := (.tr .upd (.var 1) (.var 0) (.bi (.iop .add .u32) txPr186 txPr182))
abbrev txPr189 : E := (.bi .app txPr177 (.bi .app txPr178 txPr184))
abbrev txPr190 : E := (.bi (.iop .add .u32) (.bi (.iop .add .u32) txPr185 txPr187) (.bi .sel (.var 9) (.var 0)))
abbrev zPr28 : E := (.bi (.iop .add .u32) (.var 4) txPr190)
abbrev txPr191 : E := (.bi .pair zPr28 txPr83)
abbrev txPr192 : E := (.bi .pair (.var 2) (.bi .pair (.var 3) txPr191))
abbrev txPr193 : E := (.bi (.iop .add .u32) txPr190 (.bi (.iop .add .u32) txPr164 txPr116))
abbrev txPr194 : E := (.bi .app txPr175 (.bi .app txPr176 txPr189))
abbrev txPr195 : E := (.bi .app txPr173 (.bi .app txPr174 txPr194))
abbrev txPr196 : E := (.bi .app txPr171 (.bi .app txPr172 txPr195))
abbrev txPr197 : E := (.bi .pair txPr193 (.bi .pair (.var 1) txPr192))
abbrev txPr198 : E := (.bi .pair zPr5 txPr197)
abbrev txPr199 : E := (.bi .app txPr169 (.bi .app txPr170 txPr196))
abbrev txPr200 : E := (.bi .app txPr167 (.bi .app txPr168 txPr199))
abbrev txPr201 : E := (.bi .app txPr165 (.bi .app txPr166 txPr200))
abbrev zPr0 : E := (.fn 1 (.bi .pair (.int 16) (.bi .pair (.bi .app txPr161 txPr201) (.int 0))))
abbrev zPr1 : E := (.fn 14 (argsE [.var 5, .var 1]))
abbrev zPr2 : E := (.fn 10 (argsE [.var 5, .var 1, .var 2]))
abbrev zPr4 : E := (.fn 61 (argsE [.var 5, .var 1, .var 2]))
abbrev zPr6 : E := (.fn 15 (argsE [.var 0, .var 5, .var 1]))
abbrev zPr7 : E := (.fn 15 (.bi .pair (.var 0) txPr68))
abbrev zPr8 : E := (.bi .mul (.var 2) (.int 8))
abbrev zPr9 : E := (.bi .pair (.int 0) txPr181)
abbrev zPr10 : E := (.bi .add (.var 1) (.var 2))
abbrev zPr12 : Nat × RW := (3, .eseq ⟨.u8, .var 4, .var 5⟩)
abbrev zPr13 : E := (.bi .sel (.fn 20 txPr159) (.int 0))
abbrev zPr14 : E := (.bi .sel (.fn 20 txPr159) (.int 1))
abbrev zPr15 : E := (.bi .sel (.fn 20 txPr159) (.int 2))
abbrev zPr16 : E := (.bi .sel (.fn 20 txPr159) (.int 3))
abbrev zPr17 : E := (.bi .sel (.fn 20 txPr159) (.int 4))
abbrev zPr18 : E := (.bi .sel (.fn 20 txPr159) (.int 5))
abbrev zPr19 : E := (.bi .sel (.fn 20 txPr159) (.int 6))
abbrev zPr20 : E := (.bi .sel (.fn 20 txPr159) (.int 7))
abbrev zPr24 : E := (.bi .add (.var 0) (.fn 18 (argsE [.var 0])))
abbrev zPr27 : Duty := (true, (.bi .add txPr87 (.int 8)), txPr79)
abbrev zPr30 : E := (.bi .app (.var 1) (.lits [0]))
abbrev zPr94 : E := (.bi .add (.var 2) (.fn 17 (argsE [.var 2])))
def rsprL : LSpec := { n := 89, next := 1, pat := [(5, .sint .i64 (.var 0)), (3, .ptr 1 0)], rows := [(1, .seq ⟨96, .u32, .int 64, .var 1, false, false⟩)], pre := [(.le (.int 16) (.var 0), true), (.le (.var 0) (.int 64), true)], x := 2, fin := [(3, .ptr 1 0)], frows := [(1, .seq ⟨96, .u32, .int 64, .fn 1 (argsE [.var 0, .var 1]), false, false⟩)], same := [1], chg := [3, 5, 6, 7, 47, 48, 49, 50, 51, 52, 53, 54, 55, 56, 57, 58, 59, 60, 61, 62, 63, 64, 65, 66, 67, 68, 69, 70, 71, 72, 73, 74, 75, 76, 77, 78, 79, 80, 81, 82, 83, 84, 85, 86, 87] }
abbrev asPr0 : Q × Bool := ((.le (.int 64) (.var 0)), false)
abbrev asPr1 : Q × Bool := ((.fit .i64 zPr22), true)
abbrev asPr2 : Q × Bool := ((.le (.int 0) zPr22), true)
abbrev asPr3 : Q × Bool := ((.le (.int 64) zPr22), false)
abbrev asPr4 : Q × Bool := ((.fit .i64 zPr25), true)
abbrev asPr5 : Q × Bool := ((.le (.int 0) zPr25), true)
abbrev asPr6 : Q × Bool := ((.le (.int 64) zPr25), false)
abbrev asPr7 : Q × Bool := ((.fit .i64 zPr23), true)
abbrev asPr8 : Q × Bool := ((.le (.int 0) zPr23), true)
abbrev asPr9 : Q × Bool := ((.le (.int 64) zPr23), false)
abbrev asPr10 : Q × Bool := ((.fit .i64 zPr26), true)
abbrev asPr11 : Q × Bool := ((.le (.int 0) zPr26), true)
abbrev asPr12 : Q × Bool := ((.le (.int 64) zPr26), false)
abbrev asPr13 : Q × Bool := ((.le (.int 0) (.var 0)), true)
abbrev asPr14 : Q × Bool := ((.fit .i64 zPr5), true)
def rsprL_t0 : List (Q × Bool) := [asPr0, asPr1, asPr2, asPr3, asPr4, asPr5, asPr6, asPr7, asPr8, asPr9, asPr10, asPr11, asPr12, asPr13, asPr14]
def rsprL_d0 : List Duty := [(false, (.fn 1 (.bi .pair zPr5 (.bi .pair txPr188 (.int 0)))), (.fn 1 txPr67))]
def rsprL_h0 : List (Nat × E) := [(1, txPr188), (0, zPr5)]
theorem rsprL_h0_a : lookE rsprL_h0 0 = zPr5 ∧ lookE rsprL_h0 1 = txPr188 := ⟨rfl, rfl⟩
theorem rsprL_y0 : nextD rsprL rsprL_h0 [(1, 1)] (roundC Tryd.prog [] [] [] 3000 40 63 [4, 1, 0, 1, 1, 1] (tellA rsprL_t0) rsprL) = some rsprL_d0 := by kernel_rfl
abbrev asPr15 : Q × Bool := ((.le (.int 64) (.var 0)), true)
def rsprL_t1 : List (Q × Bool) := [asPr15]
def rsprL_d1 : List Duty := [(false, (.var 1), (.fn 1 txPr67))]
theorem rsprL_y1 : endD rsprL [(1, 1)] 1000 (roundC Tryd.prog [] [] [] 3000 40 63 [4, 1, 0, 1, 1, 1] (tellA rsprL_t1) rsprL) = some rsprL_d1 := by kernel_rfl
theorem rsprL_holds : LHolds Tryd.prog (loopAt Tryd.prog 63 [4, 1, 0, 1, 1, 1]) rsprL F := by
 refine loop_roundsC sound (tableNil _ _) (specsNil _ _) (oversNil _ _) (fuel := 3000) (depth := 40) (by kernel_rfl) (by kernel_rfl) (by kernel_rfl) (fun d => (64 - (d 0).toInt).toNat) fun d hp hR hA => ?_
 have hp := allTold'_iff.2 hp
 simp only [rsprL, tl] at hp hR hA
 by_cases h : 64 ≤ (d 0).toInt
 ·refine ⟨tellA rsprL_t1, tellA_ok (allTold'_iff.1 ?_), .inl ⟨_, _, _, rsprL_y1, dutiesTold_ok ?_⟩⟩
  ·simp only [rsprL_t1, tl]
   omega
  ·simp only [rsprL_d1, F1, tl]
   rw [show (64 - (d 0).toInt).toNat = 0 by omega]
   rfl
 ·refine ⟨tellA rsprL_t0, tellA_ok (allTold'_iff.1 ?_), .inr ⟨rsprL_h0, _, _, rsprL_y0, dutiesTold_ok ?_, allTold'_iff.1 ?_, ?_⟩⟩
  ·simp only [rsprL_t0, tl]
   omega
  ·simp only [rsprL_d0, F1, tl]
   rw [spr_step2 (d 0).toInt (d 1).ints (by omega)]
   rfl
  ·simp only [rsprL, rsprL_h0_a, tl]
   omega
  ·simp only [rsprL_h0_a, tl]
   omega

def wordsC : CSpec := { args := [.sslice 3 (.var 1) (.var 2) (.var 3) true], next := 2, rows := [zPr12], pre := [(.le zPr10 (.var 4), true), (.eq (.var 2) (.int 64), true)], res := .agg [.sint .u32 (.bi .sel zPr1 (.int 0)), .sint .u32 (.bi .sel zPr1 (.int 1)), .sint .u32 (.bi .sel zPr1 (.int 2)), .sint .u32 (.bi .sel zPr1 (.int 3)), .sint .u32 (.bi .sel zPr1 (.int 4)), .sint .u32 (.bi .sel zPr1 (.int 5)), .sint .u32 (.bi .sel zPr1 (.int 6)), .sint .u32 (.bi .sel zPr1 (.int 7)), .sint .u32 (.bi .sel zPr1 (.int 8)), .sint .u32 (.bi .sel zPr1 (.int 9)), .sint .u32 (.bi .sel zPr1 (.int 10)), .sint .u32 (.bi .sel zPr1 (.int 11)), .sint .u32 (.bi .sel zPr1 (.int 12)), .sint .u32 (.bi .sel zPr1 (.int 13)), .sint .u32 (.bi .sel zPr1 (.int 14)), .sint .u32 (.bi .sel zPr1 (.int 15)), .sint .u32 (.bi .sel zPr1 (.int 16)), .sint .u32 (.bi .sel zPr1 (.int 17)), .sint .u32 (.bi .sel zPr1 (.int 18)), .sint .u32 (.bi .sel zPr1 (.int 19)), .sint .u32 (.bi .sel zPr1 (.int 20)), .sint .u32 (.bi .sel zPr1 (.int 21)), .sint .u32 (.bi .sel zPr1 (.int 22)), .sint .u32 (.bi .sel zPr1 (.int 23)), .sint .u32 (.bi .sel zPr1 (.int 24)), .sint .u32 (.bi .sel zPr1 (.int 25)), .sint .u32 (.bi .sel zPr1 (.int 26)), .sint .u32 (.bi .sel zPr1 (.int 27)), .sint .u32 (.bi .sel zPr1 (.int 28)), .sint .u32 (.bi .sel zPr1 (.int 29)), .sint .u32 (.bi .sel zPr1 (.int 30)), .sint .u32 (.bi .sel zPr1 (.int 31)), .sint .u32 (.bi .sel zPr1 (.int 32)), .sint .u32 (.bi .sel zPr1 (.int 33)), .sint .u32 (.bi .sel zPr1 (.int 34)), .sint .u32 (.bi .sel zPr1 (.int 35)), .sint .u32 (.bi .sel zPr1 (.int 36)), .sint .u32 (.bi .sel zPr1 (.int 37)), .sint .u32 (.bi .sel zPr1 (.int 38)), .sint .u32 (.bi .sel zPr1 (.int 39)), .sint .u32 (.bi .sel zPr1 (.int 40)), .sint .u32 (.bi .sel zPr1 (.int 41)), .sint .u32 (.bi .sel zPr1 (.int 42)), .sint .u32 (.bi .sel zPr1 (.int 43)), .sint .u32 (.bi .sel zPr1 (.int 44)), .sint .u32 (.bi .sel zPr1 (.int 45)), .sint .u32 (.bi .sel zPr1 (.int 46)), .sint .u32 (.bi .sel zPr1 (.int 47)), .sint .u32 (.bi .sel zPr1 (.int 48)), .sint .u32 (.bi .sel zPr1 (.int 49)), .sint .u32 (.bi .sel zPr1 (.int 50)), .sint .u32 (.bi .sel zPr1 (.int 51)), .sint .u32 (.bi .sel zPr1 (.int 52)), .sint .u32 (.bi .sel zPr1 (.int 53)), .sint .u32 (.bi .sel zPr1 (.int 54)), .sint .u32 (.bi .sel zPr1 (.int 55)), .sint .u32 (.bi .sel zPr1 (.int 56)), .sint .u32 (.bi .sel zPr1 (.int 57)), .sint .u32 (.bi .sel zPr1 (.int 58)), .sint .u32 (.bi .sel zPr1 (.int 59)), .sint .u32 (.bi .sel zPr1 (.int 60)), .sint .u32 (.bi .sel zPr1 (.int 61)), .sint .u32 (.bi .sel zPr1 (.int 62)), .sint .u32 (.bi .sel zPr1 (.int 63))], frows := [], same := [] }
abbrev asPr16 : Q × Bool := ((.le (.var 2) (.int 0)), false)
abbrev asPr17 : Q × Bool := ((.le (.int 0) (.var 1)), true)
abbrev asPr18 : Q × Bool := ((.le (.var 4) (.var 1)), false)
abbrev asPr19 : Q × Bool := ((.le (.var 2) (.int 1)), false)
abbrev asPr20 : Q × Bool := ((.le (.int 0) zPr85), true)
abbrev asPr21 : Q × Bool := ((.le (.var 4) zPr85), false)
abbrev asPr22 : Q × Bool := ((.le (.var 2) (.int 2)), false)
abbrev asPr23 : Q × Bool := ((.le (.int 0) zPr86), true)
abbrev asPr24 : Q × Bool := ((.le (.var 4) zPr86), false)
abbrev asPr25 : Q × Bool := ((.le (.var 2) (.int 3)), false)
abbrev asPr26 : Q × Bool := ((.le (.int 0) zPr87), true)
abbrev asPr27 : Q × Bool := ((.le (.var 4) zPr87), false)
abbrev asPr28 : Q × Bool := ((.le (.var 2) (.int 4)), false)
abbrev asPr29 : Q × Bool := ((.le (.int 0) zPr88), true)
abbrev asPr30 : Q × Bool := ((.le (.var 4) zPr88), false)
abbrev asPr31 : Q × Bool := ((.le (.var 2) (.int 5)), false)
abbrev asPr32 : Q × Bool := ((.le (.int 0) zPr89), true)
abbrev asPr33 : Q × Bool := ((.le (.var 4) zPr89), false)
abbrev asPr34 : Q × Bool := ((.le (.var 2) (.int 6)), false)
abbrev asPr35 : Q × Bool := ((.le (.int 0) zPr90), true)
abbrev asPr36 : Q × Bool := ((.le (.var 4) zPr90), false)
abbrev asPr37 : Q × Bool := ((.le (.var 2) (.int 7)), false)
abbrev asPr38 : Q × Bool := ((.le (.int 0) zPr91), true)
abbrev asPr39 : Q × Bool := ((.le (.var 4) zPr91), false)
abbrev asPr40 : Q × Bool := ((.le (.var 2) (.int 8)), false)
abbrev asPr41 : Q × Bool := ((.le (.int 0) zPr92), true)
abbrev asPr42 : Q × Bool := ((.le (.var 4) zPr92), false)
abbrev asPr43 : Q × Bool := ((.le (.var 2) (.int 9)), false)
abbrev asPr44 : Q × Bool := ((.le (.int 0) zPr93), true)
abbrev asPr45 : Q × Bool := ((.le (.var 4) zPr93), false)
abbrev asPr46 : Q × Bool := ((.le (.var 2) (.int 10)), false)
abbrev asPr47 : Q × Bool := ((.le (.int 0) zPr31), true)
abbrev asPr48 : Q × Bool := ((.le (.var 4) zPr31), false)
abbrev asPr49 : Q × Bool := ((.le (.var 2) (.int 11)), false)
abbrev asPr50 : Q × Bool := ((.le (.int 0) zPr32), true)
abbrev asPr51 : Q × Bool := ((.le (.var 4) zPr32), false)
abbrev asPr52 : Q × Bool := ((.le (.var 2) (.int 12)), false)
abbrev asPr53 : Q × Bool := ((.le (.int 0) zPr33), true)
abbrev asPr54 : Q × Bool := ((.le (.var 4) zPr33), false)
abbrev asPr55 : Q × Bool := ((.le (.var 2) (.int 13)), false)
abbrev asPr56 : Q × Bool := ((.le (.int 0) zPr34), true)
abbrev asPr57 : Q × Bool := ((.le (.var 4) zPr34), false)
abbrev asPr58 : Q × Bool := ((.le (.var 2) (.int 14)), false)
abbrev asPr59 : Q × Bool := ((.le (.int 0) zPr35), true)
abbrev asPr60 : Q × Bool := ((.le (.var 4) zPr35), false)
abbrev asPr61 : Q × Bool := ((.le (.var 2) (.int 15)), false)
abbrev asPr62 : Q × Bool := ((.le (.int 0) zPr36), true)
abbrev asPr63 : Q × Bool := ((.le (.var 4) zPr36), false)
abbrev asPr64 : Q × Bool := ((.le (.var 2) (.int 16)), false)
abbrev asPr65 : Q × Bool := ((.le (.int 0) zPr37), true)
abbrev asPr66 : Q × Bool := ((.le (.var 4) zPr37), false)
abbrev asPr67 : Q × Bool := ((.le (.var 2) (.int 17)), false)
abbrev asPr68 : Q × Bool := ((.le (.int 0) zPr38), true)
abbrev asPr69 : Q × Bool := ((.le (.var 4) zPr38), false)
abbrev asPr70 : Q × Bool := ((.le (.var 2) (.int 18)), false)
abbrev asPr71 : Q × Bool := ((.le (.int 0) zPr39), true)
abbrev asPr72 : Q × Bool := ((.le (.var 4) zPr39), false)
abbrev asPr73 : Q × Bool := ((.le (.var 2) (.int 19)), false)
abbrev asPr74 : Q × Bool := ((.le (.int 0) zPr40), true)
abbrev asPr75 : Q × Bool := ((.le (.var 4) zPr40), false)
abbrev asPr76 : Q × Bool := ((.le (.var 2) (.int 20)), false)
abbrev asPr77 : Q × Bool := ((.le (.int 0) zPr41), true)
abbrev asPr78 : Q × Bool := ((.le (.var 4) zPr41), false)
abbrev asPr79 : Q × Bool := ((.le (.var 2) (.int 21)), false)
abbrev asPr80 : Q × Bool := ((.le (.int 0) zPr42), true)
abbrev asPr81 : Q × Bool := ((.le (.var 4) zPr42), false)
abbrev asPr82 : Q × Bool := ((.le (.var 2) (.int 22)), false)
abbrev asPr83 : Q × Bool := ((.le (.int 0) zPr43), true)
abbrev asPr84 : Q × Bool := ((.le (.var 4) zPr43), false)
abbrev asPr85 : Q × Bool := ((.le (.var 2) (.int 23)), false)
abbrev asPr86 : Q × Bool := ((.le (.int 0) zPr44), true)
abbrev asPr87 : Q × Bool := ((.le (.var 4) zPr44), false)
abbrev asPr88 : Q × Bool := ((.le (.var 2) (.int 24)), false)
abbrev asPr89 : Q × Bool := ((.le (.int 0) zPr45), true)
abbrev asPr90 : Q × Bool := ((.le (.var 4) zPr45), false)
abbrev asPr91 : Q × Bool := ((.le (.var 2) (.int 25)), false)
abbrev asPr92 : Q × Bool := ((.le (.int 0) zPr46), true)
abbrev asPr93 : Q × Bool := ((.le (.var 4) zPr46), false)
abbrev asPr94 : Q × Bool := ((.le (.var 2) (.int 26)), false)
abbrev asPr95 : Q × Bool := ((.le (.int 0) zPr47), true)
abbrev asPr96 : Q × Bool := ((.le (.var 4) zPr47), false)
abbrev asPr97 : Q × Bool := ((.le (.var 2) (.int 27)), false)
abbrev asPr98 : Q × Bool := ((.le (.int 0) zPr48), true)
abbrev asPr99 : Q × Bool := ((.le (.var 4) zPr48), false)
abbrev asPr100 : Q × Bool := ((.le (.var 2) (.int 28)), false)
abbrev asPr101 : Q × Bool := ((.le (.int 0) zPr49), true)
abbrev asPr102 : Q × Bool := ((.le (.var 4) zPr49), false)
abbrev asPr103 : Q × Bool := ((.le (.var 2) (.int 29)), false)
abbrev asPr104 : Q × Bool := ((.le (.int 0) zPr50), true)
abbrev asPr105 : Q × Bool := ((.le (.var 4) zPr50), false)
abbrev asPr106 : Q × Bool := ((.le (.var 2) (.int 30)), false)
abbrev asPr107 : Q × Bool := ((.le (.int 0) zPr51), true)
abbrev asPr108 : Q × Bool := ((.le (.var 4) zPr51), false)
abbrev asPr109 : Q × Bool := ((.le (.var 2) (.int 31)), false)
abbrev asPr110 : Q × Bool := ((.le (.int 0) zPr52), true)
abbrev asPr111 : Q × Bool := ((.le (.var 4) zPr52), false)
abbrev asPr112 : Q × Bool := ((.le (.var 2) (.int 32)), false)
abbrev asPr113 : Q × Bool := ((.le (.int 0) zPr53), true)
abbrev asPr114 : Q × Bool := ((.le (.var 4) zPr53), false)
abbrev asPr115 : Q × Bool := ((.le (.var 2) (.int 33)), false)
abbrev asPr116 : Q × Bool := ((.le (.int 0) zPr54), true)
abbrev asPr117 : Q × Bool := ((.le (.var 4) zPr54), false)
abbrev asPr118 : Q × Bool := ((.le (.var 2) (.int 34)), false)
abbrev asPr119 : Q × Bool := ((.le (.int 0) zPr55), true)
abbrev asPr120 : Q × Bool := ((.le (.var 4) zPr55), false)
abbrev asPr121 : Q × Bool := ((.le (.var 2) (.int 35)), false)
abbrev asPr122 : Q × Bool := ((.le (.int 0) zPr56), true)
abbrev asPr123 : Q × Bool := ((.le (.var 4) zPr56), false)
abbrev asPr124 : Q × Bool := ((.le (.var 2) (.int 36)), false)
abbrev asPr125 : Q × Bool := ((.le (.int 0) zPr57), true)
abbrev asPr126 : Q × Bool := ((.le (.var 4) zPr57), false)
abbrev asPr127 : Q × Bool := ((.le (.var 2) (.int 37)), false)
abbrev asPr128 : Q × Bool := ((.le (.int 0) zPr58), true)
abbrev asPr129 : Q × Bool := ((.le (.var 4) zPr58), false)
abbrev asPr130 : Q × Bool := ((.le (.var 2) (.int 38)), false)
abbrev asPr131 : Q × Bool := ((.le (.int 0) zPr59), true)
abbrev asPr132 : Q × Bool := ((.le (.var 4) zPr59), false)
abbrev asPr133 : Q × Bool := ((.le (.var 2) (.int 39)), false)
abbrev asPr134 : Q × Bool := ((.le (.int 0) zPr60), true)
abbrev asPr135 : Q × Bool := ((.le (.var 4) zPr60), false)
abbrev asPr136 : Q × Bool := ((.le (.var 2) (.int 40)), false)
abbrev asPr137 : Q × Bool := ((.le (.int 0) zPr61), true)
abbrev asPr138 : Q × Bool := ((.le (.var 4) zPr61), false)
abbrev asPr139 : Q × Bool := ((.le (.var 2) (.int 41)), false)
abbrev asPr140 : Q × Bool := ((.le (.int 0) zPr62), true)
abbrev asPr141 : Q × Bool := ((.le (.var 4) zPr62), false)
abbrev asPr142 : Q × Bool := ((.le (.var 2) (.int 42)), false)
abbrev asPr143 : Q × Bool := ((.le (.int 0) zPr63), true)
abbrev asPr144 : Q × Bool := ((.le (.var 4) zPr63), false)
abbrev asPr145 : Q × Bool := ((.le (.var 2) (.int 43)), false)
abbrev asPr146 : Q × Bool := ((.le (.int 0) zPr64), true)
abbrev asPr147 : Q × Bool := ((.le (.var 4) zPr64), false)
abbrev asPr148 : Q × Bool := ((.le (.var 2) (.int 44)), false)
abbrev asPr149 : Q × Bool := ((.le (.int 0) zPr65), true)
abbrev asPr150 : Q × Bool := ((.le (.var 4) zPr65), false)
abbrev asPr151 : Q × Bool := ((.le (.var 2) (.int 45)), false)
abbrev asPr152 : Q × Bool := ((.le (.int 0) zPr66), true)
abbrev asPr153 : Q × Bool := ((.le (.var 4) zPr66), false)
abbrev asPr154 : Q × Bool := ((.le (.var 2) (.int 46)), false)
abbrev asPr155 : Q × Bool := ((.le (.int 0) zPr67), true)
abbrev asPr156 : Q × Bool := ((.le (.var 4) zPr67), false)
abbrev asPr157 : Q × Bool := ((.le (.var 2) (.int 47)), false)
abbrev asPr158 : Q × Bool := ((.le (.int 0) zPr68), true)
abbrev asPr159 : Q × Bool := ((.le (.var 4) zPr68), false)
abbrev asPr160 : Q × Bool := ((.le (.var 2) (.int 48)), false)
abbrev asPr161 : Q × Bool := ((.le (.int 0) zPr69), true)
abbrev asPr162 : Q × Bool := ((.le (.var 4) zPr69), false)
abbrev asPr163 : Q × Bool := ((.le (.var 2) (.int 49)), false)
abbrev asPr164 : Q × Bool := ((.le (.int 0) zPr70), true)
abbrev asPr165 : Q × Bool := ((.le (.var 4) zPr70), false)
abbrev asPr166 : Q × Bool := ((.le (.var 2) (.int 50)), false)
abbrev asPr167 : Q × Bool := ((.le (.int 0) zPr71), true)
abbrev asPr168 : Q × Bool := ((.le (.var 4) zPr71), false)
abbrev asPr169 : Q × Bool := ((.le (.var 2) (.int 51)), false)
abbrev asPr170 : Q × Bool := ((.le (.int 0) zPr72), true)
abbrev asPr171 : Q × Bool := ((.le (.var 4) zPr72), false)
abbrev asPr172 : Q × Bool := ((.le (.var 2) (.int 52)), false)
abbrev asPr173 : Q × Bool := ((.le (.int 0) zPr73), true)
abbrev asPr174 : Q × Bool := ((.le (.var 4) zPr73), false)
abbrev asPr175 : Q × Bool := ((.le (.var 2) (.int 53)), false)
abbrev asPr176 : Q × Bool := ((.le (.int 0) zPr74), true)
abbrev asPr177 : Q × Bool := ((.le (.var 4) zPr74), false)
abbrev asPr178 : Q × Bool := ((.le (.var 2) (.int 54)), false)
abbrev asPr179 : Q × Bool := ((.le (.int 0) zPr75), true)
abbrev asPr180 : Q × Bool := ((.le (.var 4) zPr75), false)
abbrev asPr181 : Q × Bool := ((.le (.var 2) (.int 55)), false)
abbrev asPr182 : Q × Bool := ((.le (.int 0) zPr76), true)
abbrev asPr183 : Q × Bool := ((.le (.var 4) zPr76), false)
abbrev asPr184 : Q × Bool := ((.le (.var 2) (.int 56)), false)
abbrev asPr185 : Q × Bool := ((.le (.int 0) zPr77), true)
abbrev asPr186 : Q × Bool := ((.le (.var 4) zPr77), false)
abbrev asPr187 : Q × Bool := ((.le (.var 2) (.int 57)), false)
abbrev asPr188 : Q × Bool := ((.le (.int 0) zPr78), true)
abbrev asPr189 : Q × Bool := ((.le (.var 4) zPr78), false)
abbrev asPr190 : Q × Bool := ((.le (.var 2) (.int 58)), false)
abbrev asPr191 : Q × Bool := ((.le (.int 0) zPr79), true)
abbrev asPr192 : Q × Bool := ((.le (.var 4) zPr79), false)
abbrev asPr193 : Q × Bool := ((.le (.var 2) (.int 59)), false)
abbrev asPr194 : Q × Bool := ((.le (.int 0) zPr80), true)
abbrev asPr195 : Q × Bool := ((.le (.var 4) zPr80), false)
abbrev asPr196 : Q × Bool := ((.le (.var 2) (.int 60)), false)
abbrev asPr197 : Q × Bool := ((.le (.int 0) zPr81), true)
abbrev asPr198 : Q × Bool := ((.le (.var 4) zPr81), false)
abbrev asPr199 : Q × Bool := ((.le (.var 2) (.int 61)), false)
abbrev asPr200 : Q × Bool := ((.le (.int 0) zPr82), true)
abbrev asPr201 : Q × Bool := ((.le (.var 4) zPr82), false)
abbrev asPr202 : Q × Bool := ((.le (.var 2) (.int 62)), false)
abbrev asPr203 : Q × Bool := ((.le (.int 0) zPr83), true)
abbrev asPr204 : Q × Bool := ((.le (.var 4) zPr83), false)
abbrev asPr205 : Q × Bool := ((.le (.var 2) (.int 63)), false)
abbrev asPr206 : Q × Bool := ((.le (.int 0) zPr84), true)
abbrev asPr207 : Q × Bool := ((.le (.var 4) zPr84), false)
def wordsC_t0 : List (Q × Bool) := [asPr16, asPr17, asPr18, asPr19, asPr20, asPr21, asPr22, asPr23, asPr24, asPr25, asPr26, asPr27, asPr28, asPr29, asPr30, asPr31, asPr32, asPr33, asPr34, asPr35, asPr36, asPr37, asPr38, asPr39, asPr40, asPr41, asPr42, asPr43, asPr44, asPr45, asPr46, asPr47, asPr48, asPr49, asPr50, asPr51, asPr52, asPr53, asPr54, asPr55, asPr56, asPr57, asPr58, asPr59, asPr60, asPr61, asPr62, asPr63, asPr64, asPr65, asPr66, asPr67, asPr68, asPr69, asPr70, asPr71, asPr72, asPr73, asPr74, asPr75, asPr76, asPr77, asPr78, asPr79, asPr80, asPr81, asPr82, asPr83, asPr84, asPr85, asPr86, asPr87, asPr88, asPr89, asPr90, asPr91, asPr92, asPr93, asPr94, asPr95, asPr96, asPr97, asPr98, asPr99, asPr100, asPr101, asPr102, asPr103, asPr104, asPr105, asPr106, asPr107, asPr108, asPr109, asPr110, asPr111, asPr112, asPr113, asPr114, asPr115, asPr116, asPr117, asPr118, asPr119, asPr120, asPr121, asPr122, asPr123, asPr124, asPr125, asPr126, asPr127, asPr128, asPr129, asPr130, asPr131, asPr132, asPr133, asPr134, asPr135, asPr136, asPr137, asPr138, asPr139, asPr140, asPr141, asPr142, asPr143, asPr144, asPr145, asPr146, asPr147, asPr148, asPr149, asPr150, asPr151, asPr152, asPr153, asPr154, asPr155, asPr156, asPr157, asPr158, asPr159, asPr160, asPr161, asPr162, asPr163, asPr164, asPr165, asPr166, asPr167, asPr168, asPr169, asPr170, asPr171, asPr172, asPr173, asPr174, asPr175, asPr176, asPr177, asPr178, asPr179, asPr180, asPr181, asPr182, asPr183, asPr184, asPr185, asPr186, asPr187, asPr188, asPr189, asPr190, asPr191, asPr192, asPr193, asPr194, asPr195, asPr196, asPr197, asPr198, asPr199, asPr200, asPr201, asPr202, asPr203, asPr204, asPr205, asPr206, asPr207]
def wordsC_d0 : List Duty := [(true, (.bi .sel zPr0 (.int 0)), (.bi .sel (.fn 14 txPr68) (.int 0))), (true, (.bi .sel zPr0 (.int 1)), (.bi .sel (.fn 14 txPr68) (.int 1))), (true, (.bi .sel zPr0 (.int 2)), (.bi .sel (.fn 14 txPr68) (.int 2))), (true, (.bi .sel zPr0 (.int 3)), (.bi .sel (.fn 14 txPr68) (.int 3))), (true, (.bi .sel zPr0 (.int 4)), (.bi .sel (.fn 14 txPr68) (.int 4))), (true, (.bi .sel zPr0 (.int 5)), (.bi .sel (.fn 14 txPr68) (.int 5))), (true, (.bi .sel zPr0 (.int 6)), (.bi .sel (.fn 14 txPr68) (.int 6))), (true, (.bi .sel zPr0 (.int 7)), (.bi .sel (.fn 14 txPr68) (.int 7))), (true, (.bi .sel zPr0 (.int 8)), (.bi .sel (.fn 14 txPr68) (.int 8))), (true, (.bi .sel zPr0 (.int 9)), (.bi .sel (.fn 14 txPr68) (.int 9))), (true, (.bi .sel zPr0 (.int 10)), (.bi .sel (.fn 14 txPr68) (.int 10))), (true, (.bi .sel zPr0 (.int 11)), (.bi .sel (.fn 14 txPr68) (.int 11))), (true, (.bi .sel zPr0 (.int 12)), (.bi .sel (.fn 14 txPr68) (.int 12))), (true, (.bi .sel zPr0 (.int 13)), (.bi .sel (.fn 14 txPr68) (.int 13))), (true, (.bi .sel zPr0 (.int 14)), (.bi .sel (.fn 14 txPr68) (.int 14))), (true, (.bi .sel zPr0 (.int 15)), (.bi .sel (.fn 14 txPr68) (.int 15))), (true, (.bi .sel zPr0 (.int 16)), (.bi .sel (.fn 14 txPr68) (.int 16))), (true, (.bi .sel zPr0 (.int 17)), (.bi .sel (.fn 14 txPr68) (.int 17))), (true, (.bi .sel zPr0 (.int 18)), (.bi .sel (.fn 14 txPr68) (.int 18))), (true, (.bi .sel zPr0 (.int 19)), (.bi .sel (.fn 14 txPr68) (.int 19))), (true, (.bi .sel zPr0 (.int 20)), (.bi .sel (.fn 14 txPr68) (.int 20))), (true, (.bi .sel zPr0 (.int 21)), (.bi .sel (.fn 14 txPr68) (.int 21))), (true, (.bi .sel zPr0 (.int 22)), (.bi .sel (.fn 14 txPr68) (.int 22))), (true, (.bi .sel zPr0 (.int 23)), (.bi .sel (.fn 14 txPr68) (.int 23))), (true, (.bi .sel zPr0 (.int 24)), (.bi .sel (.fn 14 txPr68) (.int 24))), (true, (.bi .sel zPr0 (.int 25)), (.bi .sel (.fn 14 txPr68) (.int 25))), (true, (.bi .sel zPr0 (.int 26)), (.bi .sel (.fn 14 txPr68) (.int 26))), (true, (.bi .sel zPr0 (.int 27)), (.bi .sel (.fn 14 txPr68) (.int 27))), (true, (.bi .sel zPr0 (.int 28)), (.bi .sel (.fn 14 txPr68) (.int 28))), (true, (.bi .sel zPr0 (.int 29)), (.bi .sel (.fn 14 txPr68) (.int 29))), (true, (.bi .sel zPr0 (.int 30)), (.bi .sel (.fn 14 txPr68) (.int 30))), (true, (.bi .sel zPr0 (.int 31)), (.bi .sel (.fn 14 txPr68) (.int 31))), (true, (.bi .sel zPr0 (.int 32)), (.bi .sel (.fn 14 txPr68) (.int 32))), (true, (.bi .sel zPr0 (.int 33)), (.bi .sel (.fn 14 txPr68) (.int 33))), (true, (.bi .sel zPr0 (.int 34)), (.bi .sel (.fn 14 txPr68) (.int 34))), (true, (.bi .sel zPr0 (.int 35)), (.bi .sel (.fn 14 txPr68) (.int 35))), (true, (.bi .sel zPr0 (.int 36)), (.bi .sel (.fn 14 txPr68) (.int 36))), (true, (.bi .sel zPr0 (.int 37)), (.bi .sel (.fn 14 txPr68) (.int 37))), (true, (.bi .sel zPr0 (.int 38)), (.bi .sel (.fn 14 txPr68) (.int 38))), (true, (.bi .sel zPr0 (.int 39)), (.bi .sel (.fn 14 txPr68) (.int 39))), (true, (.bi .sel zPr0 (.int 40)), (.bi .sel (.fn 14 txPr68) (.int 40))), (true, (.bi .sel zPr0 (.int 41)), (.bi .sel (.fn 14 txPr68) (.int 41))), (true, (.bi .sel zPr0 (.int 42)), (.bi .sel (.fn 14 txPr68) (.int 42))), (true, (.bi .sel zPr0 (.int 43)), (.bi .sel (.fn 14 txPr68) (.int 43))), (true, (.bi .sel zPr0 (.int 44)), (.bi .sel (.fn 14 txPr68) (.int 44))), (true, (.bi .sel zPr0 (.int 45)), (.bi .sel (.fn 14 txPr68) (.int 45))), (true, (.bi .sel zPr0 (.int 46)), (.bi .sel (.fn 14 txPr68) (.int 46))), (true, (.bi .sel zPr0 (.int 47)), (.bi .sel (.fn 14 txPr68) (.int 47))), (true, (.bi .sel zPr0 (.int 48)), (.bi .sel (.fn 14 txPr68) (.int 48))), (true, (.bi .sel zPr0 (.int 49)), (.bi .sel (.fn 14 txPr68) (.int 49))), (true, (.bi .sel zPr0 (.int 50)), (.bi .sel (.fn 14 txPr68) (.int 50))), (true, (.bi .sel zPr0 (.int 51)), (.bi .sel (.fn 14 txPr68) (.int 51))), (true, (.bi .sel zPr0 (.int 52)), (.bi .sel (.fn 14 txPr68) (.int 52))), (true, (.bi .sel zPr0 (.int 53)), (.bi .sel (.fn 14 txPr68) (.int 53))), (true, (.bi .sel zPr0 (.int 54)), (.bi .sel (.fn 14 txPr68) (.int 54))), (true, (.bi .sel zPr0 (.int 55)), (.bi .sel (.fn 14 txPr68) (.int 55))), (true, (.bi .sel zPr0 (.int 56)), (.bi .sel (.fn 14 txPr68) (.int 56))), (true, (.bi .sel zPr0 (.int 57)), (.bi .sel (.fn 14 txPr68) (.int 57))), (true, (.bi .sel zPr0 (.int 58)), (.bi .sel (.fn 14 txPr68) (.int 58))), (true, (.bi .sel zPr0 (.int 59)), (.bi .sel (.fn 14 txPr68) (.int 59))), (true, (.bi .sel zPr0 (.int 60)), (.bi .sel (.fn 14 txPr68) (.int 60))), (true, (.bi .sel zPr0 (.int 61)), (.bi .sel (.fn 14 txPr68) (.int 61))), (true, (.bi .sel zPr0 (.int 62)), (.bi .sel (.fn 14 txPr68) (.int 62))), (true, (.bi .sel zPr0 (.int 63)), (.bi .sel (.fn 14 txPr68) (.int 63)))]
theorem wordsC_y0 : endC wordsC [] 1000 (callC Tryd.prog (tellA wordsC_t0) [⟨63, [4, 1, 0, 1, 1, 1], rsprL⟩] [] [] 3000 40 63 wordsC) = some wordsC_d0 := by kernel_rfl
set_option maxRecDepth 100000 in
theorem wordsC_holds : CHolds Tryd.prog 63 wordsC F := by
 refine cholds_of sound (tableCons rsprL_holds (tableNil _ _)) (specsNil _ _) (oversNil _ _) (fuel := 3000) (depth := 40) (by kernel_rfl) fun d hp hR hA => ?_
 have hp := allTold'_iff.2 hp
 simp only [wordsC, tl] at hp hR hA
 refine ⟨tellA wordsC_t0, _, _, _, tellA_ok (allTold'_iff.1 ?_), wordsC_y0, dutiesTold_ok ?_⟩
 ·simp only [wordsC_t0, tl]
  omega
 ·simp only [wordsC_d0, F14, F1, tl]
  generalize hW : D.ints (D.list (_ ++ _)) = W
  have hW2 : W = wordsI (prt (d 5).ints (d 1).toInt ((d 1).toInt + 64)) := by
   rw [← hW]
   simp [wordsI, wordI, orI, getI, ints_list, D.ofInts, Function.comp_def, List.replicate, prt_get (show 0 ≤ (d 1).toInt by omega)]
  subst hW2
  and_intros <;> rfl

def stepL : LSpec := { n := 118, next := 3, pat := [(8, .sint .i64 (.var 0)), (7, .ptr 1 0), (5, .ptr 3 0), (6, .ptr 5 0)], rows := [(1, .cells 85 0 false false [.sint .u32 (.var 1), .sint .u32 (.var 2), .sint .u32 (.var 3), .sint .u32 (.var 4), .sint .u32 (.var 5), .sint .u32 (.var 6), .sint .u32 (.var 7), .sint .u32 (.var 8)]), (3, .seq ⟨96, .u32, .int 64, .var 9, false, false⟩), (5, .seq ⟨96, .u32, .int 64, .lits [1116352408, 1899447441, 3049323471, 3921009573, 961987163, 1508970993, 2453635748, 2870763221, 3624381080, 310598401, 607225278, 1426881987, 1925078388, 2162078206, 2614888103, 3248222580, 3835390401, 4022224774, 264347078, 604807628, 770255983, 1249150122, 1555081692, 1996064986, 2554220882, 2821834349, 2952996808, 3210313671, 3336571891, 3584528711, 113926993, 338241895, 666307205, 773529912, 1294757372, 1396182291, 1695183700, 1986661051, 2177026350, 2456956037, 2730485921, 2820302411, 3259730800, 3345764771, 3516065817, 3600352804, 4094571909, 275423344, 430227734, 506948616, 659060556, 883997877, 958139571, 1322822218, 1537002063, 1747873779, 1955562222, 2024104815, 2227730452, 2361852424, 2428436474, 2756734187, 3204031479, 3329325298], false, false⟩)], pre := [(.le (.int 0) (.var 0), true), (.le (.var 0) (.int 64), true)], x := 0, fin := [(7, .ptr 1 0)], frows := [(1, .cells 85 0 false false [.sint .u32 (.fn 2 (argsE [.int 0, .var 0, .var 1, .var 2, .var 3, .var 4, .var 5, .var 6, .var 7, .var 8, .var 9])), .sint .u32 (.fn 2 (argsE [.int 1, .var 0, .var 1, .var 2, .var 3, .var 4, .var 5, .var 6, .var 7, .var 8, .var 9])), .sint .u32 (.fn 2 (argsE [.int 2, .var 0, .var 1, .var 2, .var 3, .var 4, .var 5, .var 6, .var 7, .var 8, .var 9])), .sint .u32 (.fn 2 (argsE [.int 3, .var 0, .var 1, .var 2, .var 3, .var 4, .var 5, .var 6, .var 7, .var 8, .var 9])), .sint .u32 (.fn 2 (argsE [.int 4, .var 0, .var 1, .var 2, .var 3, .var 4, .var 5, .var 6, .var 7, .var 8, .var 9])), .sint .u32 (.fn 2 (argsE [.int 5, .var 0, .var 1, .var 2, .var 3, .var 4, .var 5, .var 6, .var 7, .var 8, .var 9])), .sint .u32 (.fn 2 (argsE [.int 6, .var 0, .var 1, .var 2, .var 3, .var 4, .var 5, .var 6, .var 7, .var 8, .var 9])), .sint .u32 (.fn 2 (argsE [.int 7, .var 0, .var 1, .var 2, .var 3, .var 4, .var 5, .var 6, .var 7, .var 8, .var 9]))])], same := [1], chg := [5, 6, 7, 8, 9, 10, 16, 17, 18, 19, 20, 21, 22, 23, 24, 25, 26, 27, 28, 29, 30, 31, 32, 33, 34, 35, 36, 37, 38, 39, 40, 41, 42, 43, 44, 45, 46, 47, 48, 49, 50, 51, 52, 53, 54, 55, 56, 57, 58, 59, 60, 61, 62, 63, 64, 65, 66, 67, 68, 69, 70, 71, 72, 73, 74, 75, 76, 77, 78, 79, 80, 81, 82, 83, 84, 85, 86, 87, 88, 89, 90, 91, 92, 93, 94, 95, 96, 97, 98, 99, 100, 101, 102, 103] }
def stepL_t0 : List (Q × Bool) := [asPr0, asPr13, asPr14]
def stepL_d0 : List Duty := [(true, (.fn 2 (.bi .pair (.int 0) txPr198)), (.fn 2 (.bi .pair (.int 0) txPr140))), (true, (.fn 2 (.bi .pair (.int 1) txPr198)), (.fn 2 (.bi .pair (.int 1) txPr140))), (true, (.fn 2 (.bi .pair (.int 2) txPr198)), (.fn 2 (.bi .pair (.int 2) txPr140))), (true, (.fn 2 (.bi .pair (.int 3) txPr198)), (.fn 2 (.bi .pair (.int 3) txPr140))), (true, (.fn 2 (.bi .pair (.int 4) txPr198)), (.fn 2 (.bi .pair (.int 4) txPr140))), (true, (.fn 2 (.bi .pair (.int 5) txPr198)), (.fn 2 (.bi .pair (.int 5) txPr140))), (true, (.fn 2 (.bi .pair (.int 6) txPr198)), (.fn 2 (.bi .pair (.int 6) txPr140))), (true, (.fn 2 (.bi .pair (.int 7) txPr198)), (.fn 2 (.bi .pair (.int 7) txPr140)))]
def stepL_h0 : List (Nat × E) := [(9, (.var 9)), (8, (.var 7)), (7, (.var 6)), (6, (.var 5)), (5, zPr28), (4, (.var 3)), (3, (.var 2)), (2, (.var 1)), (1, txPr193), (0, zPr5)]
theorem stepL_h0_a : lookE stepL_h0 0 = zPr5 ∧ lookE stepL_h0 1 = txPr193 ∧ lookE stepL_h0 2 = (.var 1) ∧ lookE stepL_h0 3 = (.var 2) ∧ lookE stepL_h0 4 = (.var 3) ∧ lookE stepL_h0 5 = zPr28 ∧ lookE stepL_h0 6 = (.var 5) ∧ lookE stepL_h0 7 = (.var 6) ∧ lookE stepL_h0 8 = (.var 7) ∧ lookE stepL_h0 9 = (.var 9) := ⟨rfl, rfl, rfl, rfl, rfl, rfl, rfl, rfl, rfl, rfl⟩
theorem stepL_y0 : nextD stepL stepL_h0 [(5, 5), (3, 3), (1, 1)] (roundC Tryd.prog [] [] [] 3000 40 56 [4, 1, 0, 1, 1, 1] (tellA stepL_t0) stepL) = some stepL_d0 := by kernel_rfl
def stepL_t1 : List (Q × Bool) := [asPr15]
def stepL_d1 : List Duty := [(true, (.var 1), (.fn 2 (.bi .pair (.int 0) txPr140))), (true, (.var 2), (.fn 2 (.bi .pair (.int 1) txPr140))), (true, (.var 3), (.fn 2 (.bi .pair (.int 2) txPr140))), (true, (.var 4), (.fn 2 (.bi .pair (.int 3) txPr140))), (true, (.var 5), (.fn 2 (.bi .pair (.int 4) txPr140))), (true, (.var 6), (.fn 2 (.bi .pair (.int 5) txPr140))), (true, (.var 7), (.fn 2 (.bi .pair (.int 6) txPr140))), (true, (.var 8), (.fn 2 (.bi .pair (.int 7) txPr140)))]
theorem stepL_y1 : endD stepL [(5, 5), (3, 3), (1, 1)] 1000 (roundC Tryd.prog [] [] [] 3000 40 56 [4, 1, 0, 1, 1, 1] (tellA stepL_t1) stepL) = some stepL_d1 := by kernel_rfl
theorem stepL_holds : LHolds Tryd.prog (loopAt Tryd.prog 56 [4, 1, 0, 1, 1, 1]) stepL F := by
 refine loop_roundsC sound (tableNil _ _) (specsNil _ _) (oversNil _ _) (fuel := 3000) (depth := 40) (by kernel_rfl) (by kernel_rfl) (by kernel_rfl) (fun d => (64 - (d 0).toInt).toNat) fun d hp hR hA => ?_
 have hp := allTold'_iff.2 hp
 simp only [stepL, tl] at hp hR hA
 by_cases h : 64 ≤ (d 0).toInt
 ·refine ⟨tellA stepL_t1, tellA_ok (allTold'_iff.1 ?_), .inl ⟨_, _, _, stepL_y1, dutiesTold_ok ?_⟩⟩
  ·simp only [stepL_t1, tl]
   omega
  ·simp only [stepL_d1, F2, tl]
   rw [show (64 - (d 0).toInt).toNat = 0 by omega]
   and_intros <;> rfl
 ·refine ⟨tellA stepL_t0, tellA_ok (allTold'_iff.1 ?_), .inr ⟨stepL_h0, _, _, stepL_y0, dutiesTold_ok ?_, allTold'_iff.1 ?_, ?_⟩⟩
  ·simp only [stepL_t0, tl]
   omega
  ·simp only [stepL_d0, F2, tl]
   rw [mixN_step2 (d 0).toInt (d 9).ints _ (by omega)]
   and_intros <;> rfl
  ·simp only [stepL, stepL_h0_a, tl]
   omega
  ·simp only [stepL_h0_a, tl]
   omega

def stepC : CSpec := { args := [.agg [vu32Pr (.var 0) 0, vu32Pr (.var 0) 1, vu32Pr (.var 0) 2, vu32Pr (.var 0) 3, vu32Pr (.var 0) 4, vu32Pr (.var 0) 5, vu32Pr (.var 0) 6, vu32Pr (.var 0) 7], .sslice 3 (.var 1) (.var 2) (.var 3) true], next := 2, rows := [zPr12], pre := [(.le zPr10 (.var 4), true), (.eq (.var 2) (.int 64), true)], res := .agg [.sint .u32 (.bi .sel zPr6 (.int 0)), .sint .u32 (.bi .sel zPr6 (.int 1)), .sint .u32 (.bi .sel zPr6 (.int 2)), .sint .u32 (.bi .sel zPr6 (.int 3)), .sint .u32 (.bi .sel zPr6 (.int 4)), .sint .u32 (.bi .sel zPr6 (.int 5)), .sint .u32 (.bi .sel zPr6 (.int 6)), .sint .u32 (.bi .sel zPr6 (.int 7))], frows := [], same := [] }
abbrev asPr208 : Q × Bool := ((.le zPr10 (.var 4)), true)
abbrev asPr209 : Q × Bool := ((.eq (.var 2) (.int 64)), true)
def stepC_t0 : List (Q × Bool) := [asPr208, asPr209]
def stepC_d0 : List Duty := [(true, (.bi (.iop .add .u32) (.bi .sel (.var 0) (.int 0)) (.fn 2 (.bi .pair (.int 0) zPr9))), (.bi .sel zPr7 (.int 0))), (true, (.bi (.iop .add .u32) (.bi .sel (.var 0) (.int 1)) (.fn 2 (.bi .pair (.int 1) zPr9))), (.bi .sel zPr7 (.int 1))), (true, (.bi (.iop .add .u32) (.bi .sel (.var 0) (.int 2)) (.fn 2 (.bi .pair (.int 2) zPr9))), (.bi .sel zPr7 (.int 2))), (true, (.bi (.iop .add .u32) (.bi .sel (.var 0) (.int 3)) (.fn 2 (.bi .pair (.int 3) zPr9))), (.bi .sel zPr7 (.int 3))), (true, (.bi (.iop .add .u32) (.bi .sel (.var 0) (.int 4)) (.fn 2 (.bi .pair (.int 4) zPr9))), (.bi .sel zPr7 (.int 4))), (true, (.bi (.iop .add .u32) (.bi .sel (.var 0) (.int 5)) (.fn 2 (.bi .pair (.int 5) zPr9))), (.bi .sel zPr7 (.int 5))), (true, (.bi (.iop .add .u32) (.bi .sel (.var 0) (.int 6)) (.fn 2 (.bi .pair (.int 6) zPr9))), (.bi .sel zPr7 (.int 6))), (true, (.bi (.iop .add .u32) (.bi .sel (.var 0) (.int 7)) (.fn 2 (.bi .pair (.int 7) zPr9))), (.bi .sel zPr7 (.int 7)))]
theorem stepC_y0 : endC stepC [] 1000 (callC Tryd.prog (tellA stepC_t0) [⟨56, [4, 1, 0, 1, 1, 1], stepL⟩] [(63, wordsC)] [] 3000 40 56 stepC) = some stepC_d0 := by kernel_rfl
theorem stepC_holds : CHolds Tryd.prog 56 stepC F := by
 refine cholds_of sound (tableCons stepL_holds (tableNil _ _)) (specsCons wordsC_holds (specsNil _ _)) (oversNil _ _) (fuel := 3000) (depth := 40) (by kernel_rfl) fun d hp hR hA => ?_
 have hp := allTold'_iff.2 hp
 simp only [stepC, tl] at hp hR hA
 refine ⟨tellA stepC_t0, _, _, _, tellA_ok (allTold'_iff.1 ?_), stepC_y0, dutiesTold_ok ?_⟩
 ·simp only [stepC_t0, tl]
  omega
 ·simp only [stepC_d0, F14, F2, F15, tl]
  rw [show ((64 : Int) - 0).toNat = 64 from rfl, show Int.toNat 0 = 0 from rfl, show Int.toNat 64 = 64 from rfl, segI_all (l := spr 48 16 (wordsI (prt (d 5).ints (d 1).toInt ((d 1).toInt + 64)))) (n := 64) (by rw [spr_len]; rfl)]
  simp only [mix3, mixedI, s8L, getI, S8.list, S8.at, addI]
  and_intros <;> rfl

def rfillL : LSpec := { n := 35, next := 1, pat := [(3, .sslice 1 (.int 0) (.var 0) (.var 0) true)], rows := [(1, .seq ⟨5, .u8, .var 0, .var 1, true, false⟩)], pre := [(.le (.int 0) (.var 0), true), (.le zPr24 (.int 1000000), true)], x := 0, fin := [(3, .sslice 1 (.int 0) zPr24 zPr24 true)], frows := [(1, .seq ⟨5, .u8, .bi .add (.var 0) (.fn 18 (argsE [.var 0])), .fn 16 (argsE [.var 0, .var 1]), true, false⟩)], same := [], chg := [3, 12, 13, 14, 15, 16, 17, 18] }
abbrev asPr210 : Q × Bool := ((.fit .i64 (.var 0)), true)
abbrev asPr211 : Q × Bool := ((.eq (.bi (.iop .rem .i64) (.var 0) (.int 64)) (.int 56)), false)
abbrev asPr212 : Q × Bool := ((.le (.bi .mul zPr5 (.int 2)) (.int 281474976710656)), true)
def rfillL_t0 : List (Q × Bool) := [asPr210, asPr211, asPr212]
def rfillL_d0 : List Duty := [(true, txPr86, txPr78), (true, txPr86, txPr78), (true, txPr86, txPr78), (false, (.fn 16 (.bi .pair zPr5 (.bi .pair zPr30 (.int 0)))), (.fn 16 txPr67))]
def rfillL_h0 : List (Nat × E) := [(1, zPr30), (0, zPr5)]
theorem rfillL_h0_a : lookE rfillL_h0 0 = zPr5 ∧ lookE rfillL_h0 1 = zPr30 := ⟨rfl, rfl⟩
theorem rfillL_y0 : nextD rfillL rfillL_h0 [(1, 5)] (roundC Tryd.prog [] [] [] 3000 40 55 [4, 0, 1, 1, 1] (tellA rfillL_t0) rfillL) = some rfillL_d0 := by kernel_rfl
abbrev asPr213 : Q × Bool := ((.eq (.bi (.iop .rem .i64) (.var 0) (.int 64)) (.int 56)), true)
def rfillL_t1 : List (Q × Bool) := [asPr210, asPr213]
def rfillL_d1 : List Duty := [(true, (.var 0), txPr78), (true, (.var 0), txPr78), (true, (.var 0), txPr78), (false, (.var 1), (.fn 16 txPr67))]
theorem rfillL_y1 : endD rfillL [(1, 1)] 1000 (roundC Tryd.prog [] [] [] 3000 40 55 [4, 0, 1, 1, 1] (tellA rfillL_t1) rfillL) = some rfillL_d1 := by kernel_rfl
theorem rfillL_holds : LHolds Tryd.prog (loopAt Tryd.prog 55 [4, 0, 1, 1, 1]) rfillL F := by
 refine loop_roundsC sound (tableNil _ _) (specsNil _ _) (oversNil _ _) (fuel := 3000) (depth := 40) (by kernel_rfl) (by kernel_rfl) (by kernel_rfl) (fun d => ((56 - (d 0).toInt) % 64).toNat) fun d hp hR hA => ?_
 have hp := allTold'_iff.2 hp
 simp only [rfillL, tl] at hp hR hA
 have hm := emod_in (x := 56 - (d 0).toInt) (n := 64) (by omega)
 have hp : 0 ≤ (d 0).toInt ∧ (d 0).toInt + (56 - (d 0).toInt) % 64 ≤ 1000000 := hp
 have hz : iopI .rem .i64 (d 0).toInt 64 = (d 0).toInt % 64 := rem_emod .i64 (by omega)
 by_cases h : (56 - (d 0).toInt) % 64 = 0
 ·refine ⟨tellA rfillL_t1, tellA_ok (allTold'_iff.1 ?_), .inl ⟨_, _, _, rfillL_y1, dutiesTold_ok ?_⟩⟩
  ·simp only [rfillL_t1, F18, hz, tl]
   omega
  ·simp only [rfillL_d1, F16, F18, tl]
   rw [h]
   simp
 ·refine ⟨tellA rfillL_t0, tellA_ok (allTold'_iff.1 ?_), .inr ⟨rfillL_h0, _, _, rfillL_y0, dutiesTold_ok ?_, allTold'_iff.1 ?_, ?_⟩⟩
  ·simp only [rfillL_t0, F18, hz, tl]
   omega
  ·simp only [rfillL_d0, F16, F18, tl]
   rw [show (56 - (d 0).toInt) % 64 = (56 - ((d 0).toInt + 1)) % 64 + 1 by omega, show ((56 - ((d 0).toInt + 1)) % 64 + 1).toNat = ((56 - ((d 0).toInt + 1)) % 64).toNat + 1 by omega, List.replicate_succ]
   refine ⟨by omega, by omega, by omega, by simp⟩
  ·simp only [rfillL, rfillL_h0_a, tl]
   show 0 ≤ (d 0).toInt + 1 ∧ (d 0).toInt + 1 + (56 - ((d 0).toInt + 1)) % 64 ≤ 1000000
   omega
  ·simp only [rfillL_h0_a, F18, tl]
   omega

def rfillC : CSpec := { args := [.sslice 3 (.var 1) (.var 2) (.var 3) false], next := 2, rows := [zPr12], pre := [(.le zPr10 (.var 4), true), (.le (.int 1) (.var 2), true), (.le (.var 2) (.int 100000), true)], res := .sslice 5 (.int 0) zPr94 zPr94 true, frows := [(5, .seq ⟨5, .u8, .bi .add (.var 2) (.fn 17 (argsE [.var 2])), .fn 19 (argsE [.var 5, .var 1, .var 2]), true, false⟩)], same := [] }
abbrev asPr214 : Q × Bool := ((.le (.bi .mul (.var 2) (.int 2)) (.int 281474976710656)), true)
abbrev asPr215 : Q × Bool := ((.le (.bi .mul zPr21 (.int 2)) (.int 281474976710656)), true)
abbrev asPr216 : Q × Bool := ((.le (.int 0) zPr21), true)
abbrev asPr217 : Q × Bool := ((.le txPr87 (.int 1000000)), true)
abbrev asPr218 : Q × Bool := ((.fit .i64 (.var 2)), true)
abbrev asPr219 : Q × Bool := ((.fit .i64 zPr8), true)
abbrev asPr220 : Q × Bool := ((.le (.bi .mul (.bi .add txPr87 (.int 1)) (.int 2)) (.int 281474976710656)), true)
abbrev asPr221 : Q × Bool := ((.le (.bi .mul (.bi .add txPr87 (.int 2)) (.int 2)) (.int 281474976710656)), true)
abbrev asPr222 : Q × Bool := ((.le (.bi .mul (.bi .add txPr87 (.int 3)) (.int 2)) (.int 281474976710656)), true)
abbrev asPr223 : Q × Bool := ((.le (.bi .mul (.bi .add txPr87 (.int 4)) (.int 2)) (.int 281474976710656)), true)
abbrev asPr224 : Q × Bool := ((.le (.bi .mul (.bi .add txPr87 (.int 5)) (.int 2)) (.int 281474976710656)), true)
abbrev asPr225 : Q × Bool := ((.le (.bi .mul (.bi .add txPr87 (.int 6)) (.int 2)) (.int 281474976710656)), true)
abbrev asPr226 : Q × Bool := ((.le (.bi .mul (.bi .add txPr87 (.int 7)) (.int 2)) (.int 281474976710656)), true)
abbrev asPr227 : Q × Bool := ((.le (.bi .mul (.bi .add txPr87 (.int 8)) (.int 2)) (.int 281474976710656)), true)
def rfillC_t0 : List (Q × Bool) := [asPr208, asPr214, asPr215, asPr216, asPr217, asPr218, asPr219, asPr220, asPr221, asPr222, asPr223, asPr224, asPr225, asPr226, asPr227]
def rfillC_d0 : List Duty := [zPr27, zPr27, zPr27, (false, (.bi .app (.bi .app (.bi .app (.bi .app (.bi .app (.bi .app (.bi .app (.bi .app (.fn 16 (.bi .pair zPr21 (.bi .pair (.bi .app (.tr .cut (.var 5) (.var 1) zPr10) (.lits [128])) (.int 0)))) (.bi .app (.un .one (.un (.wrap .u8) (.bi (.iop .shr .i64) zPr8 (.int 56)))) (.lits []))) (.bi .app (.un .one (.un (.wrap .u8) (.bi (.iop .shr .i64) zPr8 (.int 48)))) (.lits []))) (.bi .app (.un .one (.un (.wrap .u8) (.bi (.iop .shr .i64) zPr8 (.int 40)))) (.lits []))) (.bi .app (.un .one (.un (.wrap .u8) (.bi (.iop .shr .i64) zPr8 (.int 32)))) (.lits []))) (.bi .app (.un .one (.un (.wrap .u8) (.bi (.iop .shr .i64) zPr8 (.int 24)))) (.lits []))) (.bi .app (.un .one (.un (.wrap .u8) (.bi (.iop .shr .i64) zPr8 (.int 16)))) (.lits []))) (.bi .app (.un .one (.un (.wrap .u8) (.bi (.iop .shr .i64) zPr8 (.int 8)))) (.lits []))) (.bi .app (.un .one (.un (.wrap .u8) (.bi (.iop .shr .i64) zPr8 (.int 0)))) (.lits []))), (.fn 19 zPr3))]
theorem rfillC_y0 : endC rfillC [(5, 45)] 1000 (callC Tryd.prog (tellA rfillC_t0) [⟨55, [4, 0, 1, 1, 1], rfillL⟩] [] [] 3000 40 55 rfillC) = some rfillC_d0 := by kernel_rfl
theorem rfillC_holds : CHolds Tryd.prog 55 rfillC F := by
 refine cholds_of sound (tableCons rfillL_holds (tableNil _ _)) (specsNil _ _) (oversNil _ _) (fuel := 3000) (depth := 40) (by kernel_rfl) fun d hp hR hA => ?_
 have hp := allTold'_iff.2 hp
 simp only [rfillC, tl] at hp hR hA
 have hm := emod_in (x := 56 - ((d 2).toInt + 1)) (n := 64) (by omega)
 refine ⟨tellA rfillC_t0, _, _, _, tellA_ok (allTold'_iff.1 ?_), rfillC_y0, dutiesTold_ok ?_⟩
 ·simp only [rfillC_t0, F17, F18, tl]
  omega
 ·simp only [rfillC_d0, F16, F17, F18, F19, tl]
  refine ⟨by omega, by omega, by omega, ?_⟩
  rw [show (56 - ((d 2).toInt + 1)) % 64 = (119 - (d 2).toInt % 64) % 64 by omega]
  simp only [ints_list, D.ofInts, D.toList_list, List.map_append, List.map_drop, List.map_take, map_ints, List.map_cons, List.map_nil, List.map_map, Function.comp_def, D.toInt_int, List.map_id', List.append_nil]
  simp only [fillI, byteI, List.map_cons, List.map_nil, List.append_assoc, List.cons_append, List.nil_append]
  rfl

def rsumL : LSpec := { n := 41, next := 2, pat := [(5, .sint .i64 (.var 0)), (4, .sslice 1 (.int 0) (.var 4) (.var 4) true), (3, .ptr 3 0)], rows := [(1, .seq ⟨5, .u8, .var 4, .var 5, true, false⟩), (3, .cells 85 0 false false [vu32Pr (.var 1) 0, vu32Pr (.var 1) 1, vu32Pr (.var 1) 2, vu32Pr (.var 1) 3, vu32Pr (.var 1) 4, vu32Pr (.var 1) 5, vu32Pr (.var 1) 6, vu32Pr (.var 1) 7])], pre := [(.le (.int 0) (.var 0), true), (.le (.var 0) (.var 4), true), (.eq (.bi (.iop .rem .i64) (.bi .sub (.var 4) (.var 0)) (.int 64)) (.int 0), true), (.le (.var 4) (.int 1000000), true)], x := 0, fin := [(3, .ptr 3 0)], frows := [(3, .cells 85 0 false false [vu32Pr txPr66 0, vu32Pr txPr66 1, vu32Pr txPr66 2, vu32Pr txPr66 3, vu32Pr txPr66 4, vu32Pr txPr66 5, vu32Pr txPr66 6, vu32Pr txPr66 7])], same := [3], chg := [3, 4, 5, 11, 12, 13, 14, 15, 16, 17, 18, 19, 20, 21, 22, 23] }
abbrev asPr228 : Q × Bool := ((.fit .i64 (.var 4)), true)
abbrev asPr229 : Q × Bool := ((.le (.var 4) (.var 0)), false)
abbrev asPr230 : Q × Bool := ((.fit .i64 zPr11), true)
abbrev asPr231 : Q × Bool := ((.le (.var 0) zPr11), true)
abbrev asPr232 : Q × Bool := ((.le zPr11 (.var 4)), true)
def rsumL_t0 : List (Q × Bool) := [asPr228, asPr229, asPr230, asPr13, asPr231, asPr232]
def rsumL_d0 : List Duty := [dqPr (.fn 20 txPr120) (.fn 20 txPr85) 0, dqPr (.fn 20 txPr120) (.fn 20 txPr85) 1, dqPr (.fn 20 txPr120) (.fn 20 txPr85) 2, dqPr (.fn 20 txPr120) (.fn 20 txPr85) 3, dqPr (.fn 20 txPr120) (.fn 20 txPr85) 4, dqPr (.fn 20 txPr120) (.fn 20 txPr85) 5, dqPr (.fn 20 txPr120) (.fn 20 txPr85) 6, dqPr (.fn 20 txPr120) (.fn 20 txPr85) 7]
def rsumL_h0 : List (Nat × E) := [(1, zPr29), (5, (.var 5)), (4, (.var 4)), (0, zPr11)]
theorem rsumL_h0_a : lookE rsumL_h0 0 = zPr11 ∧ lookE rsumL_h0 1 = zPr29 ∧ lookE rsumL_h0 4 = (.var 4) ∧ lookE rsumL_h0 5 = (.var 5) := ⟨rfl, rfl, rfl, rfl⟩
theorem rsumL_y0 : nextD rsumL rsumL_h0 [(3, 3), (1, 1)] (roundC Tryd.prog [] [(56, stepC)] [] 3000 40 46 [4, 1, 0, 1, 1, 1] (tellA rsumL_t0) rsumL) = some rsumL_d0 := by kernel_rfl
abbrev asPr233 : Q × Bool := ((.le (.var 4) (.var 0)), true)
def rsumL_t1 : List (Q × Bool) := [asPr228, asPr233]
def rsumL_d1 : List Duty := [dqPr (.var 1) (.fn 20 txPr85) 0, dqPr (.var 1) (.fn 20 txPr85) 1, dqPr (.var 1) (.fn 20 txPr85) 2, dqPr (.var 1) (.fn 20 txPr85) 3, dqPr (.var 1) (.fn 20 txPr85) 4, dqPr (.var 1) (.fn 20 txPr85) 5, dqPr (.var 1) (.fn 20 txPr85) 6, dqPr (.var 1) (.fn 20 txPr85) 7]
theorem rsumL_y1 : endD rsumL [(3, 3), (1, 1)] 1000 (roundC Tryd.prog [] [(56, stepC)] [] 3000 40 46 [4, 1, 0, 1, 1, 1] (tellA rsumL_t1) rsumL) = some rsumL_d1 := by kernel_rfl
theorem rsumL_holds : LHolds Tryd.prog (loopAt Tryd.prog 46 [4, 1, 0, 1, 1, 1]) rsumL F := by
 refine loop_roundsC sound (tableNil _ _) (specsCons stepC_holds (specsNil _ _)) (oversNil _ _) (fuel := 3000) (depth := 40) (by kernel_rfl) (by kernel_rfl) (by kernel_rfl) (fun d => ((d 4).toInt - (d 0).toInt).toNat) fun d hp hR hA => ?_
 have hp := allTold'_iff.2 hp
 simp only [rsumL, tl] at hp hR hA
 have hz : iopI .rem .i64 ((d 4).toInt - (d 0).toInt) 64 = ((d 4).toInt - (d 0).toInt) % 64 := rem_emod .i64 (by omega)
 by_cases h : (d 4).toInt ≤ (d 0).toInt
 ·refine ⟨tellA rsumL_t1, tellA_ok (allTold'_iff.1 ?_), .inl ⟨_, _, _, rsumL_y1, dutiesTold_ok ?_⟩⟩
  ·simp only [rsumL_t1, tl]
   omega
  ·simp only [rsumL_d1, F20, tl]
   rw [blk_nil (by rw [prt_nil (by omega) (by omega)]; rfl)]
   and_intros <;> rfl
 ·have hl := prt_length (x := (d 5).ints) (o := (d 0).toInt) (t := (d 4).toInt) (by omega) (by omega) (by omega)
  have hz2 : iopI .rem .i64 ((d 4).toInt - ((d 0).toInt + 64)) 64 = ((d 4).toInt - ((d 0).toInt + 64)) % 64 := rem_emod .i64 (by omega)
  refine ⟨tellA rsumL_t0, tellA_ok (allTold'_iff.1 ?_), .inr ⟨rsumL_h0, _, _, rsumL_y0, dutiesTold_ok ?_, allTold'_iff.1 ?_, ?_⟩⟩
  ·simp only [rsumL_t0, tl]
   omega
  ·simp only [rsumL_d0, F15, F20, tl]
   have e := blk_prt (S := (d 1).ints) (X := (d 5).ints) (p := (d 0).toInt) (n := (d 4).toInt) (by omega) (by omega) (by omega)
   rw [e]
   and_intros <;> first | rfl | omega
  ·simp only [rsumL, rsumL_h0_a, tl]
   rw [hz2]
   omega
  ·simp only [rsumL_h0_a, tl]
   omega

def rsumC : CSpec := { args := [.sslice 3 (.var 1) (.var 2) (.var 3) false], next := 2, rows := [zPr12], pre := [(.le zPr10 (.var 4), true), (.le (.int 1) (.var 2), true), (.le (.var 2) (.int 100000), true)], res := .agg [.sint .u8 (.bi .sel zPr2 (.int 0)), .sint .u8 (.bi .sel zPr2 (.int 1)), .sint .u8 (.bi .sel zPr2 (.int 2)), .sint .u8 (.bi .sel zPr2 (.int 3)), .sint .u8 (.bi .sel zPr2 (.int 4)), .sint .u8 (.bi .sel zPr2 (.int 5)), .sint .u8 (.bi .sel zPr2 (.int 6)), .sint .u8 (.bi .sel zPr2 (.int 7)), .sint .u8 (.bi .sel zPr2 (.int 8)), .sint .u8 (.bi .sel zPr2 (.int 9)), .sint .u8 (.bi .sel zPr2 (.int 10)), .sint .u8 (.bi .sel zPr2 (.int 11)), .sint .u8 (.bi .sel zPr2 (.int 12)), .sint .u8 (.bi .sel zPr2 (.int 13)), .sint .u8 (.bi .sel zPr2 (.int 14)), .sint .u8 (.bi .sel zPr2 (.int 15)), .sint .u8 (.bi .sel zPr2 (.int 16)), .sint .u8 (.bi .sel zPr2 (.int 17)), .sint .u8 (.bi .sel zPr2 (.int 18)), .sint .u8 (.bi .sel zPr2 (.int 19)), .sint .u8 (.bi .sel zPr2 (.int 20)), .sint .u8 (.bi .sel zPr2 (.int 21)), .sint .u8 (.bi .sel zPr2 (.int 22)), .sint .u8 (.bi .sel zPr2 (.int 23)), .sint .u8 (.bi .sel zPr2 (.int 24)), .sint .u8 (.bi .sel zPr2 (.int 25)), .sint .u8 (.bi .sel zPr2 (.int 26)), .sint .u8 (.bi .sel zPr2 (.int 27)), .sint .u8 (.bi .sel zPr2 (.int 28)), .sint .u8 (.bi .sel zPr2 (.int 29)), .sint .u8 (.bi .sel zPr2 (.int 30)), .sint .u8 (.bi .sel zPr2 (.int 31))], frows := [], same := [] }
abbrev asPr234 : Q × Bool := ((.le (.int 1) (.var 2)), true)
abbrev asPr235 : Q × Bool := ((.le (.var 2) (.int 100000)), true)
abbrev asPr236 : Q × Bool := ((.le (.int 0) txPr79), true)
abbrev asPr237 : Q × Bool := ((.eq (.bi (.iop .rem .i64) (.bi .sub txPr79 (.int 0)) (.int 64)) (.int 0)), true)
abbrev asPr238 : Q × Bool := ((.le txPr79 (.int 1000000)), true)
def rsumC_t0 : List (Q × Bool) := [asPr208, asPr234, asPr235, asPr236, asPr237, asPr238]
def rsumC_d0 : List Duty := [(true, (.un (.wrap .u8) (.bi (.iop .shr .u32) zPr13 (.int 24))), txPr89), (true, (.un (.wrap .u8) (.bi (.iop .shr .u32) zPr13 (.int 16))), txPr90), (true, (.un (.wrap .u8) (.bi (.iop .shr .u32) zPr13 (.int 8))), txPr91), (true, (.un (.wrap .u8) (.bi (.iop .shr .u32) zPr13 (.int 0))), txPr92), (true, (.un (.wrap .u8) (.bi (.iop .shr .u32) zPr14 (.int 24))), txPr93), (true, (.un (.wrap .u8) (.bi (.iop .shr .u32) zPr14 (.int 16))), txPr94), (true, (.un (.wrap .u8) (.bi (.iop .shr .u32) zPr14 (.int 8))), txPr95), (true, (.un (.wrap .u8) (.bi (.iop .shr .u32) zPr14 (.int 0))), txPr96), (true, (.un (.wrap .u8) (.bi (.iop .shr .u32) zPr15 (.int 24))), txPr97), (true, (.un (.wrap .u8) (.bi (.iop .shr .u32) zPr15 (.int 16))), txPr98), (true, (.un (.wrap .u8) (.bi (.iop .shr .u32) zPr15 (.int 8))), txPr99), (true, (.un (.wrap .u8) (.bi (.iop .shr .u32) zPr15 (.int 0))), txPr100), (true, (.un (.wrap .u8) (.bi (.iop .shr .u32) zPr16 (.int 24))), txPr101), (true, (.un (.wrap .u8) (.bi (.iop .shr .u32) zPr16 (.int 16))), txPr102), (true, (.un (.wrap .u8) (.bi (.iop .shr .u32) zPr16 (.int 8))), txPr103), (true, (.un (.wrap .u8) (.bi (.iop .shr .u32) zPr16 (.int 0))), txPr104), (true, (.un (.wrap .u8) (.bi (.iop .shr .u32) zPr17 (.int 24))), (.bi .sel (.fn 10 zPr3) (.int 16))), (true, (.un (.wrap .u8) (.bi (.iop .shr .u32) zPr17 (.int 16))), (.bi .sel (.fn 10 zPr3) (.int 17))), (true, (.un (.wrap .u8) (.bi (.iop .shr .u32) zPr17 (.int 8))), (.bi .sel (.fn 10 zPr3) (.int 18))), (true, (.un (.wrap .u8) (.bi (.iop .shr .u32) zPr17 (.int 0))), (.bi .sel (.fn 10 zPr3) (.int 19))), (true, (.un (.wrap .u8) (.bi (.iop .shr .u32) zPr18 (.int 24))), (.bi .sel (.fn 10 zPr3) (.int 20))), (true, (.un (.wrap .u8) (.bi (.iop .shr .u32) zPr18 (.int 16))), (.bi .sel (.fn 10 zPr3) (.int 21))), (true, (.un (.wrap .u8) (.bi (.iop .shr .u32) zPr18 (.int 8))), (.bi .sel (.fn 10 zPr3) (.int 22))), (true, (.un (.wrap .u8) (.bi (.iop .shr .u32) zPr18 (.int 0))), (.bi .sel (.fn 10 zPr3) (.int 23))), (true, (.un (.wrap .u8) (.bi (.iop .shr .u32) zPr19 (.int 24))), (.bi .sel (.fn 10 zPr3) (.int 24))), (true, (.un (.wrap .u8) (.bi (.iop .shr .u32) zPr19 (.int 16))), (.bi .sel (.fn 10 zPr3) (.int 25))), (true, (.un (.wrap .u8) (.bi (.iop .shr .u32) zPr19 (.int 8))), (.bi .sel (.fn 10 zPr3) (.int 26))), (true, (.un (.wrap .u8) (.bi (.iop .shr .u32) zPr19 (.int 0))), (.bi .sel (.fn 10 zPr3) (.int 27))), (true, (.un (.wrap .u8) (.bi (.iop .shr .u32) zPr20 (.int 24))), (.bi .sel (.fn 10 zPr3) (.int 28))), (true, (.un (.wrap .u8) (.bi (.iop .shr .u32) zPr20 (.int 16))), (.bi .sel (.fn 10 zPr3) (.int 29))), (true, (.un (.wrap .u8) (.bi (.iop .shr .u32) zPr20 (.int 8))), (.bi .sel (.fn 10 zPr3) (.int 30))), (true, (.un (.wrap .u8) (.bi (.iop .shr .u32) zPr20 (.int 0))), (.bi .sel (.fn 10 zPr3) (.int 31)))]
theorem rsumC_y0 : endC rsumC [] 1000 (callC Tryd.prog (tellA rsumC_t0) [⟨46, [4, 1, 0, 1, 1, 1], rsumL⟩] [(56, stepC), (55, rfillC)] [] 3000 40 46 rsumC) = some rsumC_d0 := by kernel_rfl
theorem rsumC_holds : CHolds Tryd.prog 46 rsumC F := by
 refine cholds_of sound (tableCons rsumL_holds (tableNil _ _)) (specsCons stepC_holds (specsCons rfillC_holds (specsNil _ _))) (oversNil _ _) (fuel := 3000) (depth := 40) (by kernel_rfl) fun d hp hR hA => ?_
 have hp := allTold'_iff.2 hp
 simp only [rsumC, tl] at hp hR hA
 have hm := emod_in (x := (d 2).toInt) (n := 64) (by omega)
 have hm2 := emod_in (x := 119 - (d 2).toInt % 64) (n := 64) (by omega)
 have hz : iopI .rem .i64 ((d 2).toInt + ((119 - (d 2).toInt % 64) % 64 + 9) - 0) 64 = ((d 2).toInt + ((119 - (d 2).toInt % 64) % 64 + 9) - 0) % 64 := rem_emod .i64 (by omega)
 refine ⟨tellA rsumC_t0, _, _, _, tellA_ok (allTold'_iff.1 ?_), rsumC_y0, dutiesTold_ok ?_⟩
 ·simp only [rsumC_t0, F17, tl]
  rw [hz]
  omega
 ·simp only [rsumC_d0, F10, F17, F19, F20, tl]
  have e := blk_sum (X := (d 5).ints) (o := (d 1).toInt) (l := (d 2).toInt) (by omega) (by omega) (by omega)
  unfold firstL at e
  rw [e]
  and_intros <;> rfl

def ridC : CSpec := { args := [.sslice 3 (.var 1) (.var 2) (.var 3) false], next := 2, rows := [zPr12], pre := [(.le zPr10 (.var 4), true), (.le (.int 1) (.var 2), true), (.le (.var 2) (.int 100000), true)], res := .agg [.sint .u8 (.bi .sel zPr4 (.int 0)), .sint .u8 (.bi .sel zPr4 (.int 1)), .sint .u8 (.bi .sel zPr4 (.int 2)), .sint .u8 (.bi .sel zPr4 (.int 3)), .sint .u8 (.bi .sel zPr4 (.int 4)), .sint .u8 (.bi .sel zPr4 (.int 5)), .sint .u8 (.bi .sel zPr4 (.int 6)), .sint .u8 (.bi .sel zPr4 (.int 7)), .sint .u8 (.bi .sel zPr4 (.int 8)), .sint .u8 (.bi .sel zPr4 (.int 9)), .sint .u8 (.bi .sel zPr4 (.int 10)), .sint .u8 (.bi .sel zPr4 (.int 11)), .sint .u8 (.bi .sel zPr4 (.int 12)), .sint .u8 (.bi .sel zPr4 (.int 13)), .sint .u8 (.bi .sel zPr4 (.int 14)), .sint .u8 (.bi .sel zPr4 (.int 15))], frows := [], same := [] }
def ridC_t0 : List (Q × Bool) := [asPr208, asPr234, asPr235]
def ridC_d0 : List Duty := [(true, txPr89, (.bi .sel (.fn 61 zPr3) (.int 0))), (true, txPr90, (.bi .sel (.fn 61 zPr3) (.int 1))), (true, txPr91, (.bi .sel (.fn 61 zPr3) (.int 2))), (true, txPr92, (.bi .sel (.fn 61 zPr3) (.int 3))), (true, txPr93, (.bi .sel (.fn 61 zPr3) (.int 4))), (true, txPr94, (.bi .sel (.fn 61 zPr3) (.int 5))), (true, txPr95, (.bi .sel (.fn 61 zPr3) (.int 6))), (true, txPr96, (.bi .sel (.fn 61 zPr3) (.int 7))), (true, txPr97, (.bi .sel (.fn 61 zPr3) (.int 8))), (true, txPr98, (.bi .sel (.fn 61 zPr3) (.int 9))), (true, txPr99, (.bi .sel (.fn 61 zPr3) (.int 10))), (true, txPr100, (.bi .sel (.fn 61 zPr3) (.int 11))), (true, txPr101, (.bi .sel (.fn 61 zPr3) (.int 12))), (true, txPr102, (.bi .sel (.fn 61 zPr3) (.int 13))), (true, txPr103, (.bi .sel (.fn 61 zPr3) (.int 14))), (true, txPr104, (.bi .sel (.fn 61 zPr3) (.int 15)))]
theorem ridC_y0 : endC ridC [] 1000 (callC Tryd.prog (tellA ridC_t0) [] [(46, rsumC)] [] 3000 40 34 ridC) = some ridC_d0 := by kernel_rfl
theorem ridC_holds : CHolds Tryd.prog 34 ridC F := by
 refine cholds_of sound (tableNil _ _) (specsCons rsumC_holds (specsNil _ _)) (oversNil _ _) (fuel := 3000) (depth := 40) (by kernel_rfl) fun d hp hR hA => ?_
 have hp := allTold'_iff.2 hp
 simp only [ridC, tl] at hp hR hA
 refine ⟨tellA ridC_t0, _, _, _, tellA_ok (allTold'_iff.1 ?_), ridC_y0, dutiesTold_ok ?_⟩
 ·simp only [ridC_t0, tl]
  omega
 ·simp only [ridC_d0, F10, F61, tl]
  unfold idI
  and_intros <;> rfl

end Go.Proofs.YtidjfojcifjdjaaDoor.Pr
