/-
  Contracts of this seat: what loops and calls leave, for all inputs. No condition.
-/
import Derived.Test.YtfphohneafeleaaDoorSycp
import Derived.Test.YtfphohneafeleaaDoorCo
import Derived.Test.YtfphohneafeleaaDoorDp
set_option linter.unusedSimpArgs false
set_option linter.unusedVariables false
namespace Go.Proofs.YtfphohneafeleaaDoor.Dr
open Go.RowKit Go.Ev Go.Proofs.YtfphohneafeleaaDoor.Co

open Go.Proofs.YtfphohneafeleaaDoor.Dp

def rotS (n m x : Int) : Int := iopI .or .u32 (iopI .shr .u32 x n) (iopI .shl .u32 x m)
theorem rot_eq (n m x : Int) : rotI n m x = rotS n m x := (or_turn x n m).symm
theorem spr_step2 (i : Int) (w : List Int) (h : i < 64) : spr (64 - i).toNat i w = spr (64 - (i + 1)).toNat (i + 1) (w.set i.toNat (
  addI (addI (addI (getI w (i + -16)) (xorI (xorI (rotS 7 25 (getI w (i + -15))) (rotS 18 14 (getI w (i + -15)))) (iopI .shr .u32 (getI w (i + -15)) 3))) (getI w (i + -7)))
    (xorI (xorI (rotS 17 15 (getI w (i + -2))) (rotS 19 13 (getI w (i + -2)))) (iopI .shr .u32 (getI w (i + -2)) 10)))) := by
  rw [spr_step i w h]
  simp only [spW, rot_eq]
def tS (s : S8) (k w : Int) : Int := addI (addI (addI (addI s.h (xorI (xorI (rotS 6 26 s.e) (rotS 11 21 s.e)) (rotS 25 7 s.e))) (xorI (andI s.e s.f) (andI (xorI 4294967295 s.e) s.g))) k) w
def uS (s : S8) : Int := addI (xorI (xorI (rotS 2 30 s.a) (rotS 13 19 s.a)) (rotS 22 10 s.a)) (xorI (xorI (andI s.a s.b) (andI s.a s.c)) (andI s.b s.c))
theorem t_eq (s : S8) (k w : Int) : tI s k w = tS s k w := by simp only [tI, tS, rot_eq]
theorem u_eq (s : S8) : uI s = uS s := by simp only [uI, uS, rot_eq]
theorem mixN_step2 (i : Int) (w : List Int) (s : S8) (h : i < 64) : mixN w (64 - i).toNat i s = mixN w (64 - (i + 1)).toNat (i + 1) ⟨addI (tS s (getI addedL i) (getI w i)) (uS s), s.a, s.b, s.c, addI s.d (tS s (getI addedL i) (getI w i)), s.e, s.f, s.g⟩ := by
  rw [mixN_step i w s h]
  simp only [mixS, t_eq, u_eq]
theorem prt_get {x : List Int} {o : Int} (h0 : 0 ≤ o) (n : Nat) (h : n < 64) : ((prt x o (o + 64))[n]?).getD 0 = (x[(o + (n : Int)).toNat]?).getD 0 := by
  unfold prt
  rw [List.getElem?_drop, List.getElem?_take, if_pos (by omega)]
  congr 2
  omega

theorem blk_prt {S X : List Int} {p n : Int} (h0 : 0 ≤ p) (h1 : p + 64 ≤ n) (h2 : n ≤ X.length) : blkI (mix3 S (prt X p (p + 64))) (prt X (p + 64) n) = blkI S (prt X p n) := by
  have hl := prt_length (x := X) (o := p) (t := p + 64) h0 (by omega) (by omega)
  have e := prt_app (x := X) (o := p) (m := p + 64) (t := n) h0 (by omega) h1 h2
  rw [e]
  rw [blk_step (r := prt X p (p + 64) ++ prt X (p + 64) n) (by rw [List.length_append]; omega), List.take_append_of_le_length (by omega), List.take_of_length_le (by omega), List.drop_append_of_le_length (by omega), List.drop_of_length_le (by omega), List.nil_append]

theorem blk_sum {X : List Int} {o l : Int} (h0 : 0 ≤ o) (h1 : 0 ≤ l) (h2 : o + l ≤ X.length) :
    blkI firstL (prt (prt X o (o + l) ++ fillI l) 0 (l + ((119 - l % 64) % 64 + 9))) = (takeI (takeI zeroK (prt X o (o + l))) (fillI (takeI zeroK (prt X o (o + l))).z)).s := by
  have hl := prt_length (x := X) (o := o) (t := o + l) h0 (by omega) h2
  have hf := fill_len l
  have hz : (takeI zeroK (prt X o (o + l))).z = l := by
    rw [take_z]
    show (0 : Int) + _ = _
    omega
  rw [hz, prt_all (by rw [List.length_append]; omega), ← take_app _ _ _ _ (Nat.le_refl _) (by rfl)]
  have hm := emod_in (x := 119 - l % 64) (n := 64) (by omega)
  exact (blk_take _ firstL (List.replicate 64 0) 0 _ (Nat.le_refl _) (by simp) rfl (by rw [List.length_append]; omega)).symm

abbrev txDr0 : E := (.bi .sel (.var 5) (.bi .add (.var 1) (.int 1)))
abbrev txDr1 : E := (.bi .sel (.var 5) (.bi .add (.var 1) (.int 2)))
abbrev txDr2 : E := (.bi .sel (.var 5) (.bi .add (.var 1) (.int 3)))
abbrev txDr3 : E := (.bi .sel (.var 5) (.bi .add (.var 1) (.int 4)))
abbrev txDr4 : E := (.bi .sel (.var 5) (.bi .add (.var 1) (.int 5)))
abbrev txDr5 : E := (.bi .sel (.var 5) (.bi .add (.var 1) (.int 6)))
abbrev txDr6 : E := (.bi .sel (.var 5) (.bi .add (.var 1) (.int 7)))
abbrev txDr7 : E := (.bi .sel (.var 5) (.bi .add (.var 1) (.int 8)))
abbrev txDr8 : E := (.bi .sel (.var 5) (.bi .add (.var 1) (.int 9)))
abbrev txDr9 : E := (.bi .sel (.var 5) (.bi .add (.var 1) (.int 10)))
abbrev txDr10 : E := (.bi .sel (.var 5) (.bi .add (.var 1) (.int 11)))
abbrev txDr11 : E := (.bi .sel (.var 5) (.bi .add (.var 1) (.int 12)))
abbrev txDr12 : E := (.bi .sel (.var 5) (.bi .add (.var 1) (.int 13)))
abbrev txDr13 : E := (.bi .sel (.var 5) (.bi .add (.var 1) (.int 14)))
abbrev txDr14 : E := (.bi .sel (.var 5) (.bi .add (.var 1) (.int 15)))
abbrev txDr15 : E := (.bi .sel (.var 5) (.bi .add (.var 1) (.int 16)))
abbrev txDr16 : E := (.bi .sel (.var 5) (.bi .add (.var 1) (.int 17)))
abbrev txDr17 : E := (.bi .sel (.var 5) (.bi .add (.var 1) (.int 18)))
abbrev txDr18 : E := (.bi .sel (.var 5) (.bi .add (.var 1) (.int 19)))
abbrev txDr19 : E := (.bi .sel (.var 5) (.bi .add (.var 1) (.int 20)))
abbrev txDr20 : E := (.bi .sel (.var 5) (.bi .add (.var 1) (.int 21)))
abbrev txDr21 : E := (.bi .sel (.var 5) (.bi .add (.var 1) (.int 22)))
abbrev txDr22 : E := (.bi .sel (.var 5) (.bi .add (.var 1) (.int 23)))
abbrev txDr23 : E := (.bi .sel (.var 5) (.bi .add (.var 1) (.int 24)))
abbrev txDr24 : E := (.bi .sel (.var 5) (.bi .add (.var 1) (.int 25)))
abbrev txDr25 : E := (.bi .sel (.var 5) (.bi .add (.var 1) (.int 26)))
abbrev txDr26 : E := (.bi .sel (.var 5) (.bi .add (.var 1) (.int 27)))
abbrev txDr27 : E := (.bi .sel (.var 5) (.bi .add (.var 1) (.int 28)))
abbrev txDr28 : E := (.bi .sel (.var 5) (.bi .add (.var 1) (.int 29)))
abbrev txDr29 : E := (.bi .sel (.var 5) (.bi .add (.var 1) (.int 30)))
abbrev txDr30 : E := (.bi .sel (.var 5) (.bi .add (.var 1) (.int 31)))
abbrev txDr31 : E := (.bi .sel (.var 5) (.bi .add (.var 1) (.int 32)))
abbrev txDr32 : E := (.bi .sel (.var 5) (.bi .add (.var 1) (.int 33)))
abbrev txDr33 : E := (.bi .sel (.var 5) (.bi .add (.var 1) (.int 34)))
abbrev txDr34 : E := (.bi .sel (.var 5) (.bi .add (.var 1) (.int 35)))
abbrev txDr35 : E := (.bi .sel (.var 5) (.bi .add (.var 1) (.int 36)))
abbrev txDr36 : E := (.bi .sel (.var 5) (.bi .add (.var 1) (.int 37)))
abbrev txDr37 : E := (.bi .sel (.var 5) (.bi .add (.var 1) (.int 38)))
abbrev txDr38 : E := (.bi .sel (.var 5) (.bi .add (.var 1) (.int 39)))
abbrev txDr39 : E := (.bi .sel (.var 5) (.bi .add (.var 1) (.int 40)))
abbrev txDr40 : E := (.bi .sel (.var 5) (.bi .add (.var 1) (.int 41)))
abbrev txDr41 : E := (.bi .sel (.var 5) (.bi .add (.var 1) (.int 42)))
abbrev txDr42 : E := (.bi .sel (.var 5) (.bi .add (.var 1) (.int 43)))
abbrev txDr43 : E := (.bi .sel (.var 5) (.bi .add (.var 1) (.int 44)))
abbrev txDr44 : E := (.bi .sel (.var 5) (.bi .add (.var 1) (.int 45)))
abbrev txDr45 : E := (.bi .sel (.var 5) (.bi .add (.var 1) (.int 46)))
abbrev txDr46 : E := (.bi .sel (.var 5) (.bi .add (.var 1) (.int 47)))
abbrev txDr47 : E := (.bi .sel (.var 5) (.bi .add (.var 1) (.int 48)))
abbrev txDr48 : E := (.bi .sel (.var 5) (.bi .add (.var 1) (.int 49)))
abbrev txDr49 : E := (.bi .sel (.var 5) (.bi .add (.var 1) (.int 50)))
abbrev txDr50 : E := (.bi .sel (.var 5) (.bi .add (.var 1) (.int 51)))
abbrev txDr51 : E := (.bi .sel (.var 5) (.bi .add (.var 1) (.int 52)))
abbrev txDr52 : E := (.bi .sel (.var 5) (.bi .add (.var 1) (.int 53)))
abbrev txDr53 : E := (.bi .sel (.var 5) (.bi .add (.var 1) (.int 54)))
abbrev txDr54 : E := (.bi .sel (.var 5) (.bi .add (.var 1) (.int 55)))
abbrev txDr55 : E := (.bi .sel (.var 5) (.bi .add (.var 1) (.int 56)))
abbrev txDr56 : E := (.bi .sel (.var 5) (.bi .add (.var 1) (.int 57)))
abbrev txDr57 : E := (.bi .sel (.var 5) (.bi .add (.var 1) (.int 58)))
abbrev txDr58 : E := (.bi .sel (.var 5) (.bi .add (.var 1) (.int 59)))
abbrev txDr59 : E := (.bi .sel (.var 5) (.bi .add (.var 1) (.int 60)))
abbrev txDr60 : E := (.bi .sel (.var 5) (.bi .add (.var 1) (.int 61)))
abbrev txDr61 : E := (.bi .sel (.var 5) (.bi .add (.var 1) (.int 62)))
abbrev txDr62 : E := (.bi .sel (.var 5) (.bi .add (.var 1) (.int 63)))
abbrev txDr63 : E := (.bi (.iop .xor .u32) (.int 4294967295) (.var 5))
abbrev txDr64 : E := (.bi .pair (.bi .add (.var 0) (.int 1)) (.int 0))
abbrev txDr65 : E := (.fn 20 (argsE [.var 1, .var 5, .var 0, .var 4]))
abbrev txDr66 : E := (.bi .pair (.var 0) (.bi .pair (.var 1) (.int 0)))
abbrev txDr67 : E := (.bi .pair (.var 5) (.bi .pair (.var 1) (.int 0)))
abbrev txDr68 : E := (.bi .pair (.var 7) (.bi .pair (.var 9) (.int 0)))
abbrev txDr69 : E := (.bi .pair (.var 8) (.bi .pair (.var 9) (.int 0)))
abbrev txDr70 : E := (.bi .pair (.var 5) (.bi .pair (.var 0) (.int 0)))
abbrev txDr71 : E := (.bi .pair (.var 0) (.bi .pair (.var 4) (.int 0)))
abbrev txDr72 : E := (.bi .sel (.var 1) (.bi .add (.var 0) (.int (-7))))
abbrev txDr73 : E := (.bi .sel (.var 1) (.bi .add (.var 0) (.int (-2))))
abbrev txDr74 : E := (.bi .sel (.var 1) (.bi .add (.var 0) (.int (-16))))
abbrev txDr75 : E := (.bi .sel (.var 1) (.bi .add (.var 0) (.int (-15))))
abbrev txDr76 : E := (.bi .add (.var 0) (.fn 18 (.bi .pair (.var 0) (.int 0))))
abbrev txDr77 : E := (.bi (.iop .shl .u32) (.bi .sel (.var 5) (.var 1)) (.int 24))
abbrev txDr78 : E := (.bi .pair (.bi .add (.var 0) (.int 64)) (.bi .pair (.var 4) (.int 0)))
abbrev txDr79 : E := (.tr .seg (.fn 14 txDr67) (.int 0) (.int 64))
abbrev txDr80 : E := (.bi .pair (.var 5) (.bi .pair (.var 6) txDr68))
abbrev txDr81 : E := (.bi .pair (.var 6) (.bi .pair (.var 7) txDr69))
abbrev txDr82 : E := (.bi .pair (.var 1) (.bi .pair (.var 5) txDr71))
abbrev txDr83 : E := (.bi .add (.bi .add (.var 0) (.int 1)) (.fn 18 txDr64))
abbrev txDr84 : E := (.bi (.iop .or .u32) (.bi (.iop .shr .u32) (.var 5) (.int 6)) (.bi (.iop .shl .u32) (.var 5) (.int 26)))
abbrev txDr85 : E := (.bi (.iop .or .u32) (.bi (.iop .shr .u32) (.var 5) (.int 25)) (.bi (.iop .shl .u32) (.var 5) (.int 7)))
abbrev txDr86 : E := (.bi (.iop .or .u32) (.bi (.iop .shr .u32) (.var 1) (.int 2)) (.bi (.iop .shl .u32) (.var 1) (.int 30)))
abbrev txDr87 : E := (.bi (.iop .xor .u32) (.bi (.iop .and .u32) (.var 1) (.var 2)) (.bi (.iop .and .u32) (.var 1) (.var 3)))
abbrev txDr88 : E := (.bi (.iop .or .u32) (.bi (.iop .shr .u32) (.var 5) (.int 11)) (.bi (.iop .shl .u32) (.var 5) (.int 21)))
abbrev txDr89 : E := (.bi (.iop .or .u32) (.bi (.iop .shr .u32) (.var 1) (.int 13)) (.bi (.iop .shl .u32) (.var 1) (.int 19)))
abbrev txDr90 : E := (.bi (.iop .or .u32) (.bi (.iop .shr .u32) (.var 1) (.int 22)) (.bi (.iop .shl .u32) (.var 1) (.int 10)))
abbrev txDr91 : E := (.bi .pair (.var 4) (.bi .pair (.var 5) txDr81))
abbrev txDr92 : E := (.bi (.iop .xor .u32) (.bi (.iop .and .u32) (.var 5) (.var 6)) (.bi (.iop .and .u32) txDr63 (.var 7)))
abbrev txDr93 : E := (.bi .pair (.bi .sel (.var 0) (.int 7)) (.bi .pair txDr79 (.int 0)))
abbrev txDr94 : E := (.bi (.iop .or .u32) txDr77 (.bi (.iop .shl .u32) txDr0 (.int 16)))
abbrev txDr95 : E := (.bi (.iop .xor .u32) txDr87 (.bi (.iop .and .u32) (.var 2) (.var 3)))
abbrev txDr96 : E := (.bi .pair (.var 2) (.bi .pair (.var 3) txDr91))
abbrev txDr97 : E := (.bi (.iop .or .u32) (.bi (.iop .shl .u32) txDr3 (.int 24)) (.bi (.iop .shl .u32) txDr4 (.int 16)))
abbrev txDr98 : E := (.bi (.iop .or .u32) (.bi (.iop .shl .u32) txDr7 (.int 24)) (.bi (.iop .shl .u32) txDr8 (.int 16)))
abbrev txDr99 : E := (.bi .pair (.fn 15 (.bi .pair (.var 1) txDr70)) (.bi .pair (.var 5) txDr78))
abbrev txDr100 : E := (.bi (.iop .or .u32) (.bi (.iop .shl .u32) txDr11 (.int 24)) (.bi (.iop .shl .u32) txDr12 (.int 16)))
abbrev txDr101 : E := (.bi (.iop .or .u32) (.bi (.iop .shl .u32) txDr15 (.int 24)) (.bi (.iop .shl .u32) txDr16 (.int 16)))
abbrev txDr102 : E := (.bi (.iop .or .u32) (.bi (.iop .shl .u32) txDr19 (.int 24)) (.bi (.iop .shl .u32) txDr20 (.int 16)))
abbrev txDr103 : E := (.bi (.iop .or .u32) (.bi (.iop .shl .u32) txDr23 (.int 24)) (.bi (.iop .shl .u32) txDr24 (.int 16)))
abbrev txDr104 : E := (.bi (.iop .or .u32) (.bi (.iop .shl .u32) txDr27 (.int 24)) (.bi (.iop .shl .u32) txDr28 (.int 16)))
abbrev txDr105 : E := (.bi (.iop .or .u32) (.bi (.iop .shl .u32) txDr31 (.int 24)) (.bi (.iop .shl .u32) txDr32 (.int 16)))
abbrev txDr106 : E := (.bi (.iop .or .u32) (.bi (.iop .shl .u32) txDr35 (.int 24)) (.bi (.iop .shl .u32) txDr36 (.int 16)))
abbrev txDr107 : E := (.bi (.iop .or .u32) (.bi (.iop .shl .u32) txDr39 (.int 24)) (.bi (.iop .shl .u32) txDr40 (.int 16)))
abbrev txDr108 : E := (.bi (.iop .or .u32) (.bi (.iop .shl .u32) txDr43 (.int 24)) (.bi (.iop .shl .u32) txDr44 (.int 16)))
abbrev txDr109 : E := (.bi (.iop .or .u32) (.bi (.iop .shl .u32) txDr47 (.int 24)) (.bi (.iop .shl .u32) txDr48 (.int 16)))
abbrev txDr110 : E := (.bi (.iop .or .u32) (.bi (.iop .shl .u32) txDr51 (.int 24)) (.bi (.iop .shl .u32) txDr52 (.int 16)))
abbrev txDr111 : E := (.bi (.iop .or .u32) (.bi (.iop .shl .u32) txDr55 (.int 24)) (.bi (.iop .shl .u32) txDr56 (.int 16)))
abbrev txDr112 : E := (.bi (.iop .or .u32) (.bi (.iop .shl .u32) txDr59 (.int 24)) (.bi (.iop .shl .u32) txDr60 (.int 16)))
abbrev txDr113 : E := (.bi (.iop .or .u32) (.bi (.iop .shr .u32) txDr73 (.int 17)) (.bi (.iop .shl .u32) txDr73 (.int 15)))
abbrev txDr114 : E := (.bi (.iop .or .u32) (.bi (.iop .shr .u32) txDr73 (.int 19)) (.bi (.iop .shl .u32) txDr73 (.int 13)))
abbrev txDr115 : E := (.bi (.iop .or .u32) (.bi (.iop .shr .u32) txDr75 (.int 7)) (.bi (.iop .shl .u32) txDr75 (.int 25)))
abbrev txDr116 : E := (.bi .pair (.bi .sel (.var 0) (.int 6)) txDr93)
abbrev txDr117 : E := (.bi (.iop .or .u32) (.bi (.iop .shr .u32) txDr75 (.int 18)) (.bi (.iop .shl .u32) txDr75 (.int 14)))
abbrev txDr118 : E := (.bi .pair (.var 0) (.bi .pair (.var 1) txDr96))
abbrev txDr119 : E := (.bi .pair (.bi .sel (.var 0) (.int 5)) txDr116)
abbrev txDr120 : E := (.bi (.iop .or .u32) txDr94 (.bi (.iop .shl .u32) txDr1 (.int 8)))
abbrev txDr121 : E := (.bi .pair (.bi .sel (.var 0) (.int 4)) txDr119)
abbrev txDr122 : E := (.bi (.iop .or .u32) txDr97 (.bi (.iop .shl .u32) txDr5 (.int 8)))
abbrev txDr123 : E := (.bi (.iop .or .u32) txDr98 (.bi (.iop .shl .u32) txDr9 (.int 8)))
abbrev txDr124 : E := (.bi (.iop .or .u32) txDr100 (.bi (.iop .shl .u32) txDr13 (.int 8)))
abbrev txDr125 : E := (.bi (.iop .or .u32) txDr101 (.bi (.iop .shl .u32) txDr17 (.int 8)))
abbrev txDr126 : E := (.bi (.iop .or .u32) txDr102 (.bi (.iop .shl .u32) txDr21 (.int 8)))
abbrev txDr127 : E := (.bi (.iop .or .u32) txDr103 (.bi (.iop .shl .u32) txDr25 (.int 8)))
abbrev txDr128 : E := (.bi (.iop .or .u32) txDr104 (.bi (.iop .shl .u32) txDr29 (.int 8)))
abbrev txDr129 : E := (.bi (.iop .or .u32) txDr105 (.bi (.iop .shl .u32) txDr33 (.int 8)))
abbrev txDr130 : E := (.bi (.iop .or .u32) txDr106 (.bi (.iop .shl .u32) txDr37 (.int 8)))
abbrev txDr131 : E := (.bi (.iop .or .u32) txDr107 (.bi (.iop .shl .u32) txDr41 (.int 8)))
abbrev txDr132 : E := (.bi (.iop .or .u32) txDr108 (.bi (.iop .shl .u32) txDr45 (.int 8)))
abbrev txDr133 : E := (.bi (.iop .or .u32) txDr109 (.bi (.iop .shl .u32) txDr49 (.int 8)))
abbrev txDr134 : E := (.bi (.iop .or .u32) txDr110 (.bi (.iop .shl .u32) txDr53 (.int 8)))
abbrev txDr135 : E := (.bi (.iop .or .u32) txDr111 (.bi (.iop .shl .u32) txDr57 (.int 8)))
abbrev txDr136 : E := (.bi (.iop .or .u32) txDr112 (.bi (.iop .shl .u32) txDr61 (.int 8)))
abbrev txDr137 : E := (.bi .pair (.bi .sel (.var 0) (.int 3)) txDr121)
abbrev txDr138 : E := (.un .one (.bi (.iop .or .u32) txDr120 txDr2))
abbrev txDr139 : E := (.bi .pair (.bi .sel (.var 0) (.int 2)) txDr137)
abbrev txDr140 : E := (.bi (.iop .xor .u32) (.bi (.iop .xor .u32) txDr84 txDr88) txDr85)
abbrev txDr141 : E := (.bi (.iop .xor .u32) (.bi (.iop .xor .u32) txDr86 txDr89) txDr90)
abbrev txDr142 : E := (.un .one (.bi (.iop .or .u32) txDr122 txDr6))
abbrev txDr143 : E := (.un .one (.bi (.iop .or .u32) txDr123 txDr10))
abbrev txDr144 : E := (.un .one (.bi (.iop .or .u32) txDr124 txDr14))
abbrev txDr145 : E := (.un .one (.bi (.iop .or .u32) txDr125 txDr18))
abbrev txDr146 : E := (.un .one (.bi (.iop .or .u32) txDr126 txDr22))
abbrev txDr147 : E := (.un .one (.bi (.iop .or .u32) txDr127 txDr26))
abbrev txDr148 : E := (.un .one (.bi (.iop .or .u32) txDr128 txDr30))
abbrev txDr149 : E := (.un .one (.bi (.iop .or .u32) txDr129 txDr34))
abbrev txDr150 : E := (.un .one (.bi (.iop .or .u32) txDr130 txDr38))
abbrev txDr151 : E := (.un .one (.bi (.iop .or .u32) txDr131 txDr42))
abbrev txDr152 : E := (.un .one (.bi (.iop .or .u32) txDr132 txDr46))
abbrev txDr153 : E := (.un .one (.bi (.iop .or .u32) txDr133 txDr50))
abbrev txDr154 : E := (.un .one (.bi (.iop .or .u32) txDr134 txDr54))
abbrev txDr155 : E := (.un .one (.bi (.iop .or .u32) txDr135 txDr58))
abbrev txDr156 : E := (.un .one (.bi (.iop .or .u32) txDr136 txDr62))
abbrev txDr157 : E := (.bi .pair (.bi .sel (.var 0) (.int 1)) txDr139)
abbrev txDr158 : E := (.bi .pair (.bi .sel (.var 0) (.int 0)) txDr157)
abbrev txDr159 : E := (.bi (.iop .xor .u32) (.bi (.iop .xor .u32) txDr113 txDr114) (.bi (.iop .shr .u32) txDr73 (.int 10)))
abbrev txDr160 : E := (.bi (.iop .xor .u32) (.bi (.iop .xor .u32) txDr115 txDr117) (.bi (.iop .shr .u32) txDr75 (.int 3)))
abbrev txDr161 : E := (.bi .app txDr156 (.lits [0, 0, 0, 0, 0, 0, 0, 0, 0, 0, 0, 0, 0, 0, 0, 0, 0, 0, 0, 0, 0, 0, 0, 0, 0, 0, 0, 0, 0, 0, 0, 0, 0, 0, 0, 0, 0, 0, 0, 0, 0, 0, 0, 0, 0, 0, 0, 0]))
abbrev txDr162 : E := (.bi (.iop .add .u32) (.bi (.iop .add .u32) (.var 8) txDr140) txDr92)
abbrev txDr163 : E := (.bi (.iop .add .u32) (.bi (.iop .add .u32) txDr74 txDr160) txDr72)
abbrev txDr164 : E := (.bi .sel (.lits [1116352408, 1899447441, 3049323471, 3921009573, 961987163, 1508970993, 2453635748, 2870763221, 3624381080, 310598401, 607225278, 1426881987, 1925078388, 2162078206, 2614888103, 3248222580, 3835390401, 4022224774, 264347078, 604807628, 770255983, 1249150122, 1555081692, 1996064986, 2554220882, 2821834349, 2952996808, 3210313671, 3336571891, 3584528711, 113926993, 338241895, 666307205, 773529912, 1294757372, 1396182291, 1695183700, 1986661051, 2177026350, 2456956037, 2730485921, 2820302411, 3259730800, 3345764771, 3516065817, 3600352804, 4094571909, 275423344, 430227734, 506948616, 659060556, 883997877, 958139571, 1322822218, 1537002063, 1747873779, 1955562222, 2024104815, 2227730452, 2361852424, 2428436474, 2756734187, 3204031479, 3329325298]) (.var 0))
abbrev txDr165 : E := (.tr .upd (.var 1) (.var 0) (.bi (.iop .add .u32) txDr163 txDr159))
abbrev txDr166 : E := (.bi .app txDr154 (.bi .app txDr155 txDr161))
abbrev txDr167 : E := (.bi (.iop .add .u32) (.bi (.iop .add .u32) txDr162 txDr164) (.bi .sel (.var 9) (.var 0)))
abbrev txDr168 : E := (.bi .pair (.bi (.iop .add .u32) (.var 4) txDr167) txDr80)
abbrev txDr169 : E := (.bi .pair (.var 2) (.bi .pair (.var 3) txDr168))
abbrev txDr170 : E := (.bi (.iop .add .u32) txDr167 (.bi (.iop .add .u32) txDr141 txDr95))
abbrev txDr171 : E := (.bi .app txDr152 (.bi .app txDr153 txDr166))
abbrev txDr172 : E := (.bi .app txDr150 (.bi .app txDr151 txDr171))
abbrev txDr173 : E := (.bi .app txDr148 (.bi .app txDr149 txDr172))
abbrev txDr174 : E := (.bi .pair txDr170 (.bi .pair (.var 1) txDr169))
abbrev txDr175 : E := (.bi .pair (.bi .add (.var 0) (.int 1)) txDr174)
abbrev txDr176 : E := (.bi .app txDr146 (.bi .app txDr147 txDr173))
abbrev txDr177 : E := (.bi .app txDr144 (.bi .app txDr145 txDr176))
abbrev txDr178 : E := (.bi .app txDr142 (.bi .app txDr143 txDr177))
abbrev vu32Dr (a : E) (j : Int) : AV := .sint .u32 (.bi .sel a (.int j))
def rsprL : LSpec := { n := 89, next := 1, pat := [(5, .sint .i64 (.var 0)), (3, .ptr 1 0)], rows := [(1, .seq ⟨50, .u32, .int 64, .var 1, false, false⟩)], pre := [(.le (.int 16) (.var 0), true), (.le (.var 0) (.int 64), true)], x := 2, fin := [(3, .ptr 1 0)], frows := [(1, .seq ⟨50, .u32, .int 64, .fn 1 (argsE [.var 0, .var 1]), false, false⟩)], same := [1], chg := [3, 5, 6, 7, 47, 48, 49, 50, 51, 52, 53, 54, 55, 56, 57, 58, 59, 60, 61, 62, 63, 64, 65, 66, 67, 68, 69, 70, 71, 72, 73, 74, 75, 76, 77, 78, 79, 80, 81, 82, 83, 84, 85, 86, 87] }
abbrev asDr0 : Q × Bool := ((.le (.int 64) (.var 0)), false)
abbrev asDr1 : Q × Bool := ((.fit .i64 (.bi .add (.var 0) (.int (-15)))), true)
abbrev asDr2 : Q × Bool := ((.le (.int 0) (.bi .add (.var 0) (.int (-15)))), true)
abbrev asDr3 : Q × Bool := ((.le (.int 64) (.bi .add (.var 0) (.int (-15)))), false)
abbrev asDr4 : Q × Bool := ((.fit .i64 (.bi .add (.var 0) (.int (-2)))), true)
abbrev asDr5 : Q × Bool := ((.le (.int 0) (.bi .add (.var 0) (.int (-2)))), true)
abbrev asDr6 : Q × Bool := ((.le (.int 64) (.bi .add (.var 0) (.int (-2)))), false)
abbrev asDr7 : Q × Bool := ((.fit .i64 (.bi .add (.var 0) (.int (-16)))), true)
abbrev asDr8 : Q × Bool := ((.le (.int 0) (.bi .add (.var 0) (.int (-16)))), true)
abbrev asDr9 : Q × Bool := ((.le (.int 64) (.bi .add (.var 0) (.int (-16)))), false)
abbrev asDr10 : Q × Bool := ((.fit .i64 (.bi .add (.var 0) (.int (-7)))), true)
abbrev asDr11 : Q × Bool := ((.le (.int 0) (.bi .add (.var 0) (.int (-7)))), true)
abbrev asDr12 : Q × Bool := ((.le (.int 64) (.bi .add (.var 0) (.int (-7)))), false)
abbrev asDr13 : Q × Bool := ((.le (.int 0) (.var 0)), true)
abbrev asDr14 : Q × Bool := ((.fit .i64 (.bi .add (.var 0) (.int 1))), true)
def rsprL_t0 : List (Q × Bool) := [asDr0, asDr1, asDr2, asDr3, asDr4, asDr5, asDr6, asDr7, asDr8, asDr9, asDr10, asDr11, asDr12, asDr13, asDr14]
def rsprL_d0 : List Duty := [(false, (.fn 1 (.bi .pair (.bi .add (.var 0) (.int 1)) (.bi .pair txDr165 (.int 0)))), (.fn 1 txDr66))]
def rsprL_h0 : List (Nat × E) := [(1, txDr165), (0, (.bi .add (.var 0) (.int 1)))]
theorem rsprL_h0_0 : lookE rsprL_h0 0 = (.bi .add (.var 0) (.int 1)) := rfl
theorem rsprL_h0_1 : lookE rsprL_h0 1 = txDr165 := rfl
theorem rsprL_y0 : nextD rsprL rsprL_h0 [(1, 1)] (roundC Tryd.prog [] [] [] 3000 40 25 [4, 1, 0, 1, 1, 1] (tellA rsprL_t0) rsprL) = some rsprL_d0 := by kernel_rfl
abbrev asDr15 : Q × Bool := ((.le (.int 64) (.var 0)), true)
def rsprL_t1 : List (Q × Bool) := [asDr15]
def rsprL_d1 : List Duty := [(false, (.var 1), (.fn 1 txDr66))]
theorem rsprL_y1 : endD rsprL [(1, 1)] 1000 (roundC Tryd.prog [] [] [] 3000 40 25 [4, 1, 0, 1, 1, 1] (tellA rsprL_t1) rsprL) = some rsprL_d1 := by kernel_rfl
theorem rsprL_holds : LHolds Tryd.prog (loopAt Tryd.prog 25 [4, 1, 0, 1, 1, 1]) rsprL F := by
  refine loop_roundsC sound (tableNil _ _) (specsNil _ _) (oversNil _ _) (fuel := 3000) (depth := 40) (by kernel_rfl) (by kernel_rfl) (by kernel_rfl) (fun d => (64 - (d 0).toInt).toNat) fun d hp hR hA => ?_
  have hp := allTold'_iff.2 hp
  simp only [rsprL, allTold', dutiesTold, factsA, factsC, factsP, factsR, AV.facts, RW.facts, inK, and_true, Q.holds', E.i, E.s, E.n, D.nat, E.den, BO.den, UO.den, TO.den, D.toInt_int, D.toList_list, D.ints_ofInts, i64min, i64max, u8min, u8max, u16min, u16max, u32min, u32max, u64min, u64max, i32min, i32max, Om.sub, selI, ints_app, ints_cut, ints_upd, ints_rep, ints_splice, ints_seg, len_ints] at hp hR hA
  by_cases h : 64 ≤ (d 0).toInt
  · refine ⟨tellA rsprL_t1, tellA_ok (allTold'_iff.1 ?_), .inl ⟨_, _, _, rsprL_y1, dutiesTold_ok ?_⟩⟩
    · simp only [rsprL_t1, allTold', dutiesTold, factsA, factsC, factsP, factsR, AV.facts, RW.facts, inK, and_true, Q.holds', E.i, E.s, E.n, D.nat, E.den, BO.den, UO.den, TO.den, D.toInt_int, D.toList_list, D.ints_ofInts, i64min, i64max, u8min, u8max, u16min, u16max, u32min, u32max, u64min, u64max, i32min, i32max, Om.sub, selI, ints_app, ints_cut, ints_upd, ints_rep, ints_splice, ints_seg, len_ints]
      omega
    · simp only [rsprL_d1, F1, allTold', dutiesTold, factsA, factsC, factsP, factsR, AV.facts, RW.facts, inK, and_true, Q.holds', E.i, E.s, E.n, D.nat, E.den, BO.den, UO.den, TO.den, D.toInt_int, D.toList_list, D.ints_ofInts, i64min, i64max, u8min, u8max, u16min, u16max, u32min, u32max, u64min, u64max, i32min, i32max, Om.sub, selI, ints_app, ints_cut, ints_upd, ints_rep, ints_splice, ints_seg, len_ints]
      rw [show (64 - (d 0).toInt).toNat = 0 by omega]
      rfl
  · refine ⟨tellA rsprL_t0, tellA_ok (allTold'_iff.1 ?_), .inr ⟨rsprL_h0, _, _, rsprL_y0, dutiesTold_ok ?_, allTold'_iff.1 ?_, ?_⟩⟩
    · simp only [rsprL_t0, allTold', dutiesTold, factsA, factsC, factsP, factsR, AV.facts, RW.facts, inK, and_true, Q.holds', E.i, E.s, E.n, D.nat, E.den, BO.den, UO.den, TO.den, D.toInt_int, D.toList_list, D.ints_ofInts, i64min, i64max, u8min, u8max, u16min, u16max, u32min, u32max, u64min, u64max, i32min, i32max, Om.sub, selI, ints_app, ints_cut, ints_upd, ints_rep, ints_splice, ints_seg, len_ints]
      omega
    · simp only [rsprL_d0, F1, allTold', dutiesTold, factsA, factsC, factsP, factsR, AV.facts, RW.facts, inK, and_true, Q.holds', E.i, E.s, E.n, D.nat, E.den, BO.den, UO.den, TO.den, D.toInt_int, D.toList_list, D.ints_ofInts, i64min, i64max, u8min, u8max, u16min, u16max, u32min, u32max, u64min, u64max, i32min, i32max, Om.sub, selI, ints_app, ints_cut, ints_upd, ints_rep, ints_splice, ints_seg, len_ints]
      rw [spr_step2 (d 0).toInt (d 1).ints (by omega)]
      rfl
    · simp only [rsprL, rsprL_h0_0, rsprL_h0_1, allTold', dutiesTold, factsA, factsC, factsP, factsR, AV.facts, RW.facts, inK, and_true, Q.holds', E.i, E.s, E.n, D.nat, E.den, BO.den, UO.den, TO.den, D.toInt_int, D.toList_list, D.ints_ofInts, i64min, i64max, u8min, u8max, u16min, u16max, u32min, u32max, u64min, u64max, i32min, i32max, Om.sub, selI, ints_app, ints_cut, ints_upd, ints_rep, ints_splice, ints_seg, len_ints]
      omega
    · simp only [rsprL_h0_0, rsprL_h0_1, allTold', dutiesTold, factsA, factsC, factsP, factsR, AV.facts, RW.facts, inK, and_true, Q.holds', E.i, E.s, E.n, D.nat, E.den, BO.den, UO.den, TO.den, D.toInt_int, D.toList_list, D.ints_ofInts, i64min, i64max, u8min, u8max, u16min, u16max, u32min, u32max, u64min, u64max, i32min, i32max, Om.sub, selI, ints_app, ints_cut, ints_upd, ints_rep, ints_splice, ints_seg, len_ints]
      omega

def wordsC : CSpec := { args := [.sslice 3 (.var 1) (.var 2) (.var 3) true], next := 2, rows := [(3, .eseq ⟨.u8, .var 4, .var 5⟩)], pre := [(.le (.bi .add (.var 1) (.var 2)) (.var 4), true), (.eq (.var 2) (.int 64), true)], res := .agg [.sint .u32 (.bi .sel (.fn 14 (argsE [.var 5, .var 1])) (.int 0)), .sint .u32 (.bi .sel (.fn 14 (argsE [.var 5, .var 1])) (.int 1)), .sint .u32 (.bi .sel (.fn 14 (argsE [.var 5, .var 1])) (.int 2)), .sint .u32 (.bi .sel (.fn 14 (argsE [.var 5, .var 1])) (.int 3)), .sint .u32 (.bi .sel (.fn 14 (argsE [.var 5, .var 1])) (.int 4)), .sint .u32 (.bi .sel (.fn 14 (argsE [.var 5, .var 1])) (.int 5)), .sint .u32 (.bi .sel (.fn 14 (argsE [.var 5, .var 1])) (.int 6)), .sint .u32 (.bi .sel (.fn 14 (argsE [.var 5, .var 1])) (.int 7)), .sint .u32 (.bi .sel (.fn 14 (argsE [.var 5, .var 1])) (.int 8)), .sint .u32 (.bi .sel (.fn 14 (argsE [.var 5, .var 1])) (.int 9)), .sint .u32 (.bi .sel (.fn 14 (argsE [.var 5, .var 1])) (.int 10)), .sint .u32 (.bi .sel (.fn 14 (argsE [.var 5, .var 1])) (.int 11)), .sint .u32 (.bi .sel (.fn 14 (argsE [.var 5, .var 1])) (.int 12)), .sint .u32 (.bi .sel (.fn 14 (argsE [.var 5, .var 1])) (.int 13)), .sint .u32 (.bi .sel (.fn 14 (argsE [.var 5, .var 1])) (.int 14)), .sint .u32 (.bi .sel (.fn 14 (argsE [.var 5, .var 1])) (.int 15)), .sint .u32 (.bi .sel (.fn 14 (argsE [.var 5, .var 1])) (.int 16)), .sint .u32 (.bi .sel (.fn 14 (argsE [.var 5, .var 1])) (.int 17)), .sint .u32 (.bi .sel (.fn 14 (argsE [.var 5, .var 1])) (.int 18)), .sint .u32 (.bi .sel (.fn 14 (argsE [.var 5, .var 1])) (.int 19)), .sint .u32 (.bi .sel (.fn 14 (argsE [.var 5, .var 1])) (.int 20)), .sint .u32 (.bi .sel (.fn 14 (argsE [.var 5, .var 1])) (.int 21)), .sint .u32 (.bi .sel (.fn 14 (argsE [.var 5, .var 1])) (.int 22)), .sint .u32 (.bi .sel (.fn 14 (argsE [.var 5, .var 1])) (.int 23)), .sint .u32 (.bi .sel (.fn 14 (argsE [.var 5, .var 1])) (.int 24)), .sint .u32 (.bi .sel (.fn 14 (argsE [.var 5, .var 1])) (.int 25)), .sint .u32 (.bi .sel (.fn 14 (argsE [.var 5, .var 1])) (.int 26)), .sint .u32 (.bi .sel (.fn 14 (argsE [.var 5, .var 1])) (.int 27)), .sint .u32 (.bi .sel (.fn 14 (argsE [.var 5, .var 1])) (.int 28)), .sint .u32 (.bi .sel (.fn 14 (argsE [.var 5, .var 1])) (.int 29)), .sint .u32 (.bi .sel (.fn 14 (argsE [.var 5, .var 1])) (.int 30)), .sint .u32 (.bi .sel (.fn 14 (argsE [.var 5, .var 1])) (.int 31)), .sint .u32 (.bi .sel (.fn 14 (argsE [.var 5, .var 1])) (.int 32)), .sint .u32 (.bi .sel (.fn 14 (argsE [.var 5, .var 1])) (.int 33)), .sint .u32 (.bi .sel (.fn 14 (argsE [.var 5, .var 1])) (.int 34)), .sint .u32 (.bi .sel (.fn 14 (argsE [.var 5, .var 1])) (.int 35)), .sint .u32 (.bi .sel (.fn 14 (argsE [.var 5, .var 1])) (.int 36)), .sint .u32 (.bi .sel (.fn 14 (argsE [.var 5, .var 1])) (.int 37)), .sint .u32 (.bi .sel (.fn 14 (argsE [.var 5, .var 1])) (.int 38)), .sint .u32 (.bi .sel (.fn 14 (argsE [.var 5, .var 1])) (.int 39)), .sint .u32 (.bi .sel (.fn 14 (argsE [.var 5, .var 1])) (.int 40)), .sint .u32 (.bi .sel (.fn 14 (argsE [.var 5, .var 1])) (.int 41)), .sint .u32 (.bi .sel (.fn 14 (argsE [.var 5, .var 1])) (.int 42)), .sint .u32 (.bi .sel (.fn 14 (argsE [.var 5, .var 1])) (.int 43)), .sint .u32 (.bi .sel (.fn 14 (argsE [.var 5, .var 1])) (.int 44)), .sint .u32 (.bi .sel (.fn 14 (argsE [.var 5, .var 1])) (.int 45)), .sint .u32 (.bi .sel (.fn 14 (argsE [.var 5, .var 1])) (.int 46)), .sint .u32 (.bi .sel (.fn 14 (argsE [.var 5, .var 1])) (.int 47)), .sint .u32 (.bi .sel (.fn 14 (argsE [.var 5, .var 1])) (.int 48)), .sint .u32 (.bi .sel (.fn 14 (argsE [.var 5, .var 1])) (.int 49)), .sint .u32 (.bi .sel (.fn 14 (argsE [.var 5, .var 1])) (.int 50)), .sint .u32 (.bi .sel (.fn 14 (argsE [.var 5, .var 1])) (.int 51)), .sint .u32 (.bi .sel (.fn 14 (argsE [.var 5, .var 1])) (.int 52)), .sint .u32 (.bi .sel (.fn 14 (argsE [.var 5, .var 1])) (.int 53)), .sint .u32 (.bi .sel (.fn 14 (argsE [.var 5, .var 1])) (.int 54)), .sint .u32 (.bi .sel (.fn 14 (argsE [.var 5, .var 1])) (.int 55)), .sint .u32 (.bi .sel (.fn 14 (argsE [.var 5, .var 1])) (.int 56)), .sint .u32 (.bi .sel (.fn 14 (argsE [.var 5, .var 1])) (.int 57)), .sint .u32 (.bi .sel (.fn 14 (argsE [.var 5, .var 1])) (.int 58)), .sint .u32 (.bi .sel (.fn 14 (argsE [.var 5, .var 1])) (.int 59)), .sint .u32 (.bi .sel (.fn 14 (argsE [.var 5, .var 1])) (.int 60)), .sint .u32 (.bi .sel (.fn 14 (argsE [.var 5, .var 1])) (.int 61)), .sint .u32 (.bi .sel (.fn 14 (argsE [.var 5, .var 1])) (.int 62)), .sint .u32 (.bi .sel (.fn 14 (argsE [.var 5, .var 1])) (.int 63))], frows := [], same := [] }
abbrev asDr16 : Q × Bool := ((.le (.var 2) (.int 0)), false)
abbrev asDr17 : Q × Bool := ((.le (.int 0) (.var 1)), true)
abbrev asDr18 : Q × Bool := ((.le (.var 4) (.var 1)), false)
abbrev asDr19 : Q × Bool := ((.le (.var 2) (.int 1)), false)
abbrev asDr20 : Q × Bool := ((.le (.int 0) (.bi .add (.var 1) (.int 1))), true)
abbrev asDr21 : Q × Bool := ((.le (.var 4) (.bi .add (.var 1) (.int 1))), false)
abbrev asDr22 : Q × Bool := ((.le (.var 2) (.int 2)), false)
abbrev asDr23 : Q × Bool := ((.le (.int 0) (.bi .add (.var 1) (.int 2))), true)
abbrev asDr24 : Q × Bool := ((.le (.var 4) (.bi .add (.var 1) (.int 2))), false)
abbrev asDr25 : Q × Bool := ((.le (.var 2) (.int 3)), false)
abbrev asDr26 : Q × Bool := ((.le (.int 0) (.bi .add (.var 1) (.int 3))), true)
abbrev asDr27 : Q × Bool := ((.le (.var 4) (.bi .add (.var 1) (.int 3))), false)
abbrev asDr28 : Q × Bool := ((.le (.var 2) (.int 4)), false)
abbrev asDr29 : Q × Bool := ((.le (.int 0) (.bi .add (.var 1) (.int 4))), true)
abbrev asDr30 : Q × Bool := ((.le (.var 4) (.bi .add (.var 1) (.int 4))), false)
abbrev asDr31 : Q × Bool := ((.le (.var 2) (.int 5)), false)
abbrev asDr32 : Q × Bool := ((.le (.int 0) (.bi .add (.var 1) (.int 5))), true)
abbrev asDr33 : Q × Bool := ((.le (.var 4) (.bi .add (.var 1) (.int 5))), false)
abbrev asDr34 : Q × Bool := ((.le (.var 2) (.int 6)), false)
abbrev asDr35 : Q × Bool := ((.le (.int 0) (.bi .add (.var 1) (.int 6))), true)
abbrev asDr36 : Q × Bool := ((.le (.var 4) (.bi .add (.var 1) (.int 6))), false)
abbrev asDr37 : Q × Bool := ((.le (.var 2) (.int 7)), false)
abbrev asDr38 : Q × Bool := ((.le (.int 0) (.bi .add (.var 1) (.int 7))), true)
abbrev asDr39 : Q × Bool := ((.le (.var 4) (.bi .add (.var 1) (.int 7))), false)
abbrev asDr40 : Q × Bool := ((.le (.var 2) (.int 8)), false)
abbrev asDr41 : Q × Bool := ((.le (.int 0) (.bi .add (.var 1) (.int 8))), true)
abbrev asDr42 : Q × Bool := ((.le (.var 4) (.bi .add (.var 1) (.int 8))), false)
abbrev asDr43 : Q × Bool := ((.le (.var 2) (.int 9)), false)
abbrev asDr44 : Q × Bool := ((.le (.int 0) (.bi .add (.var 1) (.int 9))), true)
abbrev asDr45 : Q × Bool := ((.le (.var 4) (.bi .add (.var 1) (.int 9))), false)
abbrev asDr46 : Q × Bool := ((.le (.var 2) (.int 10)), false)
abbrev asDr47 : Q × Bool := ((.le (.int 0) (.bi .add (.var 1) (.int 10))), true)
abbrev asDr48 : Q × Bool := ((.le (.var 4) (.bi .add (.var 1) (.int 10))), false)
abbrev asDr49 : Q × Bool := ((.le (.var 2) (.int 11)), false)
abbrev asDr50 : Q × Bool := ((.le (.int 0) (.bi .add (.var 1) (.int 11))), true)
abbrev asDr51 : Q × Bool := ((.le (.var 4) (.bi .add (.var 1) (.int 11))), false)
abbrev asDr52 : Q × Bool := ((.le (.var 2) (.int 12)), false)
abbrev asDr53 : Q × Bool := ((.le (.int 0) (.bi .add (.var 1) (.int 12))), true)
abbrev asDr54 : Q × Bool := ((.le (.var 4) (.bi .add (.var 1) (.int 12))), false)
abbrev asDr55 : Q × Bool := ((.le (.var 2) (.int 13)), false)
abbrev asDr56 : Q × Bool := ((.le (.int 0) (.bi .add (.var 1) (.int 13))), true)
abbrev asDr57 : Q × Bool := ((.le (.var 4) (.bi .add (.var 1) (.int 13))), false)
abbrev asDr58 : Q × Bool := ((.le (.var 2) (.int 14)), false)
abbrev asDr59 : Q × Bool := ((.le (.int 0) (.bi .add (.var 1) (.int 14))), true)
abbrev asDr60 : Q × Bool := ((.le (.var 4) (.bi .add (.var 1) (.int 14))), false)
abbrev asDr61 : Q × Bool := ((.le (.var 2) (.int 15)), false)
abbrev asDr62 : Q × Bool := ((.le (.int 0) (.bi .add (.var 1) (.int 15))), true)
abbrev asDr63 : Q × Bool := ((.le (.var 4) (.bi .add (.var 1) (.int 15))), false)
abbrev asDr64 : Q × Bool := ((.le (.var 2) (.int 16)), false)
abbrev asDr65 : Q × Bool := ((.le (.int 0) (.bi .add (.var 1) (.int 16))), true)
abbrev asDr66 : Q × Bool := ((.le (.var 4) (.bi .add (.var 1) (.int 16))), false)
abbrev asDr67 : Q × Bool := ((.le (.var 2) (.int 17)), false)
abbrev asDr68 : Q × Bool := ((.le (.int 0) (.bi .add (.var 1) (.int 17))), true)
abbrev asDr69 : Q × Bool := ((.le (.var 4) (.bi .add (.var 1) (.int 17))), false)
abbrev asDr70 : Q × Bool := ((.le (.var 2) (.int 18)), false)
abbrev asDr71 : Q × Bool := ((.le (.int 0) (.bi .add (.var 1) (.int 18))), true)
abbrev asDr72 : Q × Bool := ((.le (.var 4) (.bi .add (.var 1) (.int 18))), false)
abbrev asDr73 : Q × Bool := ((.le (.var 2) (.int 19)), false)
abbrev asDr74 : Q × Bool := ((.le (.int 0) (.bi .add (.var 1) (.int 19))), true)
abbrev asDr75 : Q × Bool := ((.le (.var 4) (.bi .add (.var 1) (.int 19))), false)
abbrev asDr76 : Q × Bool := ((.le (.var 2) (.int 20)), false)
abbrev asDr77 : Q × Bool := ((.le (.int 0) (.bi .add (.var 1) (.int 20))), true)
abbrev asDr78 : Q × Bool := ((.le (.var 4) (.bi .add (.var 1) (.int 20))), false)
abbrev asDr79 : Q × Bool := ((.le (.var 2) (.int 21)), false)
abbrev asDr80 : Q × Bool := ((.le (.int 0) (.bi .add (.var 1) (.int 21))), true)
abbrev asDr81 : Q × Bool := ((.le (.var 4) (.bi .add (.var 1) (.int 21))), false)
abbrev asDr82 : Q × Bool := ((.le (.var 2) (.int 22)), false)
abbrev asDr83 : Q × Bool := ((.le (.int 0) (.bi .add (.var 1) (.int 22))), true)
abbrev asDr84 : Q × Bool := ((.le (.var 4) (.bi .add (.var 1) (.int 22))), false)
abbrev asDr85 : Q × Bool := ((.le (.var 2) (.int 23)), false)
abbrev asDr86 : Q × Bool := ((.le (.int 0) (.bi .add (.var 1) (.int 23))), true)
abbrev asDr87 : Q × Bool := ((.le (.var 4) (.bi .add (.var 1) (.int 23))), false)
abbrev asDr88 : Q × Bool := ((.le (.var 2) (.int 24)), false)
abbrev asDr89 : Q × Bool := ((.le (.int 0) (.bi .add (.var 1) (.int 24))), true)
abbrev asDr90 : Q × Bool := ((.le (.var 4) (.bi .add (.var 1) (.int 24))), false)
abbrev asDr91 : Q × Bool := ((.le (.var 2) (.int 25)), false)
abbrev asDr92 : Q × Bool := ((.le (.int 0) (.bi .add (.var 1) (.int 25))), true)
abbrev asDr93 : Q × Bool := ((.le (.var 4) (.bi .add (.var 1) (.int 25))), false)
abbrev asDr94 : Q × Bool := ((.le (.var 2) (.int 26)), false)
abbrev asDr95 : Q × Bool := ((.le (.int 0) (.bi .add (.var 1) (.int 26))), true)
abbrev asDr96 : Q × Bool := ((.le (.var 4) (.bi .add (.var 1) (.int 26))), false)
abbrev asDr97 : Q × Bool := ((.le (.var 2) (.int 27)), false)
abbrev asDr98 : Q × Bool := ((.le (.int 0) (.bi .add (.var 1) (.int 27))), true)
abbrev asDr99 : Q × Bool := ((.le (.var 4) (.bi .add (.var 1) (.int 27))), false)
abbrev asDr100 : Q × Bool := ((.le (.var 2) (.int 28)), false)
abbrev asDr101 : Q × Bool := ((.le (.int 0) (.bi .add (.var 1) (.int 28))), true)
abbrev asDr102 : Q × Bool := ((.le (.var 4) (.bi .add (.var 1) (.int 28))), false)
abbrev asDr103 : Q × Bool := ((.le (.var 2) (.int 29)), false)
abbrev asDr104 : Q × Bool := ((.le (.int 0) (.bi .add (.var 1) (.int 29))), true)
abbrev asDr105 : Q × Bool := ((.le (.var 4) (.bi .add (.var 1) (.int 29))), false)
abbrev asDr106 : Q × Bool := ((.le (.var 2) (.int 30)), false)
abbrev asDr107 : Q × Bool := ((.le (.int 0) (.bi .add (.var 1) (.int 30))), true)
abbrev asDr108 : Q × Bool := ((.le (.var 4) (.bi .add (.var 1) (.int 30))), false)
abbrev asDr109 : Q × Bool := ((.le (.var 2) (.int 31)), false)
abbrev asDr110 : Q × Bool := ((.le (.int 0) (.bi .add (.var 1) (.int 31))), true)
abbrev asDr111 : Q × Bool := ((.le (.var 4) (.bi .add (.var 1) (.int 31))), false)
abbrev asDr112 : Q × Bool := ((.le (.var 2) (.int 32)), false)
abbrev asDr113 : Q × Bool := ((.le (.int 0) (.bi .add (.var 1) (.int 32))), true)
abbrev asDr114 : Q × Bool := ((.le (.var 4) (.bi .add (.var 1) (.int 32))), false)
abbrev asDr115 : Q × Bool := ((.le (.var 2) (.int 33)), false)
abbrev asDr116 : Q × Bool := ((.le (.int 0) (.bi .add (.var 1) (.int 33))), true)
abbrev asDr117 : Q × Bool := ((.le (.var 4) (.bi .add (.var 1) (.int 33))), false)
abbrev asDr118 : Q × Bool := ((.le (.var 2) (.int 34)), false)
abbrev asDr119 : Q × Bool := ((.le (.int 0) (.bi .add (.var 1) (.int 34))), true)
abbrev asDr120 : Q × Bool := ((.le (.var 4) (.bi .add (.var 1) (.int 34))), false)
abbrev asDr121 : Q × Bool := ((.le (.var 2) (.int 35)), false)
abbrev asDr122 : Q × Bool := ((.le (.int 0) (.bi .add (.var 1) (.int 35))), true)
abbrev asDr123 : Q × Bool := ((.le (.var 4) (.bi .add (.var 1) (.int 35))), false)
abbrev asDr124 : Q × Bool := ((.le (.var 2) (.int 36)), false)
abbrev asDr125 : Q × Bool := ((.le (.int 0) (.bi .add (.var 1) (.int 36))), true)
abbrev asDr126 : Q × Bool := ((.le (.var 4) (.bi .add (.var 1) (.int 36))), false)
abbrev asDr127 : Q × Bool := ((.le (.var 2) (.int 37)), false)
abbrev asDr128 : Q × Bool := ((.le (.int 0) (.bi .add (.var 1) (.int 37))), true)
abbrev asDr129 : Q × Bool := ((.le (.var 4) (.bi .add (.var 1) (.int 37))), false)
abbrev asDr130 : Q × Bool := ((.le (.var 2) (.int 38)), false)
abbrev asDr131 : Q × Bool := ((.le (.int 0) (.bi .add (.var 1) (.int 38))), true)
abbrev asDr132 : Q × Bool := ((.le (.var 4) (.bi .add (.var 1) (.int 38))), false)
abbrev asDr133 : Q × Bool := ((.le (.var 2) (.int 39)), false)
abbrev asDr134 : Q × Bool := ((.le (.int 0) (.bi .add (.var 1) (.int 39))), true)
abbrev asDr135 : Q × Bool := ((.le (.var 4) (.bi .add (.var 1) (.int 39))), false)
abbrev asDr136 : Q × Bool := ((.le (.var 2) (.int 40)), false)
abbrev asDr137 : Q × Bool := ((.le (.int 0) (.bi .add (.var 1) (.int 40))), true)
abbrev asDr138 : Q × Bool := ((.le (.var 4) (.bi .add (.var 1) (.int 40))), false)
abbrev asDr139 : Q × Bool := ((.le (.var 2) (.int 41)), false)
abbrev asDr140 : Q × Bool := ((.le (.int 0) (.bi .add (.var 1) (.int 41))), true)
abbrev asDr141 : Q × Bool := ((.le (.var 4) (.bi .add (.var 1) (.int 41))), false)
abbrev asDr142 : Q × Bool := ((.le (.var 2) (.int 42)), false)
abbrev asDr143 : Q × Bool := ((.le (.int 0) (.bi .add (.var 1) (.int 42))), true)
abbrev asDr144 : Q × Bool := ((.le (.var 4) (.bi .add (.var 1) (.int 42))), false)
abbrev asDr145 : Q × Bool := ((.le (.var 2) (.int 43)), false)
abbrev asDr146 : Q × Bool := ((.le (.int 0) (.bi .add (.var 1) (.int 43))), true)
abbrev asDr147 : Q × Bool := ((.le (.var 4) (.bi .add (.var 1) (.int 43))), false)
abbrev asDr148 : Q × Bool := ((.le (.var 2) (.int 44)), false)
abbrev asDr149 : Q × Bool := ((.le (.int 0) (.bi .add (.var 1) (.int 44))), true)
abbrev asDr150 : Q × Bool := ((.le (.var 4) (.bi .add (.var 1) (.int 44))), false)
abbrev asDr151 : Q × Bool := ((.le (.var 2) (.int 45)), false)
abbrev asDr152 : Q × Bool := ((.le (.int 0) (.bi .add (.var 1) (.int 45))), true)
abbrev asDr153 : Q × Bool := ((.le (.var 4) (.bi .add (.var 1) (.int 45))), false)
abbrev asDr154 : Q × Bool := ((.le (.var 2) (.int 46)), false)
abbrev asDr155 : Q × Bool := ((.le (.int 0) (.bi .add (.var 1) (.int 46))), true)
abbrev asDr156 : Q × Bool := ((.le (.var 4) (.bi .add (.var 1) (.int 46))), false)
abbrev asDr157 : Q × Bool := ((.le (.var 2) (.int 47)), false)
abbrev asDr158 : Q × Bool := ((.le (.int 0) (.bi .add (.var 1) (.int 47))), true)
abbrev asDr159 : Q × Bool := ((.le (.var 4) (.bi .add (.var 1) (.int 47))), false)
abbrev asDr160 : Q × Bool := ((.le (.var 2) (.int 48)), false)
abbrev asDr161 : Q × Bool := ((.le (.int 0) (.bi .add (.var 1) (.int 48))), true)
abbrev asDr162 : Q × Bool := ((.le (.var 4) (.bi .add (.var 1) (.int 48))), false)
abbrev asDr163 : Q × Bool := ((.le (.var 2) (.int 49)), false)
abbrev asDr164 : Q × Bool := ((.le (.int 0) (.bi .add (.var 1) (.int 49))), true)
abbrev asDr165 : Q × Bool := ((.le (.var 4) (.bi .add (.var 1) (.int 49))), false)
abbrev asDr166 : Q × Bool := ((.le (.var 2) (.int 50)), false)
abbrev asDr167 : Q × Bool := ((.le (.int 0) (.bi .add (.var 1) (.int 50))), true)
abbrev asDr168 : Q × Bool := ((.le (.var 4) (.bi .add (.var 1) (.int 50))), false)
abbrev asDr169 : Q × Bool := ((.le (.var 2) (.int 51)), false)
abbrev asDr170 : Q × Bool := ((.le (.int 0) (.bi .add (.var 1) (.int 51))), true)
abbrev asDr171 : Q × Bool := ((.le (.var 4) (.bi .add (.var 1) (.int 51))), false)
abbrev asDr172 : Q × Bool := ((.le (.var 2) (.int 52)), false)
abbrev asDr173 : Q × Bool := ((.le (.int 0) (.bi .add (.var 1) (.int 52))), true)
abbrev asDr174 : Q × Bool := ((.le (.var 4) (.bi .add (.var 1) (.int 52))), false)
abbrev asDr175 : Q × Bool := ((.le (.var 2) (.int 53)), false)
abbrev asDr176 : Q × Bool := ((.le (.int 0) (.bi .add (.var 1) (.int 53))), true)
abbrev asDr177 : Q × Bool := ((.le (.var 4) (.bi .add (.var 1) (.int 53))), false)
abbrev asDr178 : Q × Bool := ((.le (.var 2) (.int 54)), false)
abbrev asDr179 : Q × Bool := ((.le (.int 0) (.bi .add (.var 1) (.int 54))), true)
abbrev asDr180 : Q × Bool := ((.le (.var 4) (.bi .add (.var 1) (.int 54))), false)
abbrev asDr181 : Q × Bool := ((.le (.var 2) (.int 55)), false)
abbrev asDr182 : Q × Bool := ((.le (.int 0) (.bi .add (.var 1) (.int 55))), true)
abbrev asDr183 : Q × Bool := ((.le (.var 4) (.bi .add (.var 1) (.int 55))), false)
abbrev asDr184 : Q × Bool := ((.le (.var 2) (.int 56)), false)
abbrev asDr185 : Q × Bool := ((.le (.int 0) (.bi .add (.var 1) (.int 56))), true)
abbrev asDr186 : Q × Bool := ((.le (.var 4) (.bi .add (.var 1) (.int 56))), false)
abbrev asDr187 : Q × Bool := ((.le (.var 2) (.int 57)), false)
abbrev asDr188 : Q × Bool := ((.le (.int 0) (.bi .add (.var 1) (.int 57))), true)
abbrev asDr189 : Q × Bool := ((.le (.var 4) (.bi .add (.var 1) (.int 57))), false)
abbrev asDr190 : Q × Bool := ((.le (.var 2) (.int 58)), false)
abbrev asDr191 : Q × Bool := ((.le (.int 0) (.bi .add (.var 1) (.int 58))), true)
abbrev asDr192 : Q × Bool := ((.le (.var 4) (.bi .add (.var 1) (.int 58))), false)
abbrev asDr193 : Q × Bool := ((.le (.var 2) (.int 59)), false)
abbrev asDr194 : Q × Bool := ((.le (.int 0) (.bi .add (.var 1) (.int 59))), true)
abbrev asDr195 : Q × Bool := ((.le (.var 4) (.bi .add (.var 1) (.int 59))), false)
abbrev asDr196 : Q × Bool := ((.le (.var 2) (.int 60)), false)
abbrev asDr197 : Q × Bool := ((.le (.int 0) (.bi .add (.var 1) (.int 60))), true)
abbrev asDr198 : Q × Bool := ((.le (.var 4) (.bi .add (.var 1) (.int 60))), false)
abbrev asDr199 : Q × Bool := ((.le (.var 2) (.int 61)), false)
abbrev asDr200 : Q × Bool := ((.le (.int 0) (.bi .add (.var 1) (.int 61))), true)
abbrev asDr201 : Q × Bool := ((.le (.var 4) (.bi .add (.var 1) (.int 61))), false)
abbrev asDr202 : Q × Bool := ((.le (.var 2) (.int 62)), false)
abbrev asDr203 : Q × Bool := ((.le (.int 0) (.bi .add (.var 1) (.int 62))), true)
abbrev asDr204 : Q × Bool := ((.le (.var 4) (.bi .add (.var 1) (.int 62))), false)
abbrev asDr205 : Q × Bool := ((.le (.var 2) (.int 63)), false)
abbrev asDr206 : Q × Bool := ((.le (.int 0) (.bi .add (.var 1) (.int 63))), true)
abbrev asDr207 : Q × Bool := ((.le (.var 4) (.bi .add (.var 1) (.int 63))), false)
def wordsC_t0 : List (Q × Bool) := [asDr16, asDr17, asDr18, asDr19, asDr20, asDr21, asDr22, asDr23, asDr24, asDr25, asDr26, asDr27, asDr28, asDr29, asDr30, asDr31, asDr32, asDr33, asDr34, asDr35, asDr36, asDr37, asDr38, asDr39, asDr40, asDr41, asDr42, asDr43, asDr44, asDr45, asDr46, asDr47, asDr48, asDr49, asDr50, asDr51, asDr52, asDr53, asDr54, asDr55, asDr56, asDr57, asDr58, asDr59, asDr60, asDr61, asDr62, asDr63, asDr64, asDr65, asDr66, asDr67, asDr68, asDr69, asDr70, asDr71, asDr72, asDr73, asDr74, asDr75, asDr76, asDr77, asDr78, asDr79, asDr80, asDr81, asDr82, asDr83, asDr84, asDr85, asDr86, asDr87, asDr88, asDr89, asDr90, asDr91, asDr92, asDr93, asDr94, asDr95, asDr96, asDr97, asDr98, asDr99, asDr100, asDr101, asDr102, asDr103, asDr104, asDr105, asDr106, asDr107, asDr108, asDr109, asDr110, asDr111, asDr112, asDr113, asDr114, asDr115, asDr116, asDr117, asDr118, asDr119, asDr120, asDr121, asDr122, asDr123, asDr124, asDr125, asDr126, asDr127, asDr128, asDr129, asDr130, asDr131, asDr132, asDr133, asDr134, asDr135, asDr136, asDr137, asDr138, asDr139, asDr140, asDr141, asDr142, asDr143, asDr144, asDr145, asDr146, asDr147, asDr148, asDr149, asDr150, asDr151, asDr152, asDr153, asDr154, asDr155, asDr156, asDr157, asDr158, asDr159, asDr160, asDr161, asDr162, asDr163, asDr164, asDr165, asDr166, asDr167, asDr168, asDr169, asDr170, asDr171, asDr172, asDr173, asDr174, asDr175, asDr176, asDr177, asDr178, asDr179, asDr180, asDr181, asDr182, asDr183, asDr184, asDr185, asDr186, asDr187, asDr188, asDr189, asDr190, asDr191, asDr192, asDr193, asDr194, asDr195, asDr196, asDr197, asDr198, asDr199, asDr200, asDr201, asDr202, asDr203, asDr204, asDr205, asDr206, asDr207]
def wordsC_d0 : List Duty := [(true, (.bi .sel (.fn 1 (.bi .pair (.int 16) (.bi .pair (.bi .app txDr138 txDr178) (.int 0)))) (.int 0)), (.bi .sel (.fn 14 txDr67) (.int 0))), (true, (.bi .sel (.fn 1 (.bi .pair (.int 16) (.bi .pair (.bi .app txDr138 txDr178) (.int 0)))) (.int 1)), (.bi .sel (.fn 14 txDr67) (.int 1))), (true, (.bi .sel (.fn 1 (.bi .pair (.int 16) (.bi .pair (.bi .app txDr138 txDr178) (.int 0)))) (.int 2)), (.bi .sel (.fn 14 txDr67) (.int 2))), (true, (.bi .sel (.fn 1 (.bi .pair (.int 16) (.bi .pair (.bi .app txDr138 txDr178) (.int 0)))) (.int 3)), (.bi .sel (.fn 14 txDr67) (.int 3))), (true, (.bi .sel (.fn 1 (.bi .pair (.int 16) (.bi .pair (.bi .app txDr138 txDr178) (.int 0)))) (.int 4)), (.bi .sel (.fn 14 txDr67) (.int 4))), (true, (.bi .sel (.fn 1 (.bi .pair (.int 16) (.bi .pair (.bi .app txDr138 txDr178) (.int 0)))) (.int 5)), (.bi .sel (.fn 14 txDr67) (.int 5))), (true, (.bi .sel (.fn 1 (.bi .pair (.int 16) (.bi .pair (.bi .app txDr138 txDr178) (.int 0)))) (.int 6)), (.bi .sel (.fn 14 txDr67) (.int 6))), (true, (.bi .sel (.fn 1 (.bi .pair (.int 16) (.bi .pair (.bi .app txDr138 txDr178) (.int 0)))) (.int 7)), (.bi .sel (.fn 14 txDr67) (.int 7))), (true, (.bi .sel (.fn 1 (.bi .pair (.int 16) (.bi .pair (.bi .app txDr138 txDr178) (.int 0)))) (.int 8)), (.bi .sel (.fn 14 txDr67) (.int 8))), (true, (.bi .sel (.fn 1 (.bi .pair (.int 16) (.bi .pair (.bi .app txDr138 txDr178) (.int 0)))) (.int 9)), (.bi .sel (.fn 14 txDr67) (.int 9))), (true, (.bi .sel (.fn 1 (.bi .pair (.int 16) (.bi .pair (.bi .app txDr138 txDr178) (.int 0)))) (.int 10)), (.bi .sel (.fn 14 txDr67) (.int 10))), (true, (.bi .sel (.fn 1 (.bi .pair (.int 16) (.bi .pair (.bi .app txDr138 txDr178) (.int 0)))) (.int 11)), (.bi .sel (.fn 14 txDr67) (.int 11))), (true, (.bi .sel (.fn 1 (.bi .pair (.int 16) (.bi .pair (.bi .app txDr138 txDr178) (.int 0)))) (.int 12)), (.bi .sel (.fn 14 txDr67) (.int 12))), (true, (.bi .sel (.fn 1 (.bi .pair (.int 16) (.bi .pair (.bi .app txDr138 txDr178) (.int 0)))) (.int 13)), (.bi .sel (.fn 14 txDr67) (.int 13))), (true, (.bi .sel (.fn 1 (.bi .pair (.int 16) (.bi .pair (.bi .app txDr138 txDr178) (.int 0)))) (.int 14)), (.bi .sel (.fn 14 txDr67) (.int 14))), (true, (.bi .sel (.fn 1 (.bi .pair (.int 16) (.bi .pair (.bi .app txDr138 txDr178) (.int 0)))) (.int 15)), (.bi .sel (.fn 14 txDr67) (.int 15))), (true, (.bi .sel (.fn 1 (.bi .pair (.int 16) (.bi .pair (.bi .app txDr138 txDr178) (.int 0)))) (.int 16)), (.bi .sel (.fn 14 txDr67) (.int 16))), (true, (.bi .sel (.fn 1 (.bi .pair (.int 16) (.bi .pair (.bi .app txDr138 txDr178) (.int 0)))) (.int 17)), (.bi .sel (.fn 14 txDr67) (.int 17))), (true, (.bi .sel (.fn 1 (.bi .pair (.int 16) (.bi .pair (.bi .app txDr138 txDr178) (.int 0)))) (.int 18)), (.bi .sel (.fn 14 txDr67) (.int 18))), (true, (.bi .sel (.fn 1 (.bi .pair (.int 16) (.bi .pair (.bi .app txDr138 txDr178) (.int 0)))) (.int 19)), (.bi .sel (.fn 14 txDr67) (.int 19))), (true, (.bi .sel (.fn 1 (.bi .pair (.int 16) (.bi .pair (.bi .app txDr138 txDr178) (.int 0)))) (.int 20)), (.bi .sel (.fn 14 txDr67) (.int 20))), (true, (.bi .sel (.fn 1 (.bi .pair (.int 16) (.bi .pair (.bi .app txDr138 txDr178) (.int 0)))) (.int 21)), (.bi .sel (.fn 14 txDr67) (.int 21))), (true, (.bi .sel (.fn 1 (.bi .pair (.int 16) (.bi .pair (.bi .app txDr138 txDr178) (.int 0)))) (.int 22)), (.bi .sel (.fn 14 txDr67) (.int 22))), (true, (.bi .sel (.fn 1 (.bi .pair (.int 16) (.bi .pair (.bi .app txDr138 txDr178) (.int 0)))) (.int 23)), (.bi .sel (.fn 14 txDr67) (.int 23))), (true, (.bi .sel (.fn 1 (.bi .pair (.int 16) (.bi .pair (.bi .app txDr138 txDr178) (.int 0)))) (.int 24)), (.bi .sel (.fn 14 txDr67) (.int 24))), (true, (.bi .sel (.fn 1 (.bi .pair (.int 16) (.bi .pair (.bi .app txDr138 txDr178) (.int 0)))) (.int 25)), (.bi .sel (.fn 14 txDr67) (.int 25))), (true, (.bi .sel (.fn 1 (.bi .pair (.int 16) (.bi .pair (.bi .app txDr138 txDr178) (.int 0)))) (.int 26)), (.bi .sel (.fn 14 txDr67) (.int 26))), (true, (.bi .sel (.fn 1 (.bi .pair (.int 16) (.bi .pair (.bi .app txDr138 txDr178) (.int 0)))) (.int 27)), (.bi .sel (.fn 14 txDr67) (.int 27))), (true, (.bi .sel (.fn 1 (.bi .pair (.int 16) (.bi .pair (.bi .app txDr138 txDr178) (.int 0)))) (.int 28)), (.bi .sel (.fn 14 txDr67) (.int 28))), (true, (.bi .sel (.fn 1 (.bi .pair (.int 16) (.bi .pair (.bi .app txDr138 txDr178) (.int 0)))) (.int 29)), (.bi .sel (.fn 14 txDr67) (.int 29))), (true, (.bi .sel (.fn 1 (.bi .pair (.int 16) (.bi .pair (.bi .app txDr138 txDr178) (.int 0)))) (.int 30)), (.bi .sel (.fn 14 txDr67) (.int 30))), (true, (.bi .sel (.fn 1 (.bi .pair (.int 16) (.bi .pair (.bi .app txDr138 txDr178) (.int 0)))) (.int 31)), (.bi .sel (.fn 14 txDr67) (.int 31))), (true, (.bi .sel (.fn 1 (.bi .pair (.int 16) (.bi .pair (.bi .app txDr138 txDr178) (.int 0)))) (.int 32)), (.bi .sel (.fn 14 txDr67) (.int 32))), (true, (.bi .sel (.fn 1 (.bi .pair (.int 16) (.bi .pair (.bi .app txDr138 txDr178) (.int 0)))) (.int 33)), (.bi .sel (.fn 14 txDr67) (.int 33))), (true, (.bi .sel (.fn 1 (.bi .pair (.int 16) (.bi .pair (.bi .app txDr138 txDr178) (.int 0)))) (.int 34)), (.bi .sel (.fn 14 txDr67) (.int 34))), (true, (.bi .sel (.fn 1 (.bi .pair (.int 16) (.bi .pair (.bi .app txDr138 txDr178) (.int 0)))) (.int 35)), (.bi .sel (.fn 14 txDr67) (.int 35))), (true, (.bi .sel (.fn 1 (.bi .pair (.int 16) (.bi .pair (.bi .app txDr138 txDr178) (.int 0)))) (.int 36)), (.bi .sel (.fn 14 txDr67) (.int 36))), (true, (.bi .sel (.fn 1 (.bi .pair (.int 16) (.bi .pair (.bi .app txDr138 txDr178) (.int 0)))) (.int 37)), (.bi .sel (.fn 14 txDr67) (.int 37))), (true, (.bi .sel (.fn 1 (.bi .pair (.int 16) (.bi .pair (.bi .app txDr138 txDr178) (.int 0)))) (.int 38)), (.bi .sel (.fn 14 txDr67) (.int 38))), (true, (.bi .sel (.fn 1 (.bi .pair (.int 16) (.bi .pair (.bi .app txDr138 txDr178) (.int 0)))) (.int 39)), (.bi .sel (.fn 14 txDr67) (.int 39))), (true, (.bi .sel (.fn 1 (.bi .pair (.int 16) (.bi .pair (.bi .app txDr138 txDr178) (.int 0)))) (.int 40)), (.bi .sel (.fn 14 txDr67) (.int 40))), (true, (.bi .sel (.fn 1 (.bi .pair (.int 16) (.bi .pair (.bi .app txDr138 txDr178) (.int 0)))) (.int 41)), (.bi .sel (.fn 14 txDr67) (.int 41))), (true, (.bi .sel (.fn 1 (.bi .pair (.int 16) (.bi .pair (.bi .app txDr138 txDr178) (.int 0)))) (.int 42)), (.bi .sel (.fn 14 txDr67) (.int 42))), (true, (.bi .sel (.fn 1 (.bi .pair (.int 16) (.bi .pair (.bi .app txDr138 txDr178) (.int 0)))) (.int 43)), (.bi .sel (.fn 14 txDr67) (.int 43))), (true, (.bi .sel (.fn 1 (.bi .pair (.int 16) (.bi .pair (.bi .app txDr138 txDr178) (.int 0)))) (.int 44)), (.bi .sel (.fn 14 txDr67) (.int 44))), (true, (.bi .sel (.fn 1 (.bi .pair (.int 16) (.bi .pair (.bi .app txDr138 txDr178) (.int 0)))) (.int 45)), (.bi .sel (.fn 14 txDr67) (.int 45))), (true, (.bi .sel (.fn 1 (.bi .pair (.int 16) (.bi .pair (.bi .app txDr138 txDr178) (.int 0)))) (.int 46)), (.bi .sel (.fn 14 txDr67) (.int 46))), (true, (.bi .sel (.fn 1 (.bi .pair (.int 16) (.bi .pair (.bi .app txDr138 txDr178) (.int 0)))) (.int 47)), (.bi .sel (.fn 14 txDr67) (.int 47))), (true, (.bi .sel (.fn 1 (.bi .pair (.int 16) (.bi .pair (.bi .app txDr138 txDr178) (.int 0)))) (.int 48)), (.bi .sel (.fn 14 txDr67) (.int 48))), (true, (.bi .sel (.fn 1 (.bi .pair (.int 16) (.bi .pair (.bi .app txDr138 txDr178) (.int 0)))) (.int 49)), (.bi .sel (.fn 14 txDr67) (.int 49))), (true, (.bi .sel (.fn 1 (.bi .pair (.int 16) (.bi .pair (.bi .app txDr138 txDr178) (.int 0)))) (.int 50)), (.bi .sel (.fn 14 txDr67) (.int 50))), (true, (.bi .sel (.fn 1 (.bi .pair (.int 16) (.bi .pair (.bi .app txDr138 txDr178) (.int 0)))) (.int 51)), (.bi .sel (.fn 14 txDr67) (.int 51))), (true, (.bi .sel (.fn 1 (.bi .pair (.int 16) (.bi .pair (.bi .app txDr138 txDr178) (.int 0)))) (.int 52)), (.bi .sel (.fn 14 txDr67) (.int 52))), (true, (.bi .sel (.fn 1 (.bi .pair (.int 16) (.bi .pair (.bi .app txDr138 txDr178) (.int 0)))) (.int 53)), (.bi .sel (.fn 14 txDr67) (.int 53))), (true, (.bi .sel (.fn 1 (.bi .pair (.int 16) (.bi .pair (.bi .app txDr138 txDr178) (.int 0)))) (.int 54)), (.bi .sel (.fn 14 txDr67) (.int 54))), (true, (.bi .sel (.fn 1 (.bi .pair (.int 16) (.bi .pair (.bi .app txDr138 txDr178) (.int 0)))) (.int 55)), (.bi .sel (.fn 14 txDr67) (.int 55))), (true, (.bi .sel (.fn 1 (.bi .pair (.int 16) (.bi .pair (.bi .app txDr138 txDr178) (.int 0)))) (.int 56)), (.bi .sel (.fn 14 txDr67) (.int 56))), (true, (.bi .sel (.fn 1 (.bi .pair (.int 16) (.bi .pair (.bi .app txDr138 txDr178) (.int 0)))) (.int 57)), (.bi .sel (.fn 14 txDr67) (.int 57))), (true, (.bi .sel (.fn 1 (.bi .pair (.int 16) (.bi .pair (.bi .app txDr138 txDr178) (.int 0)))) (.int 58)), (.bi .sel (.fn 14 txDr67) (.int 58))), (true, (.bi .sel (.fn 1 (.bi .pair (.int 16) (.bi .pair (.bi .app txDr138 txDr178) (.int 0)))) (.int 59)), (.bi .sel (.fn 14 txDr67) (.int 59))), (true, (.bi .sel (.fn 1 (.bi .pair (.int 16) (.bi .pair (.bi .app txDr138 txDr178) (.int 0)))) (.int 60)), (.bi .sel (.fn 14 txDr67) (.int 60))), (true, (.bi .sel (.fn 1 (.bi .pair (.int 16) (.bi .pair (.bi .app txDr138 txDr178) (.int 0)))) (.int 61)), (.bi .sel (.fn 14 txDr67) (.int 61))), (true, (.bi .sel (.fn 1 (.bi .pair (.int 16) (.bi .pair (.bi .app txDr138 txDr178) (.int 0)))) (.int 62)), (.bi .sel (.fn 14 txDr67) (.int 62))), (true, (.bi .sel (.fn 1 (.bi .pair (.int 16) (.bi .pair (.bi .app txDr138 txDr178) (.int 0)))) (.int 63)), (.bi .sel (.fn 14 txDr67) (.int 63)))]
theorem wordsC_y0 : endC wordsC [] 1000 (callC Tryd.prog (tellA wordsC_t0) [⟨25, [4, 1, 0, 1, 1, 1], rsprL⟩] [] [] 3000 40 25 wordsC) = some wordsC_d0 := by kernel_rfl
set_option maxRecDepth 100000 in
theorem wordsC_holds : CHolds Tryd.prog 25 wordsC F := by
  refine cholds_of sound (tableCons rsprL_holds (tableNil _ _)) (specsNil _ _) (oversNil _ _) (fuel := 3000) (depth := 40) (by kernel_rfl) fun d hp hR hA => ?_
  have hp := allTold'_iff.2 hp
  simp only [wordsC, allTold', dutiesTold, factsA, factsC, factsP, factsR, AV.facts, RW.facts, inK, and_true, Q.holds', E.i, E.s, E.n, D.nat, E.den, BO.den, UO.den, TO.den, D.toInt_int, D.toList_list, D.ints_ofInts, i64min, i64max, u8min, u8max, u16min, u16max, u32min, u32max, u64min, u64max, i32min, i32max, Om.sub, selI, ints_app, ints_cut, ints_upd, ints_rep, ints_splice, ints_seg, len_ints] at hp hR hA
  refine ⟨tellA wordsC_t0, _, _, _, tellA_ok (allTold'_iff.1 ?_), wordsC_y0, dutiesTold_ok ?_⟩
  · simp only [wordsC_t0, allTold', dutiesTold, factsA, factsC, factsP, factsR, AV.facts, RW.facts, inK, and_true, Q.holds', E.i, E.s, E.n, D.nat, E.den, BO.den, UO.den, TO.den, D.toInt_int, D.toList_list, D.ints_ofInts, i64min, i64max, u8min, u8max, u16min, u16max, u32min, u32max, u64min, u64max, i32min, i32max, Om.sub, selI, ints_app, ints_cut, ints_upd, ints_rep, ints_splice, ints_seg, len_ints]
    omega
  · simp only [wordsC_d0, F14, F1, allTold', dutiesTold, factsA, factsC, factsP, factsR, AV.facts, RW.facts, inK, and_true, Q.holds', E.i, E.s, E.n, D.nat, E.den, BO.den, UO.den, TO.den, D.toInt_int, D.toList_list, D.ints_ofInts, i64min, i64max, u8min, u8max, u16min, u16max, u32min, u32max, u64min, u64max, i32min, i32max, Om.sub, selI, ints_app, ints_cut, ints_upd, ints_rep, ints_splice, ints_seg, len_ints]
    generalize hW : D.ints (D.list (_ ++ _)) = W
    have hW2 : W = wordsI (prt (d 5).ints (d 1).toInt ((d 1).toInt + 64)) := by
      rw [← hW]
      simp [wordsI, wordI, orI, getI, ints_list, D.ofInts, Function.comp_def, List.replicate, prt_get (show 0 ≤ (d 1).toInt by omega)]
    subst hW2
    and_intros <;> rfl

def stepL : LSpec := { n := 118, next := 3, pat := [(8, .sint .i64 (.var 0)), (7, .ptr 1 0), (5, .ptr 3 0), (6, .ptr 5 0)], rows := [(1, .cells 36 0 false false [.sint .u32 (.var 1), .sint .u32 (.var 2), .sint .u32 (.var 3), .sint .u32 (.var 4), .sint .u32 (.var 5), .sint .u32 (.var 6), .sint .u32 (.var 7), .sint .u32 (.var 8)]), (3, .seq ⟨50, .u32, .int 64, .var 9, false, false⟩), (5, .seq ⟨50, .u32, .int 64, .lits [1116352408, 1899447441, 3049323471, 3921009573, 961987163, 1508970993, 2453635748, 2870763221, 3624381080, 310598401, 607225278, 1426881987, 1925078388, 2162078206, 2614888103, 3248222580, 3835390401, 4022224774, 264347078, 604807628, 770255983, 1249150122, 1555081692, 1996064986, 2554220882, 2821834349, 2952996808, 3210313671, 3336571891, 3584528711, 113926993, 338241895, 666307205, 773529912, 1294757372, 1396182291, 1695183700, 1986661051, 2177026350, 2456956037, 2730485921, 2820302411, 3259730800, 3345764771, 3516065817, 3600352804, 4094571909, 275423344, 430227734, 506948616, 659060556, 883997877, 958139571, 1322822218, 1537002063, 1747873779, 1955562222, 2024104815, 2227730452, 2361852424, 2428436474, 2756734187, 3204031479, 3329325298], false, false⟩)], pre := [(.le (.int 0) (.var 0), true), (.le (.var 0) (.int 64), true)], x := 0, fin := [(7, .ptr 1 0)], frows := [(1, .cells 36 0 false false [.sint .u32 (.fn 2 (argsE [.int 0, .var 0, .var 1, .var 2, .var 3, .var 4, .var 5, .var 6, .var 7, .var 8, .var 9])), .sint .u32 (.fn 2 (argsE [.int 1, .var 0, .var 1, .var 2, .var 3, .var 4, .var 5, .var 6, .var 7, .var 8, .var 9])), .sint .u32 (.fn 2 (argsE [.int 2, .var 0, .var 1, .var 2, .var 3, .var 4, .var 5, .var 6, .var 7, .var 8, .var 9])), .sint .u32 (.fn 2 (argsE [.int 3, .var 0, .var 1, .var 2, .var 3, .var 4, .var 5, .var 6, .var 7, .var 8, .var 9])), .sint .u32 (.fn 2 (argsE [.int 4, .var 0, .var 1, .var 2, .var 3, .var 4, .var 5, .var 6, .var 7, .var 8, .var 9])), .sint .u32 (.fn 2 (argsE [.int 5, .var 0, .var 1, .var 2, .var 3, .var 4, .var 5, .var 6, .var 7, .var 8, .var 9])), .sint .u32 (.fn 2 (argsE [.int 6, .var 0, .var 1, .var 2, .var 3, .var 4, .var 5, .var 6, .var 7, .var 8, .var 9])), .sint .u32 (.fn 2 (argsE [.int 7, .var 0, .var 1, .var 2, .var 3, .var 4, .var 5, .var 6, .var 7, .var 8, .var 9]))])], same := [1], chg := [5, 6, 7, 8, 9, 10, 16, 17, 18, 19, 20, 21, 22, 23, 24, 25, 26, 27, 28, 29, 30, 31, 32, 33, 34, 35, 36, 37, 38, 39, 40, 41, 42, 43, 44, 45, 46, 47, 48, 49, 50, 51, 52, 53, 54, 55, 56, 57, 58, 59, 60, 61, 62, 63, 64, 65, 66, 67, 68, 69, 70, 71, 72, 73, 74, 75, 76, 77, 78, 79, 80, 81, 82, 83, 84, 85, 86, 87, 88, 89, 90, 91, 92, 93, 94, 95, 96, 97, 98, 99, 100, 101, 102, 103] }
def stepL_t0 : List (Q × Bool) := [asDr0, asDr13, asDr14]
def stepL_d0 : List Duty := [(true, (.fn 2 (.bi .pair (.int 0) txDr175)), (.fn 2 (.bi .pair (.int 0) txDr118))), (true, (.fn 2 (.bi .pair (.int 1) txDr175)), (.fn 2 (.bi .pair (.int 1) txDr118))), (true, (.fn 2 (.bi .pair (.int 2) txDr175)), (.fn 2 (.bi .pair (.int 2) txDr118))), (true, (.fn 2 (.bi .pair (.int 3) txDr175)), (.fn 2 (.bi .pair (.int 3) txDr118))), (true, (.fn 2 (.bi .pair (.int 4) txDr175)), (.fn 2 (.bi .pair (.int 4) txDr118))), (true, (.fn 2 (.bi .pair (.int 5) txDr175)), (.fn 2 (.bi .pair (.int 5) txDr118))), (true, (.fn 2 (.bi .pair (.int 6) txDr175)), (.fn 2 (.bi .pair (.int 6) txDr118))), (true, (.fn 2 (.bi .pair (.int 7) txDr175)), (.fn 2 (.bi .pair (.int 7) txDr118)))]
def stepL_h0 : List (Nat × E) := [(9, (.var 9)), (8, (.var 7)), (7, (.var 6)), (6, (.var 5)), (5, (.bi (.iop .add .u32) (.var 4) txDr167)), (4, (.var 3)), (3, (.var 2)), (2, (.var 1)), (1, txDr170), (0, (.bi .add (.var 0) (.int 1)))]
theorem stepL_h0_0 : lookE stepL_h0 0 = (.bi .add (.var 0) (.int 1)) := rfl
theorem stepL_h0_1 : lookE stepL_h0 1 = txDr170 := rfl
theorem stepL_h0_2 : lookE stepL_h0 2 = (.var 1) := rfl
theorem stepL_h0_3 : lookE stepL_h0 3 = (.var 2) := rfl
theorem stepL_h0_4 : lookE stepL_h0 4 = (.var 3) := rfl
theorem stepL_h0_5 : lookE stepL_h0 5 = (.bi (.iop .add .u32) (.var 4) txDr167) := rfl
theorem stepL_h0_6 : lookE stepL_h0 6 = (.var 5) := rfl
theorem stepL_h0_7 : lookE stepL_h0 7 = (.var 6) := rfl
theorem stepL_h0_8 : lookE stepL_h0 8 = (.var 7) := rfl
theorem stepL_h0_9 : lookE stepL_h0 9 = (.var 9) := rfl
theorem stepL_y0 : nextD stepL stepL_h0 [(5, 5), (3, 3), (1, 1)] (roundC Tryd.prog [] [] [] 3000 40 20 [4, 1, 0, 1, 1, 1] (tellA stepL_t0) stepL) = some stepL_d0 := by kernel_rfl
def stepL_t1 : List (Q × Bool) := [asDr15]
def stepL_d1 : List Duty := [(true, (.var 1), (.fn 2 (.bi .pair (.int 0) txDr118))), (true, (.var 2), (.fn 2 (.bi .pair (.int 1) txDr118))), (true, (.var 3), (.fn 2 (.bi .pair (.int 2) txDr118))), (true, (.var 4), (.fn 2 (.bi .pair (.int 3) txDr118))), (true, (.var 5), (.fn 2 (.bi .pair (.int 4) txDr118))), (true, (.var 6), (.fn 2 (.bi .pair (.int 5) txDr118))), (true, (.var 7), (.fn 2 (.bi .pair (.int 6) txDr118))), (true, (.var 8), (.fn 2 (.bi .pair (.int 7) txDr118)))]
theorem stepL_y1 : endD stepL [(5, 5), (3, 3), (1, 1)] 1000 (roundC Tryd.prog [] [] [] 3000 40 20 [4, 1, 0, 1, 1, 1] (tellA stepL_t1) stepL) = some stepL_d1 := by kernel_rfl
theorem stepL_holds : LHolds Tryd.prog (loopAt Tryd.prog 20 [4, 1, 0, 1, 1, 1]) stepL F := by
  refine loop_roundsC sound (tableNil _ _) (specsNil _ _) (oversNil _ _) (fuel := 3000) (depth := 40) (by kernel_rfl) (by kernel_rfl) (by kernel_rfl) (fun d => (64 - (d 0).toInt).toNat) fun d hp hR hA => ?_
  have hp := allTold'_iff.2 hp
  simp only [stepL, allTold', dutiesTold, factsA, factsC, factsP, factsR, AV.facts, RW.facts, inK, and_true, Q.holds', E.i, E.s, E.n, D.nat, E.den, BO.den, UO.den, TO.den, D.toInt_int, D.toList_list, D.ints_ofInts, i64min, i64max, u8min, u8max, u16min, u16max, u32min, u32max, u64min, u64max, i32min, i32max, Om.sub, selI, ints_app, ints_cut, ints_upd, ints_rep, ints_splice, ints_seg, len_ints] at hp hR hA
  by_cases h : 64 ≤ (d 0).toInt
  · refine ⟨tellA stepL_t1, tellA_ok (allTold'_iff.1 ?_), .inl ⟨_, _, _, stepL_y1, dutiesTold_ok ?_⟩⟩
    · simp only [stepL_t1, allTold', dutiesTold, factsA, factsC, factsP, factsR, AV.facts, RW.facts, inK, and_true, Q.holds', E.i, E.s, E.n, D.nat, E.den, BO.den, UO.den, TO.den, D.toInt_int, D.toList_list, D.ints_ofInts, i64min, i64max, u8min, u8max, u16min, u16max, u32min, u32max, u64min, u64max, i32min, i32max, Om.sub, selI, ints_app, ints_cut, ints_upd, ints_rep, ints_splice, ints_seg, len_ints]
      omega
    · simp only [stepL_d1, F2, allTold', dutiesTold, factsA, factsC, factsP, factsR, AV.facts, RW.facts, inK, and_true, Q.holds', E.i, E.s, E.n, D.nat, E.den, BO.den, UO.den, TO.den, D.toInt_int, D.toList_list, D.ints_ofInts, i64min, i64max, u8min, u8max, u16min, u16max, u32min, u32max, u64min, u64max, i32min, i32max, Om.sub, selI, ints_app, ints_cut, ints_upd, ints_rep, ints_splice, ints_seg, len_ints]
      rw [show (64 - (d 0).toInt).toNat = 0 by omega]
      and_intros <;> rfl
  · refine ⟨tellA stepL_t0, tellA_ok (allTold'_iff.1 ?_), .inr ⟨stepL_h0, _, _, stepL_y0, dutiesTold_ok ?_, allTold'_iff.1 ?_, ?_⟩⟩
    · simp only [stepL_t0, allTold', dutiesTold, factsA, factsC, factsP, factsR, AV.facts, RW.facts, inK, and_true, Q.holds', E.i, E.s, E.n, D.nat, E.den, BO.den, UO.den, TO.den, D.toInt_int, D.toList_list, D.ints_ofInts, i64min, i64max, u8min, u8max, u16min, u16max, u32min, u32max, u64min, u64max, i32min, i32max, Om.sub, selI, ints_app, ints_cut, ints_upd, ints_rep, ints_splice, ints_seg, len_ints]
      omega
    · simp only [stepL_d0, F2, allTold', dutiesTold, factsA, factsC, factsP, factsR, AV.facts, RW.facts, inK, and_true, Q.holds', E.i, E.s, E.n, D.nat, E.den, BO.den, UO.den, TO.den, D.toInt_int, D.toList_list, D.ints_ofInts, i64min, i64max, u8min, u8max, u16min, u16max, u32min, u32max, u64min, u64max, i32min, i32max, Om.sub, selI, ints_app, ints_cut, ints_upd, ints_rep, ints_splice, ints_seg, len_ints]
      rw [mixN_step2 (d 0).toInt (d 9).ints _ (by omega)]
      and_intros <;> rfl
    · simp only [stepL, stepL_h0_0, stepL_h0_1, stepL_h0_2, stepL_h0_3, stepL_h0_4, stepL_h0_5, stepL_h0_6, stepL_h0_7, stepL_h0_8, stepL_h0_9, allTold', dutiesTold, factsA, factsC, factsP, factsR, AV.facts, RW.facts, inK, and_true, Q.holds', E.i, E.s, E.n, D.nat, E.den, BO.den, UO.den, TO.den, D.toInt_int, D.toList_list, D.ints_ofInts, i64min, i64max, u8min, u8max, u16min, u16max, u32min, u32max, u64min, u64max, i32min, i32max, Om.sub, selI, ints_app, ints_cut, ints_upd, ints_rep, ints_splice, ints_seg, len_ints]
      omega
    · simp only [stepL_h0_0, stepL_h0_1, stepL_h0_2, stepL_h0_3, stepL_h0_4, stepL_h0_5, stepL_h0_6, stepL_h0_7, stepL_h0_8, stepL_h0_9, allTold', dutiesTold, factsA, factsC, factsP, factsR, AV.facts, RW.facts, inK, and_true, Q.holds', E.i, E.s, E.n, D.nat, E.den, BO.den, UO.den, TO.den, D.toInt_int, D.toList_list, D.ints_ofInts, i64min, i64max, u8min, u8max, u16min, u16max, u32min, u32max, u64min, u64max, i32min, i32max, Om.sub, selI, ints_app, ints_cut, ints_upd, ints_rep, ints_splice, ints_seg, len_ints]
      omega

def stepC : CSpec := { args := [.agg [vu32Dr (.var 0) 0, vu32Dr (.var 0) 1, vu32Dr (.var 0) 2, vu32Dr (.var 0) 3, vu32Dr (.var 0) 4, vu32Dr (.var 0) 5, vu32Dr (.var 0) 6, vu32Dr (.var 0) 7], .sslice 3 (.var 1) (.var 2) (.var 3) true], next := 2, rows := [(3, .eseq ⟨.u8, .var 4, .var 5⟩)], pre := [(.le (.bi .add (.var 1) (.var 2)) (.var 4), true), (.eq (.var 2) (.int 64), true)], res := .agg [.sint .u32 (.bi .sel (.fn 15 (argsE [.var 0, .var 5, .var 1])) (.int 0)), .sint .u32 (.bi .sel (.fn 15 (argsE [.var 0, .var 5, .var 1])) (.int 1)), .sint .u32 (.bi .sel (.fn 15 (argsE [.var 0, .var 5, .var 1])) (.int 2)), .sint .u32 (.bi .sel (.fn 15 (argsE [.var 0, .var 5, .var 1])) (.int 3)), .sint .u32 (.bi .sel (.fn 15 (argsE [.var 0, .var 5, .var 1])) (.int 4)), .sint .u32 (.bi .sel (.fn 15 (argsE [.var 0, .var 5, .var 1])) (.int 5)), .sint .u32 (.bi .sel (.fn 15 (argsE [.var 0, .var 5, .var 1])) (.int 6)), .sint .u32 (.bi .sel (.fn 15 (argsE [.var 0, .var 5, .var 1])) (.int 7))], frows := [], same := [] }
abbrev asDr208 : Q × Bool := ((.le (.bi .add (.var 1) (.var 2)) (.var 4)), true)
abbrev asDr209 : Q × Bool := ((.eq (.var 2) (.int 64)), true)
def stepC_t0 : List (Q × Bool) := [asDr208, asDr209]
def stepC_d0 : List Duty := [(true, (.bi (.iop .add .u32) (.bi .sel (.var 0) (.int 0)) (.fn 2 (.bi .pair (.int 0) (.bi .pair (.int 0) txDr158)))), (.bi .sel (.fn 15 (.bi .pair (.var 0) txDr67)) (.int 0))), (true, (.bi (.iop .add .u32) (.bi .sel (.var 0) (.int 1)) (.fn 2 (.bi .pair (.int 1) (.bi .pair (.int 0) txDr158)))), (.bi .sel (.fn 15 (.bi .pair (.var 0) txDr67)) (.int 1))), (true, (.bi (.iop .add .u32) (.bi .sel (.var 0) (.int 2)) (.fn 2 (.bi .pair (.int 2) (.bi .pair (.int 0) txDr158)))), (.bi .sel (.fn 15 (.bi .pair (.var 0) txDr67)) (.int 2))), (true, (.bi (.iop .add .u32) (.bi .sel (.var 0) (.int 3)) (.fn 2 (.bi .pair (.int 3) (.bi .pair (.int 0) txDr158)))), (.bi .sel (.fn 15 (.bi .pair (.var 0) txDr67)) (.int 3))), (true, (.bi (.iop .add .u32) (.bi .sel (.var 0) (.int 4)) (.fn 2 (.bi .pair (.int 4) (.bi .pair (.int 0) txDr158)))), (.bi .sel (.fn 15 (.bi .pair (.var 0) txDr67)) (.int 4))), (true, (.bi (.iop .add .u32) (.bi .sel (.var 0) (.int 5)) (.fn 2 (.bi .pair (.int 5) (.bi .pair (.int 0) txDr158)))), (.bi .sel (.fn 15 (.bi .pair (.var 0) txDr67)) (.int 5))), (true, (.bi (.iop .add .u32) (.bi .sel (.var 0) (.int 6)) (.fn 2 (.bi .pair (.int 6) (.bi .pair (.int 0) txDr158)))), (.bi .sel (.fn 15 (.bi .pair (.var 0) txDr67)) (.int 6))), (true, (.bi (.iop .add .u32) (.bi .sel (.var 0) (.int 7)) (.fn 2 (.bi .pair (.int 7) (.bi .pair (.int 0) txDr158)))), (.bi .sel (.fn 15 (.bi .pair (.var 0) txDr67)) (.int 7)))]
theorem stepC_y0 : endC stepC [] 1000 (callC Tryd.prog (tellA stepC_t0) [⟨20, [4, 1, 0, 1, 1, 1], stepL⟩] [(25, wordsC)] [] 3000 40 20 stepC) = some stepC_d0 := by kernel_rfl
theorem stepC_holds : CHolds Tryd.prog 20 stepC F := by
  refine cholds_of sound (tableCons stepL_holds (tableNil _ _)) (specsCons wordsC_holds (specsNil _ _)) (oversNil _ _) (fuel := 3000) (depth := 40) (by kernel_rfl) fun d hp hR hA => ?_
  have hp := allTold'_iff.2 hp
  simp only [stepC, allTold', dutiesTold, factsA, factsC, factsP, factsR, AV.facts, RW.facts, inK, and_true, Q.holds', E.i, E.s, E.n, D.nat, E.den, BO.den, UO.den, TO.den, D.toInt_int, D.toList_list, D.ints_ofInts, i64min, i64max, u8min, u8max, u16min, u16max, u32min, u32max, u64min, u64max, i32min, i32max, Om.sub, selI, ints_app, ints_cut, ints_upd, ints_rep, ints_splice, ints_seg, len_ints] at hp hR hA
  refine ⟨tellA stepC_t0, _, _, _, tellA_ok (allTold'_iff.1 ?_), stepC_y0, dutiesTold_ok ?_⟩
  · simp only [stepC_t0, allTold', dutiesTold, factsA, factsC, factsP, factsR, AV.facts, RW.facts, inK, and_true, Q.holds', E.i, E.s, E.n, D.nat, E.den, BO.den, UO.den, TO.den, D.toInt_int, D.toList_list, D.ints_ofInts, i64min, i64max, u8min, u8max, u16min, u16max, u32min, u32max, u64min, u64max, i32min, i32max, Om.sub, selI, ints_app, ints_cut, ints_upd, ints_rep, ints_splice, ints_seg, len_ints]
    omega
  · simp only [stepC_d0, F14, F2, F15, allTold', dutiesTold, factsA, factsC, factsP, factsR, AV.facts, RW.facts, inK, and_true, Q.holds', E.i, E.s, E.n, D.nat, E.den, BO.den, UO.den, TO.den, D.toInt_int, D.toList_list, D.ints_ofInts, i64min, i64max, u8min, u8max, u16min, u16max, u32min, u32max, u64min, u64max, i32min, i32max, Om.sub, selI, ints_app, ints_cut, ints_upd, ints_rep, ints_splice, ints_seg, len_ints]
    rw [show ((64 : Int) - 0).toNat = 64 from rfl, show Int.toNat 0 = 0 from rfl, show Int.toNat 64 = 64 from rfl, segI_all (l := spr 48 16 (wordsI (prt (d 5).ints (d 1).toInt ((d 1).toInt + 64)))) (n := 64) (by rw [spr_len]; rfl)]
    simp only [mix3, mixedI, s8L, getI, S8.list, S8.at, addI]
    and_intros <;> rfl

def rfillL : LSpec := { n := 35, next := 1, pat := [(3, .sslice 1 (.int 0) (.var 0) (.var 0) true)], rows := [(1, .seq ⟨5, .u8, .var 0, .var 1, true, false⟩)], pre := [(.le (.int 0) (.var 0), true), (.le (.bi .add (.var 0) (.fn 18 (argsE [.var 0]))) (.int 1000000), true)], x := 0, fin := [(3, .sslice 1 (.int 0) (.bi .add (.var 0) (.fn 18 (argsE [.var 0]))) (.bi .add (.var 0) (.fn 18 (argsE [.var 0]))) true)], frows := [(1, .seq ⟨5, .u8, .bi .add (.var 0) (.fn 18 (argsE [.var 0])), .fn 16 (argsE [.var 0, .var 1]), true, false⟩)], same := [], chg := [3, 12, 13, 14, 15, 16, 17, 18] }
abbrev asDr210 : Q × Bool := ((.fit .i64 (.var 0)), true)
abbrev asDr211 : Q × Bool := ((.eq (.bi (.iop .rem .i64) (.var 0) (.int 64)) (.int 56)), false)
abbrev asDr212 : Q × Bool := ((.le (.bi .mul (.bi .add (.var 0) (.int 1)) (.int 2)) (.int 281474976710656)), true)
def rfillL_t0 : List (Q × Bool) := [asDr210, asDr211, asDr212]
def rfillL_d0 : List Duty := [(true, txDr83, txDr76), (true, txDr83, txDr76), (true, txDr83, txDr76), (false, (.fn 16 (.bi .pair (.bi .add (.var 0) (.int 1)) (.bi .pair (.bi .app (.var 1) (.lits [0])) (.int 0)))), (.fn 16 txDr66))]
def rfillL_h0 : List (Nat × E) := [(1, (.bi .app (.var 1) (.lits [0]))), (0, (.bi .add (.var 0) (.int 1)))]
theorem rfillL_h0_0 : lookE rfillL_h0 0 = (.bi .add (.var 0) (.int 1)) := rfl
theorem rfillL_h0_1 : lookE rfillL_h0 1 = (.bi .app (.var 1) (.lits [0])) := rfl
theorem rfillL_y0 : nextD rfillL rfillL_h0 [(1, 5)] (roundC Tryd.prog [] [] [] 3000 40 19 [4, 0, 1, 1, 1] (tellA rfillL_t0) rfillL) = some rfillL_d0 := by kernel_rfl
abbrev asDr213 : Q × Bool := ((.eq (.bi (.iop .rem .i64) (.var 0) (.int 64)) (.int 56)), true)
def rfillL_t1 : List (Q × Bool) := [asDr210, asDr213]
def rfillL_d1 : List Duty := [(true, (.var 0), txDr76), (true, (.var 0), txDr76), (true, (.var 0), txDr76), (false, (.var 1), (.fn 16 txDr66))]
theorem rfillL_y1 : endD rfillL [(1, 1)] 1000 (roundC Tryd.prog [] [] [] 3000 40 19 [4, 0, 1, 1, 1] (tellA rfillL_t1) rfillL) = some rfillL_d1 := by kernel_rfl
theorem rfillL_holds : LHolds Tryd.prog (loopAt Tryd.prog 19 [4, 0, 1, 1, 1]) rfillL F := by
  refine loop_roundsC sound (tableNil _ _) (specsNil _ _) (oversNil _ _) (fuel := 3000) (depth := 40) (by kernel_rfl) (by kernel_rfl) (by kernel_rfl) (fun d => ((56 - (d 0).toInt) % 64).toNat) fun d hp hR hA => ?_
  have hp := allTold'_iff.2 hp
  simp only [rfillL, allTold', dutiesTold, factsA, factsC, factsP, factsR, AV.facts, RW.facts, inK, and_true, Q.holds', E.i, E.s, E.n, D.nat, E.den, BO.den, UO.den, TO.den, D.toInt_int, D.toList_list, D.ints_ofInts, i64min, i64max, u8min, u8max, u16min, u16max, u32min, u32max, u64min, u64max, i32min, i32max, Om.sub, selI, ints_app, ints_cut, ints_upd, ints_rep, ints_splice, ints_seg, len_ints] at hp hR hA
  have hm := emod_in (x := 56 - (d 0).toInt) (n := 64) (by omega)
  have hp : 0 ≤ (d 0).toInt ∧ (d 0).toInt + (56 - (d 0).toInt) % 64 ≤ 1000000 := hp
  have hz : iopI .rem .i64 (d 0).toInt 64 = (d 0).toInt % 64 := rem_emod .i64 (by omega)
  by_cases h : (56 - (d 0).toInt) % 64 = 0
  · refine ⟨tellA rfillL_t1, tellA_ok (allTold'_iff.1 ?_), .inl ⟨_, _, _, rfillL_y1, dutiesTold_ok ?_⟩⟩
    · simp only [rfillL_t1, F18, hz, allTold', dutiesTold, factsA, factsC, factsP, factsR, AV.facts, RW.facts, inK, and_true, Q.holds', E.i, E.s, E.n, D.nat, E.den, BO.den, UO.den, TO.den, D.toInt_int, D.toList_list, D.ints_ofInts, i64min, i64max, u8min, u8max, u16min, u16max, u32min, u32max, u64min, u64max, i32min, i32max, Om.sub, selI, ints_app, ints_cut, ints_upd, ints_rep, ints_splice, ints_seg, len_ints]
      omega
    · simp only [rfillL_d1, F16, F18, allTold', dutiesTold, factsA, factsC, factsP, factsR, AV.facts, RW.facts, inK, and_true, Q.holds', E.i, E.s, E.n, D.nat, E.den, BO.den, UO.den, TO.den, D.toInt_int, D.toList_list, D.ints_ofInts, i64min, i64max, u8min, u8max, u16min, u16max, u32min, u32max, u64min, u64max, i32min, i32max, Om.sub, selI, ints_app, ints_cut, ints_upd, ints_rep, ints_splice, ints_seg, len_ints]
      rw [h]
      simp
  · refine ⟨tellA rfillL_t0, tellA_ok (allTold'_iff.1 ?_), .inr ⟨rfillL_h0, _, _, rfillL_y0, dutiesTold_ok ?_, allTold'_iff.1 ?_, ?_⟩⟩
    · simp only [rfillL_t0, F18, hz, allTold', dutiesTold, factsA, factsC, factsP, factsR, AV.facts, RW.facts, inK, and_true, Q.holds', E.i, E.s, E.n, D.nat, E.den, BO.den, UO.den, TO.den, D.toInt_int, D.toList_list, D.ints_ofInts, i64min, i64max, u8min, u8max, u16min, u16max, u32min, u32max, u64min, u64max, i32min, i32max, Om.sub, selI, ints_app, ints_cut, ints_upd, ints_rep, ints_splice, ints_seg, len_ints]
      omega
    · simp only [rfillL_d0, F16, F18, allTold', dutiesTold, factsA, factsC, factsP, factsR, AV.facts, RW.facts, inK, and_true, Q.holds', E.i, E.s, E.n, D.nat, E.den, BO.den, UO.den, TO.den, D.toInt_int, D.toList_list, D.ints_ofInts, i64min, i64max, u8min, u8max, u16min, u16max, u32min, u32max, u64min, u64max, i32min, i32max, Om.sub, selI, ints_app, ints_cut, ints_upd, ints_rep, ints_splice, ints_seg, len_ints]
      rw [show (56 - (d 0).toInt) % 64 = (56 - ((d 0).toInt + 1)) % 64 + 1 by omega, show ((56 - ((d 0).toInt + 1)) % 64 + 1).toNat = ((56 - ((d 0).toInt + 1)) % 64).toNat + 1 by omega, List.replicate_succ]
      refine ⟨by omega, by omega, by omega, by simp⟩
    · simp only [rfillL, rfillL_h0_0, rfillL_h0_1, allTold', dutiesTold, factsA, factsC, factsP, factsR, AV.facts, RW.facts, inK, and_true, Q.holds', E.i, E.s, E.n, D.nat, E.den, BO.den, UO.den, TO.den, D.toInt_int, D.toList_list, D.ints_ofInts, i64min, i64max, u8min, u8max, u16min, u16max, u32min, u32max, u64min, u64max, i32min, i32max, Om.sub, selI, ints_app, ints_cut, ints_upd, ints_rep, ints_splice, ints_seg, len_ints]
      show 0 ≤ (d 0).toInt + 1 ∧ (d 0).toInt + 1 + (56 - ((d 0).toInt + 1)) % 64 ≤ 1000000
      omega
    · simp only [rfillL_h0_0, rfillL_h0_1, F18, allTold', dutiesTold, factsA, factsC, factsP, factsR, AV.facts, RW.facts, inK, and_true, Q.holds', E.i, E.s, E.n, D.nat, E.den, BO.den, UO.den, TO.den, D.toInt_int, D.toList_list, D.ints_ofInts, i64min, i64max, u8min, u8max, u16min, u16max, u32min, u32max, u64min, u64max, i32min, i32max, Om.sub, selI, ints_app, ints_cut, ints_upd, ints_rep, ints_splice, ints_seg, len_ints]
      omega

def rsumL : LSpec := { n := 41, next := 2, pat := [(5, .sint .i64 (.var 0)), (4, .sslice 1 (.int 0) (.var 4) (.var 4) true), (3, .ptr 3 0)], rows := [(1, .seq ⟨5, .u8, .var 4, .var 5, true, false⟩), (3, .cells 36 0 false false [vu32Dr (.var 1) 0, vu32Dr (.var 1) 1, vu32Dr (.var 1) 2, vu32Dr (.var 1) 3, vu32Dr (.var 1) 4, vu32Dr (.var 1) 5, vu32Dr (.var 1) 6, vu32Dr (.var 1) 7])], pre := [(.le (.int 0) (.var 0), true), (.le (.var 0) (.var 4), true), (.eq (.bi (.iop .rem .i64) (.bi .sub (.var 4) (.var 0)) (.int 64)) (.int 0), true), (.le (.var 4) (.int 1000000), true)], x := 0, fin := [(3, .ptr 3 0)], frows := [(3, .cells 36 0 false false [vu32Dr txDr65 0, vu32Dr txDr65 1, vu32Dr txDr65 2, vu32Dr txDr65 3, vu32Dr txDr65 4, vu32Dr txDr65 5, vu32Dr txDr65 6, vu32Dr txDr65 7])], same := [3], chg := [3, 4, 5, 11, 12, 13, 14, 15, 16, 17, 18, 19, 20, 21, 22, 23] }
abbrev asDr228 : Q × Bool := ((.fit .i64 (.var 4)), true)
abbrev asDr229 : Q × Bool := ((.le (.var 4) (.var 0)), false)
abbrev asDr230 : Q × Bool := ((.fit .i64 (.bi .add (.var 0) (.int 64))), true)
abbrev asDr231 : Q × Bool := ((.le (.var 0) (.bi .add (.var 0) (.int 64))), true)
abbrev asDr232 : Q × Bool := ((.le (.bi .add (.var 0) (.int 64)) (.var 4)), true)
def rsumL_t0 : List (Q × Bool) := [asDr228, asDr229, asDr230, asDr13, asDr231, asDr232]
def rsumL_d0 : List Duty := [(true, (.bi .sel (.fn 20 txDr99) (.int 0)), (.bi .sel (.fn 20 txDr82) (.int 0))), (true, (.bi .sel (.fn 20 txDr99) (.int 1)), (.bi .sel (.fn 20 txDr82) (.int 1))), (true, (.bi .sel (.fn 20 txDr99) (.int 2)), (.bi .sel (.fn 20 txDr82) (.int 2))), (true, (.bi .sel (.fn 20 txDr99) (.int 3)), (.bi .sel (.fn 20 txDr82) (.int 3))), (true, (.bi .sel (.fn 20 txDr99) (.int 4)), (.bi .sel (.fn 20 txDr82) (.int 4))), (true, (.bi .sel (.fn 20 txDr99) (.int 5)), (.bi .sel (.fn 20 txDr82) (.int 5))), (true, (.bi .sel (.fn 20 txDr99) (.int 6)), (.bi .sel (.fn 20 txDr82) (.int 6))), (true, (.bi .sel (.fn 20 txDr99) (.int 7)), (.bi .sel (.fn 20 txDr82) (.int 7)))]
def rsumL_h0 : List (Nat × E) := [(1, (.fn 15 (.bi .pair (.var 1) txDr70))), (5, (.var 5)), (4, (.var 4)), (0, (.bi .add (.var 0) (.int 64)))]
theorem rsumL_h0_0 : lookE rsumL_h0 0 = (.bi .add (.var 0) (.int 64)) := rfl
theorem rsumL_h0_1 : lookE rsumL_h0 1 = (.fn 15 (.bi .pair (.var 1) txDr70)) := rfl
theorem rsumL_h0_4 : lookE rsumL_h0 4 = (.var 4) := rfl
theorem rsumL_h0_5 : lookE rsumL_h0 5 = (.var 5) := rfl
theorem rsumL_y0 : nextD rsumL rsumL_h0 [(3, 3), (1, 1)] (roundC Tryd.prog [] [(20, stepC)] [] 3000 40 11 [4, 1, 0, 1, 1, 1] (tellA rsumL_t0) rsumL) = some rsumL_d0 := by kernel_rfl
abbrev asDr233 : Q × Bool := ((.le (.var 4) (.var 0)), true)
def rsumL_t1 : List (Q × Bool) := [asDr228, asDr233]
def rsumL_d1 : List Duty := [(true, (.bi .sel (.var 1) (.int 0)), (.bi .sel (.fn 20 txDr82) (.int 0))), (true, (.bi .sel (.var 1) (.int 1)), (.bi .sel (.fn 20 txDr82) (.int 1))), (true, (.bi .sel (.var 1) (.int 2)), (.bi .sel (.fn 20 txDr82) (.int 2))), (true, (.bi .sel (.var 1) (.int 3)), (.bi .sel (.fn 20 txDr82) (.int 3))), (true, (.bi .sel (.var 1) (.int 4)), (.bi .sel (.fn 20 txDr82) (.int 4))), (true, (.bi .sel (.var 1) (.int 5)), (.bi .sel (.fn 20 txDr82) (.int 5))), (true, (.bi .sel (.var 1) (.int 6)), (.bi .sel (.fn 20 txDr82) (.int 6))), (true, (.bi .sel (.var 1) (.int 7)), (.bi .sel (.fn 20 txDr82) (.int 7)))]
theorem rsumL_y1 : endD rsumL [(3, 3), (1, 1)] 1000 (roundC Tryd.prog [] [(20, stepC)] [] 3000 40 11 [4, 1, 0, 1, 1, 1] (tellA rsumL_t1) rsumL) = some rsumL_d1 := by kernel_rfl
theorem rsumL_holds : LHolds Tryd.prog (loopAt Tryd.prog 11 [4, 1, 0, 1, 1, 1]) rsumL F := by
  refine loop_roundsC sound (tableNil _ _) (specsCons stepC_holds (specsNil _ _)) (oversNil _ _) (fuel := 3000) (depth := 40) (by kernel_rfl) (by kernel_rfl) (by kernel_rfl) (fun d => ((d 4).toInt - (d 0).toInt).toNat) fun d hp hR hA => ?_
  have hp := allTold'_iff.2 hp
  simp only [rsumL, allTold', dutiesTold, factsA, factsC, factsP, factsR, AV.facts, RW.facts, inK, and_true, Q.holds', E.i, E.s, E.n, D.nat, E.den, BO.den, UO.den, TO.den, D.toInt_int, D.toList_list, D.ints_ofInts, i64min, i64max, u8min, u8max, u16min, u16max, u32min, u32max, u64min, u64max, i32min, i32max, Om.sub, selI, ints_app, ints_cut, ints_upd, ints_rep, ints_splice, ints_seg, len_ints] at hp hR hA
  have hz : iopI .rem .i64 ((d 4).toInt - (d 0).toInt) 64 = ((d 4).toInt - (d 0).toInt) % 64 := rem_emod .i64 (by omega)
  by_cases h : (d 4).toInt ≤ (d 0).toInt
  · refine ⟨tellA rsumL_t1, tellA_ok (allTold'_iff.1 ?_), .inl ⟨_, _, _, rsumL_y1, dutiesTold_ok ?_⟩⟩
    · simp only [rsumL_t1, allTold', dutiesTold, factsA, factsC, factsP, factsR, AV.facts, RW.facts, inK, and_true, Q.holds', E.i, E.s, E.n, D.nat, E.den, BO.den, UO.den, TO.den, D.toInt_int, D.toList_list, D.ints_ofInts, i64min, i64max, u8min, u8max, u16min, u16max, u32min, u32max, u64min, u64max, i32min, i32max, Om.sub, selI, ints_app, ints_cut, ints_upd, ints_rep, ints_splice, ints_seg, len_ints]
      omega
    · simp only [rsumL_d1, F20, allTold', dutiesTold, factsA, factsC, factsP, factsR, AV.facts, RW.facts, inK, and_true, Q.holds', E.i, E.s, E.n, D.nat, E.den, BO.den, UO.den, TO.den, D.toInt_int, D.toList_list, D.ints_ofInts, i64min, i64max, u8min, u8max, u16min, u16max, u32min, u32max, u64min, u64max, i32min, i32max, Om.sub, selI, ints_app, ints_cut, ints_upd, ints_rep, ints_splice, ints_seg, len_ints]
      rw [blk_nil (by rw [prt_nil (by omega) (by omega)]; rfl)]
      and_intros <;> rfl
  · have hl := prt_length (x := (d 5).ints) (o := (d 0).toInt) (t := (d 4).toInt) (by omega) (by omega) (by omega)
    have hz2 : iopI .rem .i64 ((d 4).toInt - ((d 0).toInt + 64)) 64 = ((d 4).toInt - ((d 0).toInt + 64)) % 64 := rem_emod .i64 (by omega)
    refine ⟨tellA rsumL_t0, tellA_ok (allTold'_iff.1 ?_), .inr ⟨rsumL_h0, _, _, rsumL_y0, dutiesTold_ok ?_, allTold'_iff.1 ?_, ?_⟩⟩
    · simp only [rsumL_t0, allTold', dutiesTold, factsA, factsC, factsP, factsR, AV.facts, RW.facts, inK, and_true, Q.holds', E.i, E.s, E.n, D.nat, E.den, BO.den, UO.den, TO.den, D.toInt_int, D.toList_list, D.ints_ofInts, i64min, i64max, u8min, u8max, u16min, u16max, u32min, u32max, u64min, u64max, i32min, i32max, Om.sub, selI, ints_app, ints_cut, ints_upd, ints_rep, ints_splice, ints_seg, len_ints]
      omega
    · simp only [rsumL_d0, F15, F20, allTold', dutiesTold, factsA, factsC, factsP, factsR, AV.facts, RW.facts, inK, and_true, Q.holds', E.i, E.s, E.n, D.nat, E.den, BO.den, UO.den, TO.den, D.toInt_int, D.toList_list, D.ints_ofInts, i64min, i64max, u8min, u8max, u16min, u16max, u32min, u32max, u64min, u64max, i32min, i32max, Om.sub, selI, ints_app, ints_cut, ints_upd, ints_rep, ints_splice, ints_seg, len_ints]
      have e := blk_prt (S := (d 1).ints) (X := (d 5).ints) (p := (d 0).toInt) (n := (d 4).toInt) (by omega) (by omega) (by omega)
      rw [e]
      and_intros <;> first | rfl | omega
    · simp only [rsumL, rsumL_h0_0, rsumL_h0_1, rsumL_h0_4, rsumL_h0_5, allTold', dutiesTold, factsA, factsC, factsP, factsR, AV.facts, RW.facts, inK, and_true, Q.holds', E.i, E.s, E.n, D.nat, E.den, BO.den, UO.den, TO.den, D.toInt_int, D.toList_list, D.ints_ofInts, i64min, i64max, u8min, u8max, u16min, u16max, u32min, u32max, u64min, u64max, i32min, i32max, Om.sub, selI, ints_app, ints_cut, ints_upd, ints_rep, ints_splice, ints_seg, len_ints]
      rw [hz2]
      omega
    · simp only [rsumL_h0_0, rsumL_h0_1, rsumL_h0_4, rsumL_h0_5, allTold', dutiesTold, factsA, factsC, factsP, factsR, AV.facts, RW.facts, inK, and_true, Q.holds', E.i, E.s, E.n, D.nat, E.den, BO.den, UO.den, TO.den, D.toInt_int, D.toList_list, D.ints_ofInts, i64min, i64max, u8min, u8max, u16min, u16max, u32min, u32max, u64min, u64max, i32min, i32max, Om.sub, selI, ints_app, ints_cut, ints_upd, ints_rep, ints_splice, ints_seg, len_ints]
      omega

end Go.Proofs.YtfphohneafeleaaDoor.Dr
