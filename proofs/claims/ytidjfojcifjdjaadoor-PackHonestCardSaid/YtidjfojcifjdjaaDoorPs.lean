/-
 Contracts of this seat: what loops and calls leave, for all inputs. No condition.
-/
import Derived.Test.YtidjfojcifjdjaaDoorSycp
import Derived.Test.YtidjfojcifjdjaaDoorSyfm
import Derived.Test.YtidjfojcifjdjaaDoorCo
import Derived.Test.YtidjfojcifjdjaaDoorP0
import Derived.Test.YtidjfojcifjdjaaDoorPa
import Derived.Test.YtidjfojcifjdjaaDoorPm
import Derived.Test.YtidjfojcifjdjaaDoorPl
import Derived.Test.YtidjfojcifjdjaaDoorPu
import Derived.Test.YtidjfojcifjdjaaDoorPq
import Derived.Test.YtidjfojcifjdjaaDoorPg
import Derived.Test.YtidjfojcifjdjaaDoorPb
import Derived.Test.YtidjfojcifjdjaaDoorPb2
set_option linter.unusedSimpArgs false
set_option linter.unusedVariables false
namespace Go.Proofs.YtidjfojcifjdjaaDoor.Ps
open Go.RowKit Go.Ev Go.Proofs.YtidjfojcifjdjaaDoor.Co

open Go.Proofs.YtidjfojcifjdjaaDoor.P0
open Go.Proofs.YtidjfojcifjdjaaDoor.Pa
open Go.Proofs.YtidjfojcifjdjaaDoor.Pm
open Go.Proofs.YtidjfojcifjdjaaDoor.Pl
open Go.Proofs.YtidjfojcifjdjaaDoor.Pn
open Go.Proofs.YtidjfojcifjdjaaDoor.Pu
open Go.Proofs.YtidjfojcifjdjaaDoor.Puo
open Go.Proofs.YtidjfojcifjdjaaDoor.Pq
open Go.Proofs.YtidjfojcifjdjaaDoor.Pqo
open Go.Proofs.YtidjfojcifjdjaaDoor.Pg
open Go.Proofs.YtidjfojcifjdjaaDoor.Pb
open Go.Proofs.YtidjfojcifjdjaaDoor.Pb2
open Go.Proofs.YtidjfojcifjdjaaDoor.Ps4

abbrev txPs0 : E := (.un .code (.fn 16 (argsE [.int 56, .var 8])))
abbrev txPs1 : E := (.bi .add (.var 4) (.bi .add (.var 0) (.int 6)))
abbrev txPs2 : E := (.fn 68 (argsE [.var 8, .var 4, .var 5, .var 0]))
abbrev txPs3 : E := (.fn 65 (argsE [.var 8, .var 4, .var 5, .var 0]))
abbrev txPs4 : E := (.fn 66 (argsE [.var 8, .var 4, .var 5, .var 0]))
abbrev txPs5 : E := (.fn 67 (argsE [.var 8, .var 4, .var 5, .var 0]))
abbrev txPs6 : E := (.fn 79 (argsE [.var 8, .var 4, .var 5, .var 0]))
abbrev txPs7 : E := (.bi .pair (.var 5) (.bi .pair (.var 0) (.int 0)))
abbrev txPs8 : E := (.bi .pair (.var 8) (.bi .pair (.var 4) txPs7))
abbrev txPs9 : E := (.bi .add (.var 9) (.un .len (.fn 65 txPs8)))
abbrev txPs10 : E := (.un .code (.bi .app (.var 10) (.fn 65 txPs8)))
abbrev txPs11 : E := (.tr .cut (.var 8) txPs1 (.bi .add txPs1 (.int 16)))
abbrev zPs34 : E := (.bi .add (.fn 63 txPs8) (.int 26))
abbrev txPs12 : E := (.bi .add (.var 0) zPs34)
abbrev zPs19 : E := (.bi .add (.fn 63 txPs8) (.int 20))
abbrev txPs13 : E := (.bi .pair zPs19 (.int 0))
abbrev txPs14 : E := (.bi .snoc (.lits []) (.bi .sel txPs11 (.int 0)))
abbrev txPs15 : E := (.bi .pair (.var 5) (.bi .pair txPs12 (.int 0)))
abbrev txPs16 : E := (.bi .pair (.var 8) (.bi .pair txPs1 txPs13))
abbrev txPs17 : E := (.bi .pair (.var 8) (.bi .pair (.var 4) txPs15))
abbrev zPs33 : E := (.un .len (.fn 65 txPs17))
abbrev txPs18 : E := (.bi .add (.int 1) zPs33)
abbrev txPs19 : E := (.bi .add (.var 9) zPs33)
abbrev txPs20 : E := (.un .code (.bi .app (.var 10) (.fn 65 txPs17)))
abbrev zPs5 : E := (.bi .add (.var 2) (.int 1))
abbrev txPs21 : E := (.bi .add zPs5 (.fn 67 txPs17))
abbrev zPs25 : E := (.bi .add (.var 9) (.int 1))
abbrev txPs22 : E := (.bi .add zPs25 zPs33)
abbrev txPs23 : E := (.bi .snoc txPs14 (.bi .sel txPs11 (.int 1)))
abbrev txPs24 : E := (.bi .snoc txPs23 (.bi .sel txPs11 (.int 2)))
abbrev txPs25 : E := (.bi .snoc txPs24 (.bi .sel txPs11 (.int 3)))
abbrev txPs26 : E := (.bi .snoc txPs25 (.bi .sel txPs11 (.int 4)))
abbrev txPs27 : E := (.bi .snoc txPs26 (.bi .sel txPs11 (.int 5)))
abbrev txPs28 : E := (.bi .snoc txPs27 (.bi .sel txPs11 (.int 6)))
abbrev txPs29 : E := (.bi .snoc txPs28 (.bi .sel txPs11 (.int 7)))
abbrev txPs30 : E := (.bi .snoc txPs29 (.bi .sel txPs11 (.int 8)))
abbrev txPs31 : E := (.bi .snoc txPs30 (.bi .sel txPs11 (.int 9)))
abbrev txPs32 : E := (.bi .snoc txPs31 (.bi .sel txPs11 (.int 10)))
abbrev txPs33 : E := (.bi .snoc txPs32 (.bi .sel txPs11 (.int 11)))
abbrev txPs34 : E := (.bi .snoc txPs33 (.bi .sel txPs11 (.int 12)))
abbrev txPs35 : E := (.bi .snoc txPs34 (.bi .sel txPs11 (.int 13)))
abbrev txPs36 : E := (.bi .snoc txPs35 (.bi .sel txPs11 (.int 14)))
abbrev txPs37 : E := (.bi .snoc txPs36 (.bi .sel txPs11 (.int 15)))
abbrev txPs38 : E := (.bi .snoc (.bi .snoc (.lits []) txPs37) (.var 0))
abbrev txPs39 : E := (.bi .snoc (.var 10) (.bi .snoc txPs38 (.fn 63 txPs8)))
abbrev txPs40 : E := (.bi .snoc (.lits []) (.bi .snoc txPs38 (.fn 63 txPs8)))
abbrev txPs41 : E := (.un .code (.bi .app txPs39 (.fn 65 txPs17)))
abbrev txPs42 : E := (.un .code (.bi .app txPs40 (.fn 65 txPs17)))
noncomputable abbrev zPs0 : Nat × RW := (5, .loop 0 [(6, .ptr 9 0), (7, .ptr 11 0), (8, .ptr 13 0), (9, .ptr 15 0)] 47 (rangeAt Tryd.prog 19 [4, 1, 0, 1, 1, 1, 8, 1]))
abbrev zPs1 : Nat × RW := (7, .cells 22 0 false false [.sslice 17 (.var 4) (.var 5) (.var 6) false])
abbrev zPs2 : E := (.bi .add (.var 2) (.fn 67 txPs8))
abbrev zPs3 : Nat × RW := (13, .cells 3 0 false false [.sint .i64 (.bi .add (.var 2) txPs5)])
abbrev zPs4 : Duty := (true, (.fn 66 txPs17), (.fn 66 txPs8))
abbrev zPs6 : Nat × RW := (15, .cells 3 0 false false [.int .i64 0])
abbrev zPs7 : Duty := (true, zPs33, (.un .len (.fn 65 txPs8)))
abbrev zPs8 : Nat × RW := (19, .vseq ⟨35, .agg [.agg [.int .u8, .int .u8, .int .u8, .int .u8, .int .u8, .int .u8, .int .u8, .int .u8, .int .u8, .int .u8, .int .u8, .int .u8, .int .u8, .int .u8, .int .u8, .int .u8], .int .i64, .int .i64], .un .len txPs3, .fn 65 (argsE [.var 8, .var 4, .var 5, .var 0]), true⟩)
abbrev zPs9 : Nat × RW := (19, .vseq ⟨35, .agg [.agg [.int .u8, .int .u8, .int .u8, .int .u8, .int .u8, .int .u8, .int .u8, .int .u8, .int .u8, .int .u8, .int .u8, .int .u8, .int .u8, .int .u8, .int .u8, .int .u8], .int .i64, .int .i64], .bi .add (.var 9) (.un .len txPs3), .bi .app (.var 10) txPs3, true⟩)
noncomputable abbrev zPs10 : Nat × RW := (5, .loop 2 [(6, .ptr 9 0), (7, .ptr 11 0), (8, .ptr 13 0), (9, .ptr 15 0)] 47 (rangeAt Tryd.prog 19 [4, 1, 0, 1, 1, 1, 8, 1]))
abbrev zPs11 : Nat × RW := (19, .vseq ⟨35, .agg [.agg [.int .u8, .int .u8, .int .u8, .int .u8, .int .u8, .int .u8, .int .u8, .int .u8, .int .u8, .int .u8, .int .u8, .int .u8, .int .u8, .int .u8, .int .u8, .int .u8], .int .i64, .int .i64], .var 9, .var 10, true⟩)
abbrev zPs12 : Nat × RW := (11, .cells 3 0 false false [.sint .i64 (.var 3)])
abbrev zPs13 : Nat × RW := (13, .cells 3 0 false false [.sint .i64 (.var 2)])
abbrev zPs14 : Nat × RW := (11, .cells 3 0 false false [.sint .i64 txPs4])
abbrev zPs15 : Duty := (true, (.var 3), (.fn 66 txPs8))
abbrev zPs16 : Duty := (true, txPs18, (.un .len (.fn 65 txPs8)))
abbrev zPs17 : E := (.un .code (.bi .add (.var 0) (.int 0)))
abbrev zPs18 : Nat × RW := (9, .cells 36 0 false false [.nilslice])
abbrev zPs20 : E := (.bi .add (.var 4) (.var 5))
abbrev zPs21 : Duty := (true, (.fn 79 txPs17), (.fn 79 txPs8))
abbrev zPs22 : Nat × RW := (17, .eseq ⟨.u8, .var 7, .var 8⟩)
abbrev zPs23 : Duty := (true, (.bi .add (.var 2) (.fn 67 txPs17)), zPs2)
abbrev zPs24 : Nat × RW := (9, .cells 36 0 false false [.vslice 19 18 (.int 0) (.bi .add (.var 9) (.un .len txPs3)) (.bi .add (.var 9) (.un .len txPs3)) true])
abbrev zPs26 : Duty := (false, (.un .code (.var 10)), txPs10)
abbrev zPs27 : Nat × RW := (9, .cells 36 0 false false [.vslice 19 18 (.int 0) (.un .len txPs3) (.un .len txPs3) true])
abbrev zPs28 : Nat × RW := (15, .cells 3 0 false false [.sint .i64 txPs6])
abbrev zPs29 : Duty := (true, (.int 1), (.fn 79 txPs8))
abbrev zPs30 : E := (.bi .sub (.var 5) (.var 0))
abbrev zPs31 : Nat × RW := (9, .cells 36 0 false false [.vslice 19 18 (.int 0) (.var 9) (.var 9) true])
abbrev zPs32 : E := (.un .code (.fn 65 txPs8))
noncomputable def sNW0 : LSpec := { n := 18, next := 10, pat := [(0, .yieldf 5), (1, .ptr 7 0), (3, .sint .i64 (.var 0))], rows := [zPs0, zPs1, zPs18, zPs12, zPs13, zPs6, zPs22, (0, .ext cellsG)], pre := [(.le (.int 0) (.var 0), true), (.le (.var 0) (.var 5), true), (.le (.int 0) (.var 4), true), (.le zPs20 (.var 7), true), (.le (.var 5) (.var 6), true), (.le (.var 5) (.int 20000), true), (.eq (.var 3) (.var 0), true), (.le (.int 0) (.var 2), true), (.le (.var 2) (.var 0), true), (.same (.un .code (.var 0)) zPs17, true), (.same (.un .code (.var 8)) txPs0, true), (.eq txPs2 (.int 0), true), (.le (.int 1) (.un .len txPs3), false)], x := 0, fin := [], frows := [zPs0, zPs1, zPs18, zPs14, zPs3, zPs6], same := [5, 7, 9, 11, 13, 15, 17], chg := [0, 1, 3, 4, 5, 6, 7, 8, 9, 10, 11, 12, 13, 14, 15, 16, 17] }
noncomputable def sNW : Nat → LSpec
 | _ => sNW0
abbrev asPs0 : Q × Bool := ((.fit .i64 (.var 5)), true)
abbrev asPs1 : Q × Bool := ((.le (.var 5) (.var 0)), false)
abbrev asPs2 : Q × Bool := ((.le zPs20 (.var 7)), true)
abbrev asPs3 : Q × Bool := ((.le (.int 0) (.var 0)), true)
abbrev asPs4 : Q × Bool := ((.le (.var 0) (.var 5)), true)
abbrev asPs5 : Q × Bool := ((.le (.var 5) (.int 1000000)), true)
abbrev asPs6 : Q × Bool := ((.le (.int 6) zPs30), true)
abbrev asPs7 : Q × Bool := ((.eq (.fn 63 txPs8) (.int 0)), false)
abbrev asPs8 : Q × Bool := ((.le zPs34 zPs30), true)
abbrev asPs9 : Q × Bool := ((.le (.bi .add txPs1 zPs19) (.var 7)), true)
abbrev asPs10 : Q × Bool := ((.le (.int 0) txPs1), true)
abbrev asPs11 : Q × Bool := ((.le (.int 0) zPs19), true)
abbrev asPs12 : Q × Bool := ((.le zPs19 (.bi .sub (.var 6) (.bi .add (.var 0) (.int 6)))), true)
abbrev asPs13 : Q × Bool := ((.le (.int 21) zPs19), true)
abbrev asPs14 : Q × Bool := ((.le zPs19 (.int 100000)), true)
abbrev asPs15 : Q × Bool := ((.eq (.fn 64 txPs16) (.int 1)), false)
abbrev asPs16 : Q × Bool := ((.fit .i64 zPs5), true)
def sNW0_t0 : List (Q × Bool) := [asPs0, asPs1, asPs2, asPs3, asPs4, asPs5, asPs6, asPs7, asPs8, asPs9, asPs10, asPs11, asPs12, asPs13, asPs14, asPs15, asPs16]
def sNW0_d0 : List Duty := [zPs4, (true, txPs21, zPs2)]
def sNW0_h0 : List (Nat × E) := [(7, (.var 7)), (8, (.var 8)), (2, zPs5), (3, txPs12), (4, (.var 4)), (5, (.var 5)), (6, (.var 6)), (0, txPs12)]
theorem sNW0_h0_a : lookE sNW0_h0 0 = txPs12 ∧ lookE sNW0_h0 2 = zPs5 ∧ lookE sNW0_h0 3 = txPs12 ∧ lookE sNW0_h0 4 = (.var 4) ∧ lookE sNW0_h0 5 = (.var 5) ∧ lookE sNW0_h0 6 = (.var 6) ∧ lookE sNW0_h0 7 = (.var 7) ∧ lookE sNW0_h0 8 = (.var 8) := ⟨rfl, rfl, rfl, rfl, rfl, rfl, rfl, rfl⟩
noncomputable abbrev ltPs0 : List (FuncId × CSpec) := [(41, recT), (41, recB), (41, recS), (41, recY), (38, chunkY), (38, chunkN)]
theorem sNW0_y0 : nextJ (sNW 0) (sNW 0) sNW0_h0 [(17, 17), (15, 15), (13, 13), (11, 11), (9, 9), (7, 7), (5, 5)] (roundC Tryd.prog [] ltPs0 [] 3000 40 48 [4, 1] (tellA sNW0_t0) (sNW 0)) = some sNW0_d0 := by kernel_rfl
abbrev asPs17 : Q × Bool := ((.le (.var 5) (.var 0)), true)
def sNW0_t1 : List (Q × Bool) := [asPs0, asPs17]
def sNW0_d1 : List Duty := [zPs15, (true, (.var 2), zPs2)]
theorem sNW0_y1 : endD (sNW 0) [(5, 5), (7, 7), (9, 9), (11, 11), (13, 13), (15, 15), (17, 17)] 1000 (roundC Tryd.prog [] ltPs0 [] 3000 40 48 [4, 1] (tellA sNW0_t1) (sNW 0)) = some sNW0_d1 := by kernel_rfl
set_option maxHeartbeats 16000000 in
theorem sNW_holds : ∀ i, i < 1 → LHolds Tryd.prog (loopAt Tryd.prog 48 [4, 1]) (sNW i) F := by
 refine loop_famC sound (tableNil _ _) (specsCons recT_holds (specsCons recB_holds (specsCons recS_holds (specsCons recY_holds (specsCons chunkY_holds (specsCons chunkN_holds (specsNil _ _))))))) (oversNil _ _) (fuel := 3000) (depth := 40) (by kernel_rfl) (fun i d => match i with | _ => ((d 5).toInt - (d 0).toInt).toNat) ?_
 intro i hi d hp hR hA
 match i, hi with
 | 0, _ =>
   have hp := allTold'_iff.2 hp
   simp only [sNW, sNW0, tl] at hp hR hA
   simp only [argsE, F65, F68, F16, ints_list, List.length_map, tl] at hp
   obtain ⟨p1, p2, p3, p4, p5, p6, p7, p8, p9, q0, q8, pw, pn⟩ := hp
   simp only [true_and, and_true] at hR
   obtain ⟨hl, hx⟩ := hR
   have hs := scan_at (x := (d 8).ints) (o := (d 4).toInt) (l := (d 5).toInt) (p := (d 0).toInt) (by omega) (by omega) (by omega) rfl (by omega)
   have hq := size_in (prt (d 8).ints ((d 4).toInt + (d 0).toInt) ((d 4).toInt + (d 5).toInt))
   generalize hN : sizeI (prt (d 8).ints ((d 4).toInt + (d 0).toInt) ((d 4).toInt + (d 5).toInt)) = n at hs hq
   have hX := canon16 q8
   have h0 : d 0 = D.int (d 0).toInt := by
    have := canon0 q0
    rwa [Int.add_zero] at this
   have hy := prt_length (x := (d 8).ints) (o := (d 4).toInt + ((d 0).toInt + 6)) (t := (d 4).toInt + ((d 0).toInt + 6) + 16)
   by_cases c0 : (d 5).toInt ≤ (d 0).toInt
   ·rw [if_pos c0] at hs
    refine ⟨tellA sNW0_t1, tellA_ok (allTold'_iff.1 ?_), .inl ⟨_, _, _, sNW0_y1, dutiesTold_ok ?_⟩⟩
    ·simp only [sNW0_t1, F63, hN, tl]
     first | omega | (simp only [and_true, true_and]; omega) | (refine ⟨by omega, by omega, by omega, by omega, by omega, by omega, (by first | exact True.intro | omega), by omega, by omega, (by first | exact True.intro | rfl | exact q8 | (rw [Int.add_zero])), (by exact q8), ?_⟩; first | omega | (and_intros <;> omega))
    ·simp only [sNW0_d1, F65, F66, F67, F79, hs, ints_list, List.length_map, List.length_nil, tl]
     first | done | (and_intros <;> first | exact True.intro | rfl | omega | (rw [List.append_nil, list_toList (by rw [len_toL]; omega)]))
   ·rw [if_neg c0] at hs
    by_cases c1 : (d 5).toInt - (d 0).toInt < 6
    ·rw [if_pos c1] at hs
     exfalso
     rw [hs] at pw pn
     first | omega | (simp at pw; done) | (simp only [List.length_nil, List.length_cons] at pn; omega)
    ·rw [if_neg c1] at hs
     by_cases c2 : n = 0
     ·rw [if_pos c2] at hs
      exfalso
      rw [hs] at pw pn
      first | omega | (simp at pw; done) | (simp only [List.length_nil, List.length_cons] at pn; omega)
     ·rw [if_neg c2] at hs
      by_cases c3 : (d 5).toInt - (d 0).toInt < n + 26
      ·rw [if_pos c3] at hs
       exfalso
       rw [hs] at pw pn
       first | omega | (simp at pw; done) | (simp only [List.length_nil, List.length_cons] at pn; omega)
      ·rw [if_neg c3] at hs
       have hj := scanI_in (x := (d 8).ints) (o := (d 4).toInt) (l := (d 5).toInt) (p := (d 0).toInt + (n + 26)) (by omega) (by omega) (by omega) (by omega)
       by_cases g : bodyI (prt (d 8).ints ((d 4).toInt + ((d 0).toInt + 6)) ((d 4).toInt + ((d 0).toInt + 6) + (n + 20))) = 1
       ·rw [if_pos g] at hs
        exfalso
        rw [hs] at pw pn
        first | omega | (simp at pw; done) | (simp only [List.length_nil, List.length_cons] at pn; omega)
       ·rw [if_neg g] at hs
        rw [hs] at pw pn
        dsimp only at pw pn
        try rw [List.length_cons] at pn
        refine ⟨tellA sNW0_t0, tellA_ok (allTold'_iff.1 ?_), .inr ⟨0, sNW0_h0, _, _, by decide, sNW0_y0, dutiesTold_ok ?_, allTold'_iff.1 ?_, ?_⟩⟩
        ·simp only [sNW0_t0, F63, F64, hN, tl]
         first | omega | (simp only [and_true, true_and]; omega) | (refine ⟨by omega, by omega, by omega, by omega, by omega, by omega, (by first | exact True.intro | omega), by omega, by omega, (by first | exact True.intro | rfl | exact q8 | (rw [Int.add_zero])), (by exact q8), ?_⟩; first | omega | (and_intros <;> omega))
        ·simp only [sNW0_d0, F65, F66, F67, F79, F63, hN, hs, ints_list, List.length_map, List.length_cons, tl]
         first | done | (and_intros <;> first | exact True.intro | rfl | omega | (refine congrArg D.code ?_; simp only [cut_getD hX, Int.reduceToNat, ofInts16 (l := prt (d 8).ints ((d 4).toInt + ((d 0).toInt + 6)) ((d 4).toInt + ((d 0).toInt + 6) + 16)) (by omega), show (D.ofInts []).toList = [] from rfl, List.nil_append, List.cons_append, List.append_assoc, D.toList_list, ← h0]; first | done | rfl))
        ·simp only [sNW, sNW0, sNW0_h0_a, argsE, F65, F68, F16, F63, hN, ints_list, List.length_map, tl]
         first | omega | (simp only [and_true, true_and]; omega) | (refine ⟨by omega, by omega, by omega, by omega, by omega, by omega, (by first | exact True.intro | omega), by omega, by omega, (by first | exact True.intro | rfl | exact q8 | (rw [Int.add_zero])), (by exact q8), ?_⟩; first | omega | (and_intros <;> omega))
        ·simp only [sNW0_h0_a, F63, hN, tl]
         omega
theorem sNW0_holds : LHolds Tryd.prog (loopAt Tryd.prog 48 [4, 1]) sNW0 F := sNW_holds 0 (by decide)

noncomputable def sVW0 : LSpec := { n := 18, next := 10, pat := [(0, .yieldf 5), (1, .ptr 7 0), (3, .sint .i64 (.var 0))], rows := [zPs0, zPs1, zPs18, zPs12, zPs13, zPs6, zPs22, (0, .ext cellsG)], pre := [(.le (.int 0) (.var 0), true), (.le (.var 0) (.var 5), true), (.le (.int 0) (.var 4), true), (.le zPs20 (.var 7), true), (.le (.var 5) (.var 6), true), (.le (.var 5) (.int 20000), true), (.eq (.var 3) (.var 0), true), (.le (.int 0) (.var 2), true), (.le (.var 2) (.var 0), true), (.same (.un .code (.var 0)) zPs17, true), (.same (.un .code (.var 8)) txPs0, true), (.eq txPs2 (.int 0), true), (.le (.int 1) (.un .len txPs3), true)], x := 0, fin := [], frows := [zPs0, zPs1, zPs27, zPs14, zPs3, zPs6, zPs8], same := [5, 7, 9, 11, 13, 15, 17], chg := [0, 1, 3, 4, 5, 6, 7, 8, 9, 10, 11, 12, 13, 14, 15, 16, 17] }
noncomputable def sVW1 : LSpec := { n := 18, next := 10, pat := [(0, .yieldf 5), (1, .ptr 7 0), (3, .sint .i64 (.var 0))], rows := [zPs0, zPs1, zPs31, zPs12, zPs13, zPs6, zPs22, zPs11, (0, .ext cellsG)], pre := [(.le (.int 0) (.var 0), true), (.le (.var 0) (.var 5), true), (.le (.int 0) (.var 4), true), (.le zPs20 (.var 7), true), (.le (.var 5) (.var 6), true), (.le (.var 5) (.int 20000), true), (.eq (.var 3) (.var 0), true), (.le (.int 0) (.var 2), true), (.le (.var 2) (.var 0), true), (.same (.un .code (.var 0)) zPs17, true), (.same (.un .code (.var 8)) txPs0, true), (.le (.int 1) (.var 9), true), (.le (.var 9) (.var 0), true), (.eq txPs2 (.int 0), true)], x := 0, fin := [], frows := [zPs0, zPs1, zPs24, zPs14, zPs3, zPs6, zPs9], same := [5, 7, 9, 11, 13, 15, 17], chg := [0, 1, 3, 4, 5, 6, 7, 8, 9, 10, 11, 12, 13, 14, 15, 16, 17] }
noncomputable def sVW : Nat → LSpec
 | 0 => sVW0
 | _ => sVW1
abbrev asPs18 : Q × Bool := ((.eq (.fn 64 txPs16) (.int 1)), true)
def sVW0_t0 : List (Q × Bool) := [asPs0, asPs1, asPs2, asPs3, asPs4, asPs5, asPs6, asPs7, asPs8, asPs9, asPs10, asPs11, asPs12, asPs13, asPs14, asPs18]
def sVW0_d0 : List Duty := [zPs16, zPs16, zPs4, zPs23, zPs16, (false, txPs42, zPs32)]
def sVW0_h0 : List (Nat × E) := [(10, txPs40), (7, (.var 7)), (8, (.var 8)), (2, (.var 2)), (3, txPs12), (9, (.int 1)), (4, (.var 4)), (5, (.var 5)), (6, (.var 6)), (0, txPs12)]
theorem sVW0_h0_a : lookE sVW0_h0 0 = txPs12 ∧ lookE sVW0_h0 2 = (.var 2) ∧ lookE sVW0_h0 3 = txPs12 ∧ lookE sVW0_h0 4 = (.var 4) ∧ lookE sVW0_h0 5 = (.var 5) ∧ lookE sVW0_h0 6 = (.var 6) ∧ lookE sVW0_h0 7 = (.var 7) ∧ lookE sVW0_h0 8 = (.var 8) ∧ lookE sVW0_h0 9 = (.int 1) ∧ lookE sVW0_h0 10 = txPs40 := ⟨rfl, rfl, rfl, rfl, rfl, rfl, rfl, rfl, rfl, rfl⟩
theorem sVW0_y0 : nextJ (sVW 0) (sVW 1) sVW0_h0 [(19, 31), (17, 17), (15, 15), (13, 13), (11, 11), (9, 9), (7, 7), (5, 5)] (roundC Tryd.prog [] ltPs0 [] 3000 40 48 [4, 1] (tellA sVW0_t0) (sVW 0)) = some sVW0_d0 := by kernel_rfl
def sVW0_t1 : List (Q × Bool) := [asPs0, asPs1, asPs2, asPs3, asPs4, asPs5, asPs6, asPs7, asPs8, asPs9, asPs10, asPs11, asPs12, asPs13, asPs14, asPs15, asPs16]
def sVW0_d1 : List Duty := [zPs7, zPs7, zPs4, (true, txPs21, zPs2), zPs7, (false, (.un .code (.fn 65 txPs17)), zPs32)]
def sVW0_h1 : List (Nat × E) := [(7, (.var 7)), (8, (.var 8)), (2, zPs5), (3, txPs12), (4, (.var 4)), (5, (.var 5)), (6, (.var 6)), (0, txPs12)]
theorem sVW0_h1_a : lookE sVW0_h1 0 = txPs12 ∧ lookE sVW0_h1 2 = zPs5 ∧ lookE sVW0_h1 3 = txPs12 ∧ lookE sVW0_h1 4 = (.var 4) ∧ lookE sVW0_h1 5 = (.var 5) ∧ lookE sVW0_h1 6 = (.var 6) ∧ lookE sVW0_h1 7 = (.var 7) ∧ lookE sVW0_h1 8 = (.var 8) := ⟨rfl, rfl, rfl, rfl, rfl, rfl, rfl, rfl⟩
theorem sVW0_y1 : nextJ (sVW 0) (sVW 0) sVW0_h1 [(17, 17), (15, 15), (13, 13), (11, 11), (9, 9), (7, 7), (5, 5)] (roundC Tryd.prog [] ltPs0 [] 3000 40 48 [4, 1] (tellA sVW0_t1) (sVW 0)) = some sVW0_d1 := by kernel_rfl
abbrev asPs19 : Q × Bool := ((.le (.bi .mul zPs25 (.int 64)) (.int 281474976710656)), true)
def sVW1_t0 : List (Q × Bool) := [asPs0, asPs1, asPs2, asPs3, asPs4, asPs5, asPs6, asPs7, asPs8, asPs9, asPs10, asPs11, asPs12, asPs13, asPs14, asPs18, asPs19]
def sVW1_d0 : List Duty := [(true, txPs22, txPs9), (true, txPs22, txPs9), zPs4, zPs23, (true, txPs22, txPs9), (false, txPs41, txPs10)]
def sVW1_h0 : List (Nat × E) := [(10, txPs39), (7, (.var 7)), (8, (.var 8)), (2, (.var 2)), (3, txPs12), (9, zPs25), (4, (.var 4)), (5, (.var 5)), (6, (.var 6)), (0, txPs12)]
theorem sVW1_h0_a : lookE sVW1_h0 0 = txPs12 ∧ lookE sVW1_h0 2 = (.var 2) ∧ lookE sVW1_h0 3 = txPs12 ∧ lookE sVW1_h0 4 = (.var 4) ∧ lookE sVW1_h0 5 = (.var 5) ∧ lookE sVW1_h0 6 = (.var 6) ∧ lookE sVW1_h0 7 = (.var 7) ∧ lookE sVW1_h0 8 = (.var 8) ∧ lookE sVW1_h0 9 = zPs25 ∧ lookE sVW1_h0 10 = txPs39 := ⟨rfl, rfl, rfl, rfl, rfl, rfl, rfl, rfl, rfl, rfl⟩
theorem sVW1_y0 : nextJ (sVW 1) (sVW 1) sVW1_h0 [(19, 31), (17, 17), (15, 15), (13, 13), (11, 11), (9, 9), (7, 7), (5, 5)] (roundC Tryd.prog [] ltPs0 [] 3000 40 48 [4, 1] (tellA sVW1_t0) (sVW 1)) = some sVW1_d0 := by kernel_rfl
def sVW1_t1 : List (Q × Bool) := [asPs0, asPs1, asPs2, asPs3, asPs4, asPs5, asPs6, asPs7, asPs8, asPs9, asPs10, asPs11, asPs12, asPs13, asPs14, asPs15, asPs16]
def sVW1_d1 : List Duty := [(true, txPs19, txPs9), (true, txPs19, txPs9), zPs4, (true, txPs21, zPs2), (true, txPs19, txPs9), (false, txPs20, txPs10)]
def sVW1_h1 : List (Nat × E) := [(10, (.var 10)), (7, (.var 7)), (8, (.var 8)), (2, zPs5), (3, txPs12), (9, (.var 9)), (4, (.var 4)), (5, (.var 5)), (6, (.var 6)), (0, txPs12)]
theorem sVW1_h1_a : lookE sVW1_h1 0 = txPs12 ∧ lookE sVW1_h1 2 = zPs5 ∧ lookE sVW1_h1 3 = txPs12 ∧ lookE sVW1_h1 4 = (.var 4) ∧ lookE sVW1_h1 5 = (.var 5) ∧ lookE sVW1_h1 6 = (.var 6) ∧ lookE sVW1_h1 7 = (.var 7) ∧ lookE sVW1_h1 8 = (.var 8) ∧ lookE sVW1_h1 9 = (.var 9) ∧ lookE sVW1_h1 10 = (.var 10) := ⟨rfl, rfl, rfl, rfl, rfl, rfl, rfl, rfl, rfl, rfl⟩
theorem sVW1_y1 : nextJ (sVW 1) (sVW 1) sVW1_h1 [(19, 19), (17, 17), (15, 15), (13, 13), (11, 11), (9, 9), (7, 7), (5, 5)] (roundC Tryd.prog [] ltPs0 [] 3000 40 48 [4, 1] (tellA sVW1_t1) (sVW 1)) = some sVW1_d1 := by kernel_rfl
def sVW1_t2 : List (Q × Bool) := [asPs0, asPs17]
def sVW1_d2 : List Duty := [(true, (.var 9), txPs9), (true, (.var 9), txPs9), zPs15, (true, (.var 2), zPs2), (true, (.var 9), txPs9), zPs26]
theorem sVW1_y2 : endD (sVW 1) [(19, 19), (5, 5), (7, 7), (9, 9), (11, 11), (13, 13), (15, 15), (17, 17)] 1000 (roundC Tryd.prog [] ltPs0 [] 3000 40 48 [4, 1] (tellA sVW1_t2) (sVW 1)) = some sVW1_d2 := by kernel_rfl
set_option maxHeartbeats 16000000 in
theorem sVW_holds : ∀ i, i < 2 → LHolds Tryd.prog (loopAt Tryd.prog 48 [4, 1]) (sVW i) F := by
 refine loop_famC sound (tableNil _ _) (specsCons recT_holds (specsCons recB_holds (specsCons recS_holds (specsCons recY_holds (specsCons chunkY_holds (specsCons chunkN_holds (specsNil _ _))))))) (oversNil _ _) (fuel := 3000) (depth := 40) (by kernel_rfl) (fun i d => match i with | 0 => ((d 5).toInt - (d 0).toInt).toNat | _ => ((d 5).toInt - (d 0).toInt).toNat) ?_
 intro i hi d hp hR hA
 match i, hi with
 | 0, _ =>
   have hp := allTold'_iff.2 hp
   simp only [sVW, sVW0, tl] at hp hR hA
   simp only [argsE, F65, F68, F16, ints_list, List.length_map, tl] at hp
   obtain ⟨p1, p2, p3, p4, p5, p6, p7, p8, p9, q0, q8, pw, pn⟩ := hp
   simp only [true_and, and_true] at hR
   obtain ⟨hl, hx⟩ := hR
   have hs := scan_at (x := (d 8).ints) (o := (d 4).toInt) (l := (d 5).toInt) (p := (d 0).toInt) (by omega) (by omega) (by omega) rfl (by omega)
   have hq := size_in (prt (d 8).ints ((d 4).toInt + (d 0).toInt) ((d 4).toInt + (d 5).toInt))
   generalize hN : sizeI (prt (d 8).ints ((d 4).toInt + (d 0).toInt) ((d 4).toInt + (d 5).toInt)) = n at hs hq
   have hX := canon16 q8
   have h0 : d 0 = D.int (d 0).toInt := by
    have := canon0 q0
    rwa [Int.add_zero] at this
   have hy := prt_length (x := (d 8).ints) (o := (d 4).toInt + ((d 0).toInt + 6)) (t := (d 4).toInt + ((d 0).toInt + 6) + 16)
   by_cases c0 : (d 5).toInt ≤ (d 0).toInt
   ·rw [if_pos c0] at hs
    exfalso
    rw [hs] at pw pn
    first | omega | (simp at pw; done) | (simp only [List.length_nil, List.length_cons] at pn; omega)
   ·rw [if_neg c0] at hs
    by_cases c1 : (d 5).toInt - (d 0).toInt < 6
    ·rw [if_pos c1] at hs
     exfalso
     rw [hs] at pw pn
     first | omega | (simp at pw; done) | (simp only [List.length_nil, List.length_cons] at pn; omega)
    ·rw [if_neg c1] at hs
     by_cases c2 : n = 0
     ·rw [if_pos c2] at hs
      exfalso
      rw [hs] at pw pn
      first | omega | (simp at pw; done) | (simp only [List.length_nil, List.length_cons] at pn; omega)
     ·rw [if_neg c2] at hs
      by_cases c3 : (d 5).toInt - (d 0).toInt < n + 26
      ·rw [if_pos c3] at hs
       exfalso
       rw [hs] at pw pn
       first | omega | (simp at pw; done) | (simp only [List.length_nil, List.length_cons] at pn; omega)
      ·rw [if_neg c3] at hs
       have hj := scanI_in (x := (d 8).ints) (o := (d 4).toInt) (l := (d 5).toInt) (p := (d 0).toInt + (n + 26)) (by omega) (by omega) (by omega) (by omega)
       by_cases g : bodyI (prt (d 8).ints ((d 4).toInt + ((d 0).toInt + 6)) ((d 4).toInt + ((d 0).toInt + 6) + (n + 20))) = 1
       ·rw [if_pos g] at hs
        rw [hs] at pw pn
        dsimp only at pw pn
        try rw [List.length_cons] at pn
        refine ⟨tellA sVW0_t0, tellA_ok (allTold'_iff.1 ?_), .inr ⟨1, sVW0_h0, _, _, by decide, sVW0_y0, dutiesTold_ok ?_, allTold'_iff.1 ?_, ?_⟩⟩
        ·simp only [sVW0_t0, F63, F64, hN, tl]
         first | omega | (simp only [and_true, true_and]; omega) | (refine ⟨by omega, by omega, by omega, by omega, by omega, by omega, (by first | exact True.intro | omega), by omega, by omega, (by first | exact True.intro | rfl | exact q8 | (rw [Int.add_zero])), (by exact q8), ?_⟩; first | omega | (and_intros <;> omega))
        ·simp only [sVW0_d0, F65, F66, F67, F79, F63, hN, hs, ints_list, List.length_map, List.length_cons, tl]
         first | done | (and_intros <;> first | exact True.intro | rfl | omega | (refine congrArg D.code ?_; simp only [cut_getD hX, Int.reduceToNat, ofInts16 (l := prt (d 8).ints ((d 4).toInt + ((d 0).toInt + 6)) ((d 4).toInt + ((d 0).toInt + 6) + 16)) (by omega), show (D.ofInts []).toList = [] from rfl, List.nil_append, List.cons_append, List.append_assoc, D.toList_list, ← h0]; first | done | rfl))
        ·simp only [sVW, sVW0, sVW1, sVW0_h0_a, argsE, F65, F68, F16, F63, hN, ints_list, List.length_map, tl]
         first | omega | (simp only [and_true, true_and]; omega) | (refine ⟨by omega, by omega, by omega, by omega, by omega, by omega, (by first | exact True.intro | omega), by omega, by omega, (by first | exact True.intro | rfl | exact q8 | (rw [Int.add_zero])), (by exact q8), ?_⟩; first | omega | (and_intros <;> omega))
        ·simp only [sVW0_h0_a, F63, hN, tl]
         omega
       ·rw [if_neg g] at hs
        rw [hs] at pw pn
        dsimp only at pw pn
        try rw [List.length_cons] at pn
        refine ⟨tellA sVW0_t1, tellA_ok (allTold'_iff.1 ?_), .inr ⟨0, sVW0_h1, _, _, by decide, sVW0_y1, dutiesTold_ok ?_, allTold'_iff.1 ?_, ?_⟩⟩
        ·simp only [sVW0_t1, F63, F64, hN, tl]
         first | omega | (simp only [and_true, true_and]; omega) | (refine ⟨by omega, by omega, by omega, by omega, by omega, by omega, (by first | exact True.intro | omega), by omega, by omega, (by first | exact True.intro | rfl | exact q8 | (rw [Int.add_zero])), (by exact q8), ?_⟩; first | omega | (and_intros <;> omega))
        ·simp only [sVW0_d1, F65, F66, F67, F79, F63, hN, hs, ints_list, List.length_map, List.length_cons, tl]
         first | done | (and_intros <;> first | exact True.intro | rfl | omega | (refine congrArg D.code ?_; simp only [cut_getD hX, Int.reduceToNat, ofInts16 (l := prt (d 8).ints ((d 4).toInt + ((d 0).toInt + 6)) ((d 4).toInt + ((d 0).toInt + 6) + 16)) (by omega), show (D.ofInts []).toList = [] from rfl, List.nil_append, List.cons_append, List.append_assoc, D.toList_list, ← h0]; first | done | rfl))
        ·simp only [sVW, sVW0, sVW1, sVW0_h1_a, argsE, F65, F68, F16, F63, hN, ints_list, List.length_map, tl]
         first | omega | (simp only [and_true, true_and]; omega) | (refine ⟨by omega, by omega, by omega, by omega, by omega, by omega, (by first | exact True.intro | omega), by omega, by omega, (by first | exact True.intro | rfl | exact q8 | (rw [Int.add_zero])), (by exact q8), ?_⟩; first | omega | (and_intros <;> omega))
        ·simp only [sVW0_h1_a, F63, hN, tl]
         omega
 | 1, _ =>
   have hp := allTold'_iff.2 hp
   simp only [sVW, sVW1, tl] at hp hR hA
   simp only [argsE, F65, F68, F16, ints_list, List.length_map, tl] at hp
   obtain ⟨p1, p2, p3, p4, p5, p6, p7, p8, p9, q0, q8, z1, z2, pw⟩ := hp
   simp only [true_and, and_true] at hR
   obtain ⟨⟨hl, hx⟩, h10, _⟩ := hR
   have hs := scan_at (x := (d 8).ints) (o := (d 4).toInt) (l := (d 5).toInt) (p := (d 0).toInt) (by omega) (by omega) (by omega) rfl (by omega)
   have hq := size_in (prt (d 8).ints ((d 4).toInt + (d 0).toInt) ((d 4).toInt + (d 5).toInt))
   generalize hN : sizeI (prt (d 8).ints ((d 4).toInt + (d 0).toInt) ((d 4).toInt + (d 5).toInt)) = n at hs hq
   have hX := canon16 q8
   have h0 : d 0 = D.int (d 0).toInt := by
    have := canon0 q0
    rwa [Int.add_zero] at this
   have hy := prt_length (x := (d 8).ints) (o := (d 4).toInt + ((d 0).toInt + 6)) (t := (d 4).toInt + ((d 0).toInt + 6) + 16)
   by_cases c0 : (d 5).toInt ≤ (d 0).toInt
   ·rw [if_pos c0] at hs
    refine ⟨tellA sVW1_t2, tellA_ok (allTold'_iff.1 ?_), .inl ⟨_, _, _, sVW1_y2, dutiesTold_ok ?_⟩⟩
    ·simp only [sVW1_t2, F63, hN, tl]
     first | omega | (simp only [and_true, true_and]; omega) | (refine ⟨by omega, by omega, by omega, by omega, by omega, by omega, (by first | exact True.intro | omega), by omega, by omega, (by first | exact True.intro | rfl | exact q8 | (rw [Int.add_zero])), (by exact q8), ?_⟩; first | omega | (and_intros <;> omega))
    ·simp only [sVW1_d2, F65, F66, F67, F79, hs, ints_list, List.length_map, List.length_nil, tl]
     first | done | (and_intros <;> first | exact True.intro | rfl | omega | (rw [List.append_nil, list_toList (by rw [len_toL]; omega)]))
   ·rw [if_neg c0] at hs
    by_cases c1 : (d 5).toInt - (d 0).toInt < 6
    ·rw [if_pos c1] at hs
     exfalso
     rw [hs] at pw
     first | omega | (simp at pw; done) | (simp only [List.length_nil, List.length_cons] at pn; omega)
    ·rw [if_neg c1] at hs
     by_cases c2 : n = 0
     ·rw [if_pos c2] at hs
      exfalso
      rw [hs] at pw
      first | omega | (simp at pw; done) | (simp only [List.length_nil, List.length_cons] at pn; omega)
     ·rw [if_neg c2] at hs
      by_cases c3 : (d 5).toInt - (d 0).toInt < n + 26
      ·rw [if_pos c3] at hs
       exfalso
       rw [hs] at pw
       first | omega | (simp at pw; done) | (simp only [List.length_nil, List.length_cons] at pn; omega)
      ·rw [if_neg c3] at hs
       have hj := scanI_in (x := (d 8).ints) (o := (d 4).toInt) (l := (d 5).toInt) (p := (d 0).toInt + (n + 26)) (by omega) (by omega) (by omega) (by omega)
       by_cases g : bodyI (prt (d 8).ints ((d 4).toInt + ((d 0).toInt + 6)) ((d 4).toInt + ((d 0).toInt + 6) + (n + 20))) = 1
       ·rw [if_pos g] at hs
        rw [hs] at pw
        dsimp only at pw
        try rw [List.length_cons] at pn
        refine ⟨tellA sVW1_t0, tellA_ok (allTold'_iff.1 ?_), .inr ⟨1, sVW1_h0, _, _, by decide, sVW1_y0, dutiesTold_ok ?_, allTold'_iff.1 ?_, ?_⟩⟩
        ·simp only [sVW1_t0, F63, F64, hN, tl]
         first | omega | (simp only [and_true, true_and]; omega) | (refine ⟨by omega, by omega, by omega, by omega, by omega, by omega, (by first | exact True.intro | omega), by omega, by omega, (by first | exact True.intro | rfl | exact q8 | (rw [Int.add_zero])), (by exact q8), ?_⟩; first | omega | (and_intros <;> omega))
        ·simp only [sVW1_d0, F65, F66, F67, F79, F63, hN, hs, ints_list, List.length_map, List.length_cons, tl]
         first | done | (and_intros <;> first | exact True.intro | rfl | omega | (refine congrArg D.code ?_; simp only [cut_getD hX, Int.reduceToNat, ofInts16 (l := prt (d 8).ints ((d 4).toInt + ((d 0).toInt + 6)) ((d 4).toInt + ((d 0).toInt + 6) + 16)) (by omega), show (D.ofInts []).toList = [] from rfl, List.nil_append, List.cons_append, List.append_assoc, D.toList_list, ← h0]; first | done | rfl))
        ·simp only [sVW, sVW0, sVW1, sVW1_h0_a, argsE, F65, F68, F16, F63, hN, ints_list, List.length_map, tl]
         first | omega | (simp only [and_true, true_and]; omega) | (refine ⟨by omega, by omega, by omega, by omega, by omega, by omega, (by first | exact True.intro | omega), by omega, by omega, (by first | exact True.intro | rfl | exact q8 | (rw [Int.add_zero])), (by exact q8), ?_⟩; first | omega | (and_intros <;> omega))
        ·simp only [sVW1_h0_a, F63, hN, tl]
         omega
       ·rw [if_neg g] at hs
        rw [hs] at pw
        dsimp only at pw
        try rw [List.length_cons] at pn
        refine ⟨tellA sVW1_t1, tellA_ok (allTold'_iff.1 ?_), .inr ⟨1, sVW1_h1, _, _, by decide, sVW1_y1, dutiesTold_ok ?_, allTold'_iff.1 ?_, ?_⟩⟩
        ·simp only [sVW1_t1, F63, F64, hN, tl]
         first | omega | (simp only [and_true, true_and]; omega) | (refine ⟨by omega, by omega, by omega, by omega, by omega, by omega, (by first | exact True.intro | omega), by omega, by omega, (by first | exact True.intro | rfl | exact q8 | (rw [Int.add_zero])), (by exact q8), ?_⟩; first | omega | (and_intros <;> omega))
        ·simp only [sVW1_d1, F65, F66, F67, F79, F63, hN, hs, ints_list, List.length_map, List.length_cons, tl]
         first | done | (and_intros <;> first | exact True.intro | rfl | omega | (refine congrArg D.code ?_; simp only [cut_getD hX, Int.reduceToNat, ofInts16 (l := prt (d 8).ints ((d 4).toInt + ((d 0).toInt + 6)) ((d 4).toInt + ((d 0).toInt + 6) + 16)) (by omega), show (D.ofInts []).toList = [] from rfl, List.nil_append, List.cons_append, List.append_assoc, D.toList_list, ← h0]; first | done | rfl))
        ·simp only [sVW, sVW0, sVW1, sVW1_h1_a, argsE, F65, F68, F16, F63, hN, ints_list, List.length_map, tl]
         first | omega | (simp only [and_true, true_and]; omega) | (refine ⟨by omega, by omega, by omega, by omega, by omega, by omega, (by first | exact True.intro | omega), by omega, by omega, (by first | exact True.intro | rfl | exact q8 | (rw [Int.add_zero])), (by exact q8), ?_⟩; first | omega | (and_intros <;> omega))
        ·simp only [sVW1_h1_a, F63, hN, tl]
         omega
theorem sVW0_holds : LHolds Tryd.prog (loopAt Tryd.prog 48 [4, 1]) sVW0 F := sVW_holds 0 (by decide)
theorem sVW1_holds : LHolds Tryd.prog (loopAt Tryd.prog 48 [4, 1]) sVW1 F := sVW_holds 1 (by decide)

noncomputable def sNR0 : LSpec := { n := 18, next := 10, pat := [(0, .yieldf 5), (1, .ptr 7 0), (3, .sint .i64 (.var 0))], rows := [zPs0, zPs1, zPs18, zPs12, zPs13, zPs6, zPs22, (0, .ext cellsG)], pre := [(.le (.int 0) (.var 0), true), (.le (.var 0) (.var 5), true), (.le (.int 0) (.var 4), true), (.le zPs20 (.var 7), true), (.le (.var 5) (.var 6), true), (.le (.var 5) (.int 20000), true), (.eq (.var 3) (.var 0), true), (.le (.int 0) (.var 2), true), (.le (.var 2) (.var 0), true), (.same (.un .code (.var 0)) zPs17, true), (.same (.un .code (.var 8)) txPs0, true), (.eq txPs2 (.int 0), false), (.le (.int 1) (.un .len txPs3), false)], x := 999999, fin := [], frows := [zPs10, zPs1, zPs18, zPs14, zPs3, zPs28], same := [5, 7, 9, 11, 13, 15, 17], chg := [0, 1, 3, 4, 5, 6, 7, 8, 9, 10, 11, 12, 13, 14, 15, 16, 17] }
noncomputable def sNR : Nat → LSpec
 | _ => sNR0
def sNR0_t0 : List (Q × Bool) := [asPs0, asPs1, asPs2, asPs3, asPs4, asPs5, asPs6, asPs7, asPs8, asPs9, asPs10, asPs11, asPs12, asPs13, asPs14, asPs15, asPs16]
def sNR0_d0 : List Duty := [zPs4, (true, txPs21, zPs2), zPs21]
def sNR0_h0 : List (Nat × E) := [(7, (.var 7)), (8, (.var 8)), (2, zPs5), (3, txPs12), (4, (.var 4)), (5, (.var 5)), (6, (.var 6)), (0, txPs12)]
theorem sNR0_h0_a : lookE sNR0_h0 0 = txPs12 ∧ lookE sNR0_h0 2 = zPs5 ∧ lookE sNR0_h0 3 = txPs12 ∧ lookE sNR0_h0 4 = (.var 4) ∧ lookE sNR0_h0 5 = (.var 5) ∧ lookE sNR0_h0 6 = (.var 6) ∧ lookE sNR0_h0 7 = (.var 7) ∧ lookE sNR0_h0 8 = (.var 8) := ⟨rfl, rfl, rfl, rfl, rfl, rfl, rfl, rfl⟩
theorem sNR0_y0 : nextJ (sNR 0) (sNR 0) sNR0_h0 [(17, 17), (15, 15), (13, 13), (11, 11), (9, 9), (7, 7), (5, 5)] (roundC Tryd.prog [] ltPs0 [] 3000 40 48 [4, 1] (tellA sNR0_t0) (sNR 0)) = some sNR0_d0 := by kernel_rfl
abbrev asPs20 : Q × Bool := ((.le (.int 6) zPs30), false)
def sNR0_t1 : List (Q × Bool) := [asPs0, asPs1, asPs2, asPs3, asPs4, asPs5, asPs20]
def sNR0_d1 : List Duty := [zPs15, (true, (.var 2), zPs2), zPs29]
theorem sNR0_y1 : endD (sNR 0) [(5, 5), (7, 7), (9, 9), (11, 11), (13, 13), (15, 15), (17, 17)] 1000 (roundC Tryd.prog [] ltPs0 [] 3000 40 48 [4, 1] (tellA sNR0_t1) (sNR 0)) = some sNR0_d1 := by kernel_rfl
abbrev asPs21 : Q × Bool := ((.eq (.fn 63 txPs8) (.int 0)), true)
def sNR0_t2 : List (Q × Bool) := [asPs0, asPs1, asPs2, asPs3, asPs4, asPs5, asPs6, asPs21]
def sNR0_d2 : List Duty := [zPs15, (true, (.var 2), zPs2), (true, (.int 2), (.fn 79 txPs8))]
theorem sNR0_y2 : endD (sNR 0) [(5, 5), (7, 7), (9, 9), (11, 11), (13, 13), (15, 15), (17, 17)] 1000 (roundC Tryd.prog [] ltPs0 [] 3000 40 48 [4, 1] (tellA sNR0_t2) (sNR 0)) = some sNR0_d2 := by kernel_rfl
abbrev asPs22 : Q × Bool := ((.le zPs34 zPs30), false)
def sNR0_t3 : List (Q × Bool) := [asPs0, asPs1, asPs2, asPs3, asPs4, asPs5, asPs6, asPs7, asPs22]
def sNR0_d3 : List Duty := [zPs15, (true, (.var 2), zPs2), zPs29]
theorem sNR0_y3 : endD (sNR 0) [(5, 5), (7, 7), (9, 9), (11, 11), (13, 13), (15, 15), (17, 17)] 1000 (roundC Tryd.prog [] ltPs0 [] 3000 40 48 [4, 1] (tellA sNR0_t3) (sNR 0)) = some sNR0_d3 := by kernel_rfl
set_option maxHeartbeats 16000000 in
theorem sNR_holds : ∀ i, i < 1 → LHolds Tryd.prog (loopAt Tryd.prog 48 [4, 1]) (sNR i) F := by
 refine loop_famC sound (tableNil _ _) (specsCons recT_holds (specsCons recB_holds (specsCons recS_holds (specsCons recY_holds (specsCons chunkY_holds (specsCons chunkN_holds (specsNil _ _))))))) (oversNil _ _) (fuel := 3000) (depth := 40) (by kernel_rfl) (fun i d => match i with | _ => ((d 5).toInt - (d 0).toInt).toNat) ?_
 intro i hi d hp hR hA
 match i, hi with
 | 0, _ =>
   have hp := allTold'_iff.2 hp
   simp only [sNR, sNR0, tl] at hp hR hA
   simp only [argsE, F65, F68, F16, ints_list, List.length_map, tl] at hp
   obtain ⟨p1, p2, p3, p4, p5, p6, p7, p8, p9, q0, q8, pw, pn⟩ := hp
   simp only [true_and, and_true] at hR
   obtain ⟨hl, hx⟩ := hR
   have hs := scan_at (x := (d 8).ints) (o := (d 4).toInt) (l := (d 5).toInt) (p := (d 0).toInt) (by omega) (by omega) (by omega) rfl (by omega)
   have hq := size_in (prt (d 8).ints ((d 4).toInt + (d 0).toInt) ((d 4).toInt + (d 5).toInt))
   generalize hN : sizeI (prt (d 8).ints ((d 4).toInt + (d 0).toInt) ((d 4).toInt + (d 5).toInt)) = n at hs hq
   have hX := canon16 q8
   have h0 : d 0 = D.int (d 0).toInt := by
    have := canon0 q0
    rwa [Int.add_zero] at this
   have hy := prt_length (x := (d 8).ints) (o := (d 4).toInt + ((d 0).toInt + 6)) (t := (d 4).toInt + ((d 0).toInt + 6) + 16)
   by_cases c0 : (d 5).toInt ≤ (d 0).toInt
   ·rw [if_pos c0] at hs
    exfalso
    rw [hs] at pw pn
    first | omega | (simp at pw; done) | (simp only [List.length_nil, List.length_cons] at pn; omega)
   ·rw [if_neg c0] at hs
    by_cases c1 : (d 5).toInt - (d 0).toInt < 6
    ·rw [if_pos c1] at hs
     refine ⟨tellA sNR0_t1, tellA_ok (allTold'_iff.1 ?_), .inl ⟨_, _, _, sNR0_y1, dutiesTold_ok ?_⟩⟩
     ·simp only [sNR0_t1, F63, hN, tl]
      first | omega | (simp only [and_true, true_and]; omega) | (refine ⟨by omega, by omega, by omega, by omega, by omega, by omega, (by first | exact True.intro | omega), by omega, by omega, (by first | exact True.intro | rfl | exact q8 | (rw [Int.add_zero])), (by exact q8), ?_⟩; first | omega | (and_intros <;> omega))
     ·simp only [sNR0_d1, F65, F66, F67, F79, hs, ints_list, List.length_map, List.length_nil, tl]
      first | done | (and_intros <;> first | exact True.intro | rfl | omega | (rw [List.append_nil, list_toList (by rw [len_toL]; omega)]))
    ·rw [if_neg c1] at hs
     by_cases c2 : n = 0
     ·rw [if_pos c2] at hs
      refine ⟨tellA sNR0_t2, tellA_ok (allTold'_iff.1 ?_), .inl ⟨_, _, _, sNR0_y2, dutiesTold_ok ?_⟩⟩
      ·simp only [sNR0_t2, F63, hN, tl]
       first | omega | (simp only [and_true, true_and]; omega) | (refine ⟨by omega, by omega, by omega, by omega, by omega, by omega, (by first | exact True.intro | omega), by omega, by omega, (by first | exact True.intro | rfl | exact q8 | (rw [Int.add_zero])), (by exact q8), ?_⟩; first | omega | (and_intros <;> omega))
      ·simp only [sNR0_d2, F65, F66, F67, F79, hs, ints_list, List.length_map, List.length_nil, tl]
       first | done | (and_intros <;> first | exact True.intro | rfl | omega | (rw [List.append_nil, list_toList (by rw [len_toL]; omega)]))
     ·rw [if_neg c2] at hs
      by_cases c3 : (d 5).toInt - (d 0).toInt < n + 26
      ·rw [if_pos c3] at hs
       refine ⟨tellA sNR0_t3, tellA_ok (allTold'_iff.1 ?_), .inl ⟨_, _, _, sNR0_y3, dutiesTold_ok ?_⟩⟩
       ·simp only [sNR0_t3, F63, hN, tl]
        first | omega | (simp only [and_true, true_and]; omega) | (refine ⟨by omega, by omega, by omega, by omega, by omega, by omega, (by first | exact True.intro | omega), by omega, by omega, (by first | exact True.intro | rfl | exact q8 | (rw [Int.add_zero])), (by exact q8), ?_⟩; first | omega | (and_intros <;> omega))
       ·simp only [sNR0_d3, F65, F66, F67, F79, hs, ints_list, List.length_map, List.length_nil, tl]
        first | done | (and_intros <;> first | exact True.intro | rfl | omega | (rw [List.append_nil, list_toList (by rw [len_toL]; omega)]))
      ·rw [if_neg c3] at hs
       have hj := scanI_in (x := (d 8).ints) (o := (d 4).toInt) (l := (d 5).toInt) (p := (d 0).toInt + (n + 26)) (by omega) (by omega) (by omega) (by omega)
       by_cases g : bodyI (prt (d 8).ints ((d 4).toInt + ((d 0).toInt + 6)) ((d 4).toInt + ((d 0).toInt + 6) + (n + 20))) = 1
       ·rw [if_pos g] at hs
        exfalso
        rw [hs] at pw pn
        first | omega | (simp at pw; done) | (simp only [List.length_nil, List.length_cons] at pn; omega)
       ·rw [if_neg g] at hs
        rw [hs] at pw pn
        dsimp only at pw pn
        try rw [List.length_cons] at pn
        refine ⟨tellA sNR0_t0, tellA_ok (allTold'_iff.1 ?_), .inr ⟨0, sNR0_h0, _, _, by decide, sNR0_y0, dutiesTold_ok ?_, allTold'_iff.1 ?_, ?_⟩⟩
        ·simp only [sNR0_t0, F63, F64, hN, tl]
         first | omega | (simp only [and_true, true_and]; omega) | (refine ⟨by omega, by omega, by omega, by omega, by omega, by omega, (by first | exact True.intro | omega), by omega, by omega, (by first | exact True.intro | rfl | exact q8 | (rw [Int.add_zero])), (by exact q8), ?_⟩; first | omega | (and_intros <;> omega))
        ·simp only [sNR0_d0, F65, F66, F67, F79, F63, hN, hs, ints_list, List.length_map, List.length_cons, tl]
         first | done | (and_intros <;> first | exact True.intro | rfl | omega | (refine congrArg D.code ?_; simp only [cut_getD hX, Int.reduceToNat, ofInts16 (l := prt (d 8).ints ((d 4).toInt + ((d 0).toInt + 6)) ((d 4).toInt + ((d 0).toInt + 6) + 16)) (by omega), show (D.ofInts []).toList = [] from rfl, List.nil_append, List.cons_append, List.append_assoc, D.toList_list, ← h0]; first | done | rfl))
        ·simp only [sNR, sNR0, sNR0_h0_a, argsE, F65, F68, F16, F63, hN, ints_list, List.length_map, tl]
         first | omega | (simp only [and_true, true_and]; omega) | (refine ⟨by omega, by omega, by omega, by omega, by omega, by omega, (by first | exact True.intro | omega), by omega, by omega, (by first | exact True.intro | rfl | exact q8 | (rw [Int.add_zero])), (by exact q8), ?_⟩; first | omega | (and_intros <;> omega))
        ·simp only [sNR0_h0_a, F63, hN, tl]
         omega
theorem sNR0_holds : LHolds Tryd.prog (loopAt Tryd.prog 48 [4, 1]) sNR0 F := sNR_holds 0 (by decide)

noncomputable def sVR0 : LSpec := { n := 18, next := 10, pat := [(0, .yieldf 5), (1, .ptr 7 0), (3, .sint .i64 (.var 0))], rows := [zPs0, zPs1, zPs18, zPs12, zPs13, zPs6, zPs22, (0, .ext cellsG)], pre := [(.le (.int 0) (.var 0), true), (.le (.var 0) (.var 5), true), (.le (.int 0) (.var 4), true), (.le zPs20 (.var 7), true), (.le (.var 5) (.var 6), true), (.le (.var 5) (.int 20000), true), (.eq (.var 3) (.var 0), true), (.le (.int 0) (.var 2), true), (.le (.var 2) (.var 0), true), (.same (.un .code (.var 0)) zPs17, true), (.same (.un .code (.var 8)) txPs0, true), (.eq txPs2 (.int 0), false), (.le (.int 1) (.un .len txPs3), true)], x := 999999, fin := [], frows := [zPs10, zPs1, zPs27, zPs14, zPs3, zPs28, zPs8], same := [5, 7, 9, 11, 13, 15, 17], chg := [0, 1, 3, 4, 5, 6, 7, 8, 9, 10, 11, 12, 13, 14, 15, 16, 17] }
noncomputable def sVR1 : LSpec := { n := 18, next := 10, pat := [(0, .yieldf 5), (1, .ptr 7 0), (3, .sint .i64 (.var 0))], rows := [zPs0, zPs1, zPs31, zPs12, zPs13, zPs6, zPs22, zPs11, (0, .ext cellsG)], pre := [(.le (.int 0) (.var 0), true), (.le (.var 0) (.var 5), true), (.le (.int 0) (.var 4), true), (.le zPs20 (.var 7), true), (.le (.var 5) (.var 6), true), (.le (.var 5) (.int 20000), true), (.eq (.var 3) (.var 0), true), (.le (.int 0) (.var 2), true), (.le (.var 2) (.var 0), true), (.same (.un .code (.var 0)) zPs17, true), (.same (.un .code (.var 8)) txPs0, true), (.le (.int 1) (.var 9), true), (.le (.var 9) (.var 0), true), (.eq txPs2 (.int 0), false)], x := 999999, fin := [], frows := [zPs10, zPs1, zPs24, zPs14, zPs3, zPs28, zPs9], same := [5, 7, 9, 11, 13, 15, 17], chg := [0, 1, 3, 4, 5, 6, 7, 8, 9, 10, 11, 12, 13, 14, 15, 16, 17] }
noncomputable def sVR : Nat → LSpec
 | 0 => sVR0
 | _ => sVR1
def sVR0_t0 : List (Q × Bool) := [asPs0, asPs1, asPs2, asPs3, asPs4, asPs5, asPs6, asPs7, asPs8, asPs9, asPs10, asPs11, asPs12, asPs13, asPs14, asPs18]
def sVR0_d0 : List Duty := [zPs16, zPs16, zPs4, zPs23, zPs21, zPs16, (false, txPs42, zPs32)]
def sVR0_h0 : List (Nat × E) := [(10, txPs40), (7, (.var 7)), (8, (.var 8)), (2, (.var 2)), (3, txPs12), (9, (.int 1)), (4, (.var 4)), (5, (.var 5)), (6, (.var 6)), (0, txPs12)]
theorem sVR0_h0_a : lookE sVR0_h0 0 = txPs12 ∧ lookE sVR0_h0 2 = (.var 2) ∧ lookE sVR0_h0 3 = txPs12 ∧ lookE sVR0_h0 4 = (.var 4) ∧ lookE sVR0_h0 5 = (.var 5) ∧ lookE sVR0_h0 6 = (.var 6) ∧ lookE sVR0_h0 7 = (.var 7) ∧ lookE sVR0_h0 8 = (.var 8) ∧ lookE sVR0_h0 9 = (.int 1) ∧ lookE sVR0_h0 10 = txPs40 := ⟨rfl, rfl, rfl, rfl, rfl, rfl, rfl, rfl, rfl, rfl⟩
theorem sVR0_y0 : nextJ (sVR 0) (sVR 1) sVR0_h0 [(19, 31), (17, 17), (15, 15), (13, 13), (11, 11), (9, 9), (7, 7), (5, 5)] (roundC Tryd.prog [] ltPs0 [] 3000 40 48 [4, 1] (tellA sVR0_t0) (sVR 0)) = some sVR0_d0 := by kernel_rfl
def sVR0_t1 : List (Q × Bool) := [asPs0, asPs1, asPs2, asPs3, asPs4, asPs5, asPs6, asPs7, asPs8, asPs9, asPs10, asPs11, asPs12, asPs13, asPs14, asPs15, asPs16]
def sVR0_d1 : List Duty := [zPs7, zPs7, zPs4, (true, txPs21, zPs2), zPs21, zPs7, (false, (.un .code (.fn 65 txPs17)), zPs32)]
def sVR0_h1 : List (Nat × E) := [(7, (.var 7)), (8, (.var 8)), (2, zPs5), (3, txPs12), (4, (.var 4)), (5, (.var 5)), (6, (.var 6)), (0, txPs12)]
theorem sVR0_h1_a : lookE sVR0_h1 0 = txPs12 ∧ lookE sVR0_h1 2 = zPs5 ∧ lookE sVR0_h1 3 = txPs12 ∧ lookE sVR0_h1 4 = (.var 4) ∧ lookE sVR0_h1 5 = (.var 5) ∧ lookE sVR0_h1 6 = (.var 6) ∧ lookE sVR0_h1 7 = (.var 7) ∧ lookE sVR0_h1 8 = (.var 8) := ⟨rfl, rfl, rfl, rfl, rfl, rfl, rfl, rfl⟩
theorem sVR0_y1 : nextJ (sVR 0) (sVR 0) sVR0_h1 [(17, 17), (15, 15), (13, 13), (11, 11), (9, 9), (7, 7), (5, 5)] (roundC Tryd.prog [] ltPs0 [] 3000 40 48 [4, 1] (tellA sVR0_t1) (sVR 0)) = some sVR0_d1 := by kernel_rfl
def sVR1_t0 : List (Q × Bool) := [asPs0, asPs1, asPs2, asPs3, asPs4, asPs5, asPs6, asPs7, asPs8, asPs9, asPs10, asPs11, asPs12, asPs13, asPs14, asPs18, asPs19]
def sVR1_d0 : List Duty := [(true, txPs22, txPs9), (true, txPs22, txPs9), zPs4, zPs23, zPs21, (true, txPs22, txPs9), (false, txPs41, txPs10)]
def sVR1_h0 : List (Nat × E) := [(10, txPs39), (7, (.var 7)), (8, (.var 8)), (2, (.var 2)), (3, txPs12), (9, zPs25), (4, (.var 4)), (5, (.var 5)), (6, (.var 6)), (0, txPs12)]
theorem sVR1_h0_a : lookE sVR1_h0 0 = txPs12 ∧ lookE sVR1_h0 2 = (.var 2) ∧ lookE sVR1_h0 3 = txPs12 ∧ lookE sVR1_h0 4 = (.var 4) ∧ lookE sVR1_h0 5 = (.var 5) ∧ lookE sVR1_h0 6 = (.var 6) ∧ lookE sVR1_h0 7 = (.var 7) ∧ lookE sVR1_h0 8 = (.var 8) ∧ lookE sVR1_h0 9 = zPs25 ∧ lookE sVR1_h0 10 = txPs39 := ⟨rfl, rfl, rfl, rfl, rfl, rfl, rfl, rfl, rfl, rfl⟩
theorem sVR1_y0 : nextJ (sVR 1) (sVR 1) sVR1_h0 [(19, 31), (17, 17), (15, 15), (13, 13), (11, 11), (9, 9), (7, 7), (5, 5)] (roundC Tryd.prog [] ltPs0 [] 3000 40 48 [4, 1] (tellA sVR1_t0) (sVR 1)) = some sVR1_d0 := by kernel_rfl
def sVR1_t1 : List (Q × Bool) := [asPs0, asPs1, asPs2, asPs3, asPs4, asPs5, asPs6, asPs7, asPs8, asPs9, asPs10, asPs11, asPs12, asPs13, asPs14, asPs15, asPs16]
def sVR1_d1 : List Duty := [(true, txPs19, txPs9), (true, txPs19, txPs9), zPs4, (true, txPs21, zPs2), zPs21, (true, txPs19, txPs9), (false, txPs20, txPs10)]
def sVR1_h1 : List (Nat × E) := [(10, (.var 10)), (7, (.var 7)), (8, (.var 8)), (2, zPs5), (3, txPs12), (9, (.var 9)), (4, (.var 4)), (5, (.var 5)), (6, (.var 6)), (0, txPs12)]
theorem sVR1_h1_a : lookE sVR1_h1 0 = txPs12 ∧ lookE sVR1_h1 2 = zPs5 ∧ lookE sVR1_h1 3 = txPs12 ∧ lookE sVR1_h1 4 = (.var 4) ∧ lookE sVR1_h1 5 = (.var 5) ∧ lookE sVR1_h1 6 = (.var 6) ∧ lookE sVR1_h1 7 = (.var 7) ∧ lookE sVR1_h1 8 = (.var 8) ∧ lookE sVR1_h1 9 = (.var 9) ∧ lookE sVR1_h1 10 = (.var 10) := ⟨rfl, rfl, rfl, rfl, rfl, rfl, rfl, rfl, rfl, rfl⟩
theorem sVR1_y1 : nextJ (sVR 1) (sVR 1) sVR1_h1 [(19, 19), (17, 17), (15, 15), (13, 13), (11, 11), (9, 9), (7, 7), (5, 5)] (roundC Tryd.prog [] ltPs0 [] 3000 40 48 [4, 1] (tellA sVR1_t1) (sVR 1)) = some sVR1_d1 := by kernel_rfl
def sVR1_t2 : List (Q × Bool) := [asPs0, asPs1, asPs2, asPs3, asPs4, asPs5, asPs20]
def sVR1_d2 : List Duty := [(true, (.var 9), txPs9), (true, (.var 9), txPs9), zPs15, (true, (.var 2), zPs2), zPs29, (true, (.var 9), txPs9), zPs26]
theorem sVR1_y2 : endD (sVR 1) [(19, 19), (5, 5), (7, 7), (9, 9), (11, 11), (13, 13), (15, 15), (17, 17)] 1000 (roundC Tryd.prog [] ltPs0 [] 3000 40 48 [4, 1] (tellA sVR1_t2) (sVR 1)) = some sVR1_d2 := by kernel_rfl
def sVR1_t3 : List (Q × Bool) := [asPs0, asPs1, asPs2, asPs3, asPs4, asPs5, asPs6, asPs21]
def sVR1_d3 : List Duty := [(true, (.var 9), txPs9), (true, (.var 9), txPs9), zPs15, (true, (.var 2), zPs2), (true, (.int 2), (.fn 79 txPs8)), (true, (.var 9), txPs9), zPs26]
theorem sVR1_y3 : endD (sVR 1) [(19, 19), (5, 5), (7, 7), (9, 9), (11, 11), (13, 13), (15, 15), (17, 17)] 1000 (roundC Tryd.prog [] ltPs0 [] 3000 40 48 [4, 1] (tellA sVR1_t3) (sVR 1)) = some sVR1_d3 := by kernel_rfl
def sVR1_t4 : List (Q × Bool) := [asPs0, asPs1, asPs2, asPs3, asPs4, asPs5, asPs6, asPs7, asPs22]
def sVR1_d4 : List Duty := [(true, (.var 9), txPs9), (true, (.var 9), txPs9), zPs15, (true, (.var 2), zPs2), zPs29, (true, (.var 9), txPs9), zPs26]
theorem sVR1_y4 : endD (sVR 1) [(19, 19), (5, 5), (7, 7), (9, 9), (11, 11), (13, 13), (15, 15), (17, 17)] 1000 (roundC Tryd.prog [] ltPs0 [] 3000 40 48 [4, 1] (tellA sVR1_t4) (sVR 1)) = some sVR1_d4 := by kernel_rfl
set_option maxHeartbeats 16000000 in
theorem sVR_holds : ∀ i, i < 2 → LHolds Tryd.prog (loopAt Tryd.prog 48 [4, 1]) (sVR i) F := by
 refine loop_famC sound (tableNil _ _) (specsCons recT_holds (specsCons recB_holds (specsCons recS_holds (specsCons recY_holds (specsCons chunkY_holds (specsCons chunkN_holds (specsNil _ _))))))) (oversNil _ _) (fuel := 3000) (depth := 40) (by kernel_rfl) (fun i d => match i with | 0 => ((d 5).toInt - (d 0).toInt).toNat | _ => ((d 5).toInt - (d 0).toInt).toNat) ?_
 intro i hi d hp hR hA
 match i, hi with
 | 0, _ =>
   have hp := allTold'_iff.2 hp
   simp only [sVR, sVR0, tl] at hp hR hA
   simp only [argsE, F65, F68, F16, ints_list, List.length_map, tl] at hp
   obtain ⟨p1, p2, p3, p4, p5, p6, p7, p8, p9, q0, q8, pw, pn⟩ := hp
   simp only [true_and, and_true] at hR
   obtain ⟨hl, hx⟩ := hR
   have hs := scan_at (x := (d 8).ints) (o := (d 4).toInt) (l := (d 5).toInt) (p := (d 0).toInt) (by omega) (by omega) (by omega) rfl (by omega)
   have hq := size_in (prt (d 8).ints ((d 4).toInt + (d 0).toInt) ((d 4).toInt + (d 5).toInt))
   generalize hN : sizeI (prt (d 8).ints ((d 4).toInt + (d 0).toInt) ((d 4).toInt + (d 5).toInt)) = n at hs hq
   have hX := canon16 q8
   have h0 : d 0 = D.int (d 0).toInt := by
    have := canon0 q0
    rwa [Int.add_zero] at this
   have hy := prt_length (x := (d 8).ints) (o := (d 4).toInt + ((d 0).toInt + 6)) (t := (d 4).toInt + ((d 0).toInt + 6) + 16)
   by_cases c0 : (d 5).toInt ≤ (d 0).toInt
   ·rw [if_pos c0] at hs
    exfalso
    rw [hs] at pw pn
    first | omega | (simp at pw; done) | (simp only [List.length_nil, List.length_cons] at pn; omega)
   ·rw [if_neg c0] at hs
    by_cases c1 : (d 5).toInt - (d 0).toInt < 6
    ·rw [if_pos c1] at hs
     exfalso
     rw [hs] at pw pn
     first | omega | (simp at pw; done) | (simp only [List.length_nil, List.length_cons] at pn; omega)
    ·rw [if_neg c1] at hs
     by_cases c2 : n = 0
     ·rw [if_pos c2] at hs
      exfalso
      rw [hs] at pw pn
      first | omega | (simp at pw; done) | (simp only [List.length_nil, List.length_cons] at pn; omega)
     ·rw [if_neg c2] at hs
      by_cases c3 : (d 5).toInt - (d 0).toInt < n + 26
      ·rw [if_pos c3] at hs
       exfalso
       rw [hs] at pw pn
       first | omega | (simp at pw; done) | (simp only [List.length_nil, List.length_cons] at pn; omega)
      ·rw [if_neg c3] at hs
       have hj := scanI_in (x := (d 8).ints) (o := (d 4).toInt) (l := (d 5).toInt) (p := (d 0).toInt + (n + 26)) (by omega) (by omega) (by omega) (by omega)
       by_cases g : bodyI (prt (d 8).ints ((d 4).toInt + ((d 0).toInt + 6)) ((d 4).toInt + ((d 0).toInt + 6) + (n + 20))) = 1
       ·rw [if_pos g] at hs
        rw [hs] at pw pn
        dsimp only at pw pn
        try rw [List.length_cons] at pn
        refine ⟨tellA sVR0_t0, tellA_ok (allTold'_iff.1 ?_), .inr ⟨1, sVR0_h0, _, _, by decide, sVR0_y0, dutiesTold_ok ?_, allTold'_iff.1 ?_, ?_⟩⟩
        ·simp only [sVR0_t0, F63, F64, hN, tl]
         first | omega | (simp only [and_true, true_and]; omega) | (refine ⟨by omega, by omega, by omega, by omega, by omega, by omega, (by first | exact True.intro | omega), by omega, by omega, (by first | exact True.intro | rfl | exact q8 | (rw [Int.add_zero])), (by exact q8), ?_⟩; first | omega | (and_intros <;> omega))
        ·simp only [sVR0_d0, F65, F66, F67, F79, F63, hN, hs, ints_list, List.length_map, List.length_cons, tl]
         first | done | (and_intros <;> first | exact True.intro | rfl | omega | (refine congrArg D.code ?_; simp only [cut_getD hX, Int.reduceToNat, ofInts16 (l := prt (d 8).ints ((d 4).toInt + ((d 0).toInt + 6)) ((d 4).toInt + ((d 0).toInt + 6) + 16)) (by omega), show (D.ofInts []).toList = [] from rfl, List.nil_append, List.cons_append, List.append_assoc, D.toList_list, ← h0]; first | done | rfl))
        ·simp only [sVR, sVR0, sVR1, sVR0_h0_a, argsE, F65, F68, F16, F63, hN, ints_list, List.length_map, tl]
         first | omega | (simp only [and_true, true_and]; omega) | (refine ⟨by omega, by omega, by omega, by omega, by omega, by omega, (by first | exact True.intro | omega), by omega, by omega, (by first | exact True.intro | rfl | exact q8 | (rw [Int.add_zero])), (by exact q8), ?_⟩; first | omega | (and_intros <;> omega))
        ·simp only [sVR0_h0_a, F63, hN, tl]
         omega
       ·rw [if_neg g] at hs
        rw [hs] at pw pn
        dsimp only at pw pn
        try rw [List.length_cons] at pn
        refine ⟨tellA sVR0_t1, tellA_ok (allTold'_iff.1 ?_), .inr ⟨0, sVR0_h1, _, _, by decide, sVR0_y1, dutiesTold_ok ?_, allTold'_iff.1 ?_, ?_⟩⟩
        ·simp only [sVR0_t1, F63, F64, hN, tl]
         first | omega | (simp only [and_true, true_and]; omega) | (refine ⟨by omega, by omega, by omega, by omega, by omega, by omega, (by first | exact True.intro | omega), by omega, by omega, (by first | exact True.intro | rfl | exact q8 | (rw [Int.add_zero])), (by exact q8), ?_⟩; first | omega | (and_intros <;> omega))
        ·simp only [sVR0_d1, F65, F66, F67, F79, F63, hN, hs, ints_list, List.length_map, List.length_cons, tl]
         first | done | (and_intros <;> first | exact True.intro | rfl | omega | (refine congrArg D.code ?_; simp only [cut_getD hX, Int.reduceToNat, ofInts16 (l := prt (d 8).ints ((d 4).toInt + ((d 0).toInt + 6)) ((d 4).toInt + ((d 0).toInt + 6) + 16)) (by omega), show (D.ofInts []).toList = [] from rfl, List.nil_append, List.cons_append, List.append_assoc, D.toList_list, ← h0]; first | done | rfl))
        ·simp only [sVR, sVR0, sVR1, sVR0_h1_a, argsE, F65, F68, F16, F63, hN, ints_list, List.length_map, tl]
         first | omega | (simp only [and_true, true_and]; omega) | (refine ⟨by omega, by omega, by omega, by omega, by omega, by omega, (by first | exact True.intro | omega), by omega, by omega, (by first | exact True.intro | rfl | exact q8 | (rw [Int.add_zero])), (by exact q8), ?_⟩; first | omega | (and_intros <;> omega))
        ·simp only [sVR0_h1_a, F63, hN, tl]
         omega
 | 1, _ =>
   have hp := allTold'_iff.2 hp
   simp only [sVR, sVR1, tl] at hp hR hA
   simp only [argsE, F65, F68, F16, ints_list, List.length_map, tl] at hp
   obtain ⟨p1, p2, p3, p4, p5, p6, p7, p8, p9, q0, q8, z1, z2, pw⟩ := hp
   simp only [true_and, and_true] at hR
   obtain ⟨⟨hl, hx⟩, h10, _⟩ := hR
   have hs := scan_at (x := (d 8).ints) (o := (d 4).toInt) (l := (d 5).toInt) (p := (d 0).toInt) (by omega) (by omega) (by omega) rfl (by omega)
   have hq := size_in (prt (d 8).ints ((d 4).toInt + (d 0).toInt) ((d 4).toInt + (d 5).toInt))
   generalize hN : sizeI (prt (d 8).ints ((d 4).toInt + (d 0).toInt) ((d 4).toInt + (d 5).toInt)) = n at hs hq
   have hX := canon16 q8
   have h0 : d 0 = D.int (d 0).toInt := by
    have := canon0 q0
    rwa [Int.add_zero] at this
   have hy := prt_length (x := (d 8).ints) (o := (d 4).toInt + ((d 0).toInt + 6)) (t := (d 4).toInt + ((d 0).toInt + 6) + 16)
   by_cases c0 : (d 5).toInt ≤ (d 0).toInt
   ·rw [if_pos c0] at hs
    exfalso
    rw [hs] at pw
    first | omega | (simp at pw; done) | (simp only [List.length_nil, List.length_cons] at pn; omega)
   ·rw [if_neg c0] at hs
    by_cases c1 : (d 5).toInt - (d 0).toInt < 6
    ·rw [if_pos c1] at hs
     refine ⟨tellA sVR1_t2, tellA_ok (allTold'_iff.1 ?_), .inl ⟨_, _, _, sVR1_y2, dutiesTold_ok ?_⟩⟩
     ·simp only [sVR1_t2, F63, hN, tl]
      first | omega | (simp only [and_true, true_and]; omega) | (refine ⟨by omega, by omega, by omega, by omega, by omega, by omega, (by first | exact True.intro | omega), by omega, by omega, (by first | exact True.intro | rfl | exact q8 | (rw [Int.add_zero])), (by exact q8), ?_⟩; first | omega | (and_intros <;> omega))
     ·simp only [sVR1_d2, F65, F66, F67, F79, hs, ints_list, List.length_map, List.length_nil, tl]
      first | done | (and_intros <;> first | exact True.intro | rfl | omega | (rw [List.append_nil, list_toList (by rw [len_toL]; omega)]))
    ·rw [if_neg c1] at hs
     by_cases c2 : n = 0
     ·rw [if_pos c2] at hs
      refine ⟨tellA sVR1_t3, tellA_ok (allTold'_iff.1 ?_), .inl ⟨_, _, _, sVR1_y3, dutiesTold_ok ?_⟩⟩
      ·simp only [sVR1_t3, F63, hN, tl]
       first | omega | (simp only [and_true, true_and]; omega) | (refine ⟨by omega, by omega, by omega, by omega, by omega, by omega, (by first | exact True.intro | omega), by omega, by omega, (by first | exact True.intro | rfl | exact q8 | (rw [Int.add_zero])), (by exact q8), ?_⟩; first | omega | (and_intros <;> omega))
      ·simp only [sVR1_d3, F65, F66, F67, F79, hs, ints_list, List.length_map, List.length_nil, tl]
       first | done | (and_intros <;> first | exact True.intro | rfl | omega | (rw [List.append_nil, list_toList (by rw [len_toL]; omega)]))
     ·rw [if_neg c2] at hs
      by_cases c3 : (d 5).toInt - (d 0).toInt < n + 26
      ·rw [if_pos c3] at hs
       refine ⟨tellA sVR1_t4, tellA_ok (allTold'_iff.1 ?_), .inl ⟨_, _, _, sVR1_y4, dutiesTold_ok ?_⟩⟩
       ·simp only [sVR1_t4, F63, hN, tl]
        first | omega | (simp only [and_true, true_and]; omega) | (refine ⟨by omega, by omega, by omega, by omega, by omega, by omega, (by first | exact True.intro | omega), by omega, by omega, (by first | exact True.intro | rfl | exact q8 | (rw [Int.add_zero])), (by exact q8), ?_⟩; first | omega | (and_intros <;> omega))
       ·simp only [sVR1_d4, F65, F66, F67, F79, hs, ints_list, List.length_map, List.length_nil, tl]
        first | done | (and_intros <;> first | exact True.intro | rfl | omega | (rw [List.append_nil, list_toList (by rw [len_toL]; omega)]))
      ·rw [if_neg c3] at hs
       have hj := scanI_in (x := (d 8).ints) (o := (d 4).toInt) (l := (d 5).toInt) (p := (d 0).toInt + (n + 26)) (by omega) (by omega) (by omega) (by omega)
       by_cases g : bodyI (prt (d 8).ints ((d 4).toInt + ((d 0).toInt + 6)) ((d 4).toInt + ((d 0).toInt + 6) + (n + 20))) = 1
       ·rw [if_pos g] at hs
        rw [hs] at pw
        dsimp only at pw
        try rw [List.length_cons] at pn
        refine ⟨tellA sVR1_t0, tellA_ok (allTold'_iff.1 ?_), .inr ⟨1, sVR1_h0, _, _, by decide, sVR1_y0, dutiesTold_ok ?_, allTold'_iff.1 ?_, ?_⟩⟩
        ·simp only [sVR1_t0, F63, F64, hN, tl]
         first | omega | (simp only [and_true, true_and]; omega) | (refine ⟨by omega, by omega, by omega, by omega, by omega, by omega, (by first | exact True.intro | omega), by omega, by omega, (by first | exact True.intro | rfl | exact q8 | (rw [Int.add_zero])), (by exact q8), ?_⟩; first | omega | (and_intros <;> omega))
        ·simp only [sVR1_d0, F65, F66, F67, F79, F63, hN, hs, ints_list, List.length_map, List.length_cons, tl]
         first | done | (and_intros <;> first | exact True.intro | rfl | omega | (refine congrArg D.code ?_; simp only [cut_getD hX, Int.reduceToNat, ofInts16 (l := prt (d 8).ints ((d 4).toInt + ((d 0).toInt + 6)) ((d 4).toInt + ((d 0).toInt + 6) + 16)) (by omega), show (D.ofInts []).toList = [] from rfl, List.nil_append, List.cons_append, List.append_assoc, D.toList_list, ← h0]; first | done | rfl))
        ·simp only [sVR, sVR0, sVR1, sVR1_h0_a, argsE, F65, F68, F16, F63, hN, ints_list, List.length_map, tl]
         first | omega | (simp only [and_true, true_and]; omega) | (refine ⟨by omega, by omega, by omega, by omega, by omega, by omega, (by first | exact True.intro | omega), by omega, by omega, (by first | exact True.intro | rfl | exact q8 | (rw [Int.add_zero])), (by exact q8), ?_⟩; first | omega | (and_intros <;> omega))
        ·simp only [sVR1_h0_a, F63, hN, tl]
         omega
       ·rw [if_neg g] at hs
        rw [hs] at pw
        dsimp only at pw
        try rw [List.length_cons] at pn
        refine ⟨tellA sVR1_t1, tellA_ok (allTold'_iff.1 ?_), .inr ⟨1, sVR1_h1, _, _, by decide, sVR1_y1, dutiesTold_ok ?_, allTold'_iff.1 ?_, ?_⟩⟩
        ·simp only [sVR1_t1, F63, F64, hN, tl]
         first | omega | (simp only [and_true, true_and]; omega) | (refine ⟨by omega, by omega, by omega, by omega, by omega, by omega, (by first | exact True.intro | omega), by omega, by omega, (by first | exact True.intro | rfl | exact q8 | (rw [Int.add_zero])), (by exact q8), ?_⟩; first | omega | (and_intros <;> omega))
        ·simp only [sVR1_d1, F65, F66, F67, F79, F63, hN, hs, ints_list, List.length_map, List.length_cons, tl]
         first | done | (and_intros <;> first | exact True.intro | rfl | omega | (refine congrArg D.code ?_; simp only [cut_getD hX, Int.reduceToNat, ofInts16 (l := prt (d 8).ints ((d 4).toInt + ((d 0).toInt + 6)) ((d 4).toInt + ((d 0).toInt + 6) + 16)) (by omega), show (D.ofInts []).toList = [] from rfl, List.nil_append, List.cons_append, List.append_assoc, D.toList_list, ← h0]; first | done | rfl))
        ·simp only [sVR, sVR0, sVR1, sVR1_h1_a, argsE, F65, F68, F16, F63, hN, ints_list, List.length_map, tl]
         first | omega | (simp only [and_true, true_and]; omega) | (refine ⟨by omega, by omega, by omega, by omega, by omega, by omega, (by first | exact True.intro | omega), by omega, by omega, (by first | exact True.intro | rfl | exact q8 | (rw [Int.add_zero])), (by exact q8), ?_⟩; first | omega | (and_intros <;> omega))
        ·simp only [sVR1_h1_a, F63, hN, tl]
         omega
theorem sVR0_holds : LHolds Tryd.prog (loopAt Tryd.prog 48 [4, 1]) sVR0 F := sVR_holds 0 (by decide)
theorem sVR1_holds : LHolds Tryd.prog (loopAt Tryd.prog 48 [4, 1]) sVR1 F := sVR_holds 1 (by decide)

end Go.Proofs.YtidjfojcifjdjaaDoor.Ps

set_option linter.unusedSimpArgs false
set_option linter.unusedVariables false
namespace Go.Proofs.YtidjfojcifjdjaaDoor.Pc4
open Go.RowKit Go.Ev Go.Proofs.YtidjfojcifjdjaaDoor.Co

open Go.Proofs.YtidjfojcifjdjaaDoor.P0
open Go.Proofs.YtidjfojcifjdjaaDoor.Pa
open Go.Proofs.YtidjfojcifjdjaaDoor.Pm
open Go.Proofs.YtidjfojcifjdjaaDoor.Pl
open Go.Proofs.YtidjfojcifjdjaaDoor.Pn
open Go.Proofs.YtidjfojcifjdjaaDoor.Pu
open Go.Proofs.YtidjfojcifjdjaaDoor.Puo
open Go.Proofs.YtidjfojcifjdjaaDoor.Pq
open Go.Proofs.YtidjfojcifjdjaaDoor.Pqo
open Go.Proofs.YtidjfojcifjdjaaDoor.Pg
open Go.Proofs.YtidjfojcifjdjaaDoor.Pb
open Go.Proofs.YtidjfojcifjdjaaDoor.Pb2
open Go.Proofs.YtidjfojcifjdjaaDoor.Ps4
open Go.Proofs.YtidjfojcifjdjaaDoor.Ps

abbrev txPc40 : E := (.un .code (.fn 16 (argsE [.int 56, .var 5])))
abbrev txPc41 : E := (.fn 68 (argsE [.var 5, .var 1, .var 2, .int 0]))
abbrev txPc42 : E := (.fn 65 (argsE [.var 5, .var 1, .var 2, .int 0]))
abbrev txPc43 : E := (.fn 66 (argsE [.var 5, .var 1, .var 2, .int 0]))
abbrev txPc44 : E := (.fn 67 (argsE [.var 5, .var 1, .var 2, .int 0]))
abbrev txPc45 : E := (.bi .pair (.var 2) (.bi .pair (.int 0) (.int 0)))
abbrev txPc46 : E := (.bi .pair (.var 5) (.bi .pair (.var 1) txPc45))
abbrev zPc40 : Nat × RW := (5, .vseq ⟨35, .agg [.agg [.int .u8, .int .u8, .int .u8, .int .u8, .int .u8, .int .u8, .int .u8, .int .u8, .int .u8, .int .u8, .int .u8, .int .u8, .int .u8, .int .u8, .int .u8, .int .u8], .int .i64, .int .i64], .un .len txPc42, .fn 65 (argsE [.var 5, .var 1, .var 2, .int 0]), true⟩)
abbrev zPc41 : Duty := (true, (.bi .add (.int 0) (.fn 67 txPc46)), (.fn 67 txPc46))
abbrev zPc42 : E := (.bi .add (.var 1) (.var 2))
abbrev zPc43 : Nat × RW := (3, .eseq ⟨.u8, .var 4, .var 5⟩)
abbrev zPc44 : E := (.fn 79 (argsE [.var 5, .var 1, .var 2, .int 0]))
def scNW : CSpec := { args := [.sslice 3 (.var 1) (.var 2) (.var 3) false], next := 2, rows := [zPc43, (0, .ext cellsG)], pre := [(.le zPc42 (.var 4), true), (.le (.var 2) (.int 20000), true), (.same (.un .code (.var 5)) txPc40, true), (.eq txPc41 (.int 0), true), (.le (.int 1) (.un .len txPc42), false)], res := .tuple [.nilslice, .sint .i64 txPc43, .sint .i64 txPc44, .int .i64 0], frows := [], same := [3] }
abbrev asPc40 : Q × Bool := ((.le (.int 0) (.var 2)), true)
abbrev asPc41 : Q × Bool := ((.le (.int 0) (.var 1)), true)
abbrev asPc42 : Q × Bool := ((.le zPc42 (.var 4)), true)
abbrev asPc43 : Q × Bool := ((.le (.var 2) (.var 3)), true)
abbrev asPc44 : Q × Bool := ((.le (.var 2) (.int 20000)), true)
abbrev asPc45 : Q × Bool := ((.same (.un .code (.int 0)) (.un .code (.bi .add (.int 0) (.int 0)))), true)
abbrev asPc46 : Q × Bool := ((.same (.un .code (.var 5)) (.un .code (.fn 16 (.bi .pair (.int 56) (.bi .pair (.var 5) (.int 0)))))), true)
abbrev asPc47 : Q × Bool := ((.eq (.fn 68 txPc46) (.int 0)), true)
abbrev asPc48 : Q × Bool := ((.le (.int 1) (.un .len (.fn 65 txPc46))), false)
def scNW_t0 : List (Q × Bool) := [asPc40, asPc41, asPc42, asPc43, asPc44, asPc45, asPc46, asPc47, asPc48]
def scNW_d0 : List Duty := [zPc41]
theorem scNW_y0 : endC scNW [(3, 3)] 1000 (callC Tryd.prog (tellA scNW_t0) [⟨48, [4, 1], sNW0⟩] [] [] 3000 40 19 scNW) = some scNW_d0 := by kernel_rfl
theorem scNW_holds : CHolds Tryd.prog 19 scNW F := by
 refine cholds_of sound (tableCons sNW0_holds (tableNil _ _)) (specsNil _ _) (oversNil _ _) (fuel := 3000) (depth := 40) (by kernel_rfl) fun d hp hR hA => ?_
 have hp := allTold'_iff.2 hp
 simp only [scNW, tl] at hp hR hA
 simp only [argsE, F16, F65, F68, ints_list, List.length_map, tl] at hp
 have h5 := scanI_in (x := (d 5).ints) (o := (d 1).toInt) (l := (d 2).toInt) (p := 0) (by omega) (by omega) (by omega) (by omega)
 refine ⟨tellA scNW_t0, _, _, _, tellA_ok (allTold'_iff.1 ?_), scNW_y0, dutiesTold_ok ?_⟩
 ·simp only [scNW_t0, F65, F68, F16, ints_list, List.length_map, tl]
  first | omega | (and_intros <;> first | omega | exact True.intro | rfl | exact hp.2.2.1)
 ·simp only [scNW_d0, F65, F66, F67, F79, ints_list, List.length_map, tl]
  first | done | omega | (and_intros <;> first | omega | exact True.intro | rfl)

def scVW : CSpec := { args := [.sslice 3 (.var 1) (.var 2) (.var 3) false], next := 2, rows := [zPc43, (0, .ext cellsG)], pre := [(.le zPc42 (.var 4), true), (.le (.var 2) (.int 20000), true), (.same (.un .code (.var 5)) txPc40, true), (.eq txPc41 (.int 0), true), (.le (.int 1) (.un .len txPc42), true)], res := .tuple [.vslice 5 18 (.int 0) (.un .len txPc42) (.un .len txPc42) true, .sint .i64 txPc43, .sint .i64 txPc44, .int .i64 0], frows := [zPc40], same := [3] }
abbrev asPc49 : Q × Bool := ((.le (.int 1) (.un .len (.fn 65 txPc46))), true)
def scVW_t0 : List (Q × Bool) := [asPc40, asPc41, asPc42, asPc43, asPc44, asPc45, asPc46, asPc47, asPc49]
def scVW_d0 : List Duty := [zPc41]
theorem scVW_y0 : endC scVW [(5, 19), (3, 3)] 1000 (callC Tryd.prog (tellA scVW_t0) [⟨48, [4, 1], sVW0⟩, ⟨48, [4, 1], sVW1⟩] [] [] 3000 40 19 scVW) = some scVW_d0 := by kernel_rfl
theorem scVW_holds : CHolds Tryd.prog 19 scVW F := by
 refine cholds_of sound (tableCons sVW0_holds (tableCons sVW1_holds (tableNil _ _))) (specsNil _ _) (oversNil _ _) (fuel := 3000) (depth := 40) (by kernel_rfl) fun d hp hR hA => ?_
 have hp := allTold'_iff.2 hp
 simp only [scVW, tl] at hp hR hA
 simp only [argsE, F16, F65, F68, ints_list, List.length_map, tl] at hp
 have h5 := scanI_in (x := (d 5).ints) (o := (d 1).toInt) (l := (d 2).toInt) (p := 0) (by omega) (by omega) (by omega) (by omega)
 refine ⟨tellA scVW_t0, _, _, _, tellA_ok (allTold'_iff.1 ?_), scVW_y0, dutiesTold_ok ?_⟩
 ·simp only [scVW_t0, F65, F68, F16, ints_list, List.length_map, tl]
  first | omega | (and_intros <;> first | omega | exact True.intro | rfl | exact hp.2.2.1)
 ·simp only [scVW_d0, F65, F66, F67, F79, ints_list, List.length_map, tl]
  first | done | omega | (and_intros <;> first | omega | exact True.intro | rfl)

def scNR : CSpec := { args := [.sslice 3 (.var 1) (.var 2) (.var 3) false], next := 2, rows := [zPc43, (0, .ext cellsG)], pre := [(.le zPc42 (.var 4), true), (.le (.var 2) (.int 20000), true), (.same (.un .code (.var 5)) txPc40, true), (.eq txPc41 (.int 0), false), (.le (.int 1) (.un .len txPc42), false)], res := .tuple [.nilslice, .sint .i64 txPc43, .sint .i64 txPc44, .sint .i64 zPc44], frows := [], same := [3] }
abbrev asPc410 : Q × Bool := ((.eq (.fn 68 txPc46) (.int 0)), false)
def scNR_t0 : List (Q × Bool) := [asPc40, asPc41, asPc42, asPc43, asPc44, asPc45, asPc46, asPc410, asPc48]
def scNR_d0 : List Duty := [zPc41]
theorem scNR_y0 : endC scNR [(3, 3)] 1000 (callC Tryd.prog (tellA scNR_t0) [⟨48, [4, 1], sNR0⟩] [] [] 3000 40 19 scNR) = some scNR_d0 := by kernel_rfl
theorem scNR_holds : CHolds Tryd.prog 19 scNR F := by
 refine cholds_of sound (tableCons sNR0_holds (tableNil _ _)) (specsNil _ _) (oversNil _ _) (fuel := 3000) (depth := 40) (by kernel_rfl) fun d hp hR hA => ?_
 have hp := allTold'_iff.2 hp
 simp only [scNR, tl] at hp hR hA
 simp only [argsE, F16, F65, F68, ints_list, List.length_map, tl] at hp
 have h5 := scanI_in (x := (d 5).ints) (o := (d 1).toInt) (l := (d 2).toInt) (p := 0) (by omega) (by omega) (by omega) (by omega)
 refine ⟨tellA scNR_t0, _, _, _, tellA_ok (allTold'_iff.1 ?_), scNR_y0, dutiesTold_ok ?_⟩
 ·simp only [scNR_t0, F65, F68, F16, ints_list, List.length_map, tl]
  first | omega | (and_intros <;> first | omega | exact True.intro | rfl | exact hp.2.2.1)
 ·simp only [scNR_d0, F65, F66, F67, F79, ints_list, List.length_map, tl]
  first | done | omega | (and_intros <;> first | omega | exact True.intro | rfl)

def scVR : CSpec := { args := [.sslice 3 (.var 1) (.var 2) (.var 3) false], next := 2, rows := [zPc43, (0, .ext cellsG)], pre := [(.le zPc42 (.var 4), true), (.le (.var 2) (.int 20000), true), (.same (.un .code (.var 5)) txPc40, true), (.eq txPc41 (.int 0), false), (.le (.int 1) (.un .len txPc42), true)], res := .tuple [.vslice 5 18 (.int 0) (.un .len txPc42) (.un .len txPc42) true, .sint .i64 txPc43, .sint .i64 txPc44, .sint .i64 zPc44], frows := [zPc40], same := [3] }
def scVR_t0 : List (Q × Bool) := [asPc40, asPc41, asPc42, asPc43, asPc44, asPc45, asPc46, asPc410, asPc49]
def scVR_d0 : List Duty := [zPc41]
theorem scVR_y0 : endC scVR [(5, 19), (3, 3)] 1000 (callC Tryd.prog (tellA scVR_t0) [⟨48, [4, 1], sVR0⟩, ⟨48, [4, 1], sVR1⟩] [] [] 3000 40 19 scVR) = some scVR_d0 := by kernel_rfl
theorem scVR_holds : CHolds Tryd.prog 19 scVR F := by
 refine cholds_of sound (tableCons sVR0_holds (tableCons sVR1_holds (tableNil _ _))) (specsNil _ _) (oversNil _ _) (fuel := 3000) (depth := 40) (by kernel_rfl) fun d hp hR hA => ?_
 have hp := allTold'_iff.2 hp
 simp only [scVR, tl] at hp hR hA
 simp only [argsE, F16, F65, F68, ints_list, List.length_map, tl] at hp
 have h5 := scanI_in (x := (d 5).ints) (o := (d 1).toInt) (l := (d 2).toInt) (p := 0) (by omega) (by omega) (by omega) (by omega)
 refine ⟨tellA scVR_t0, _, _, _, tellA_ok (allTold'_iff.1 ?_), scVR_y0, dutiesTold_ok ?_⟩
 ·simp only [scVR_t0, F65, F68, F16, ints_list, List.length_map, tl]
  first | omega | (and_intros <;> first | omega | exact True.intro | rfl | exact hp.2.2.1)
 ·simp only [scVR_d0, F65, F66, F67, F79, ints_list, List.length_map, tl]
  first | done | omega | (and_intros <;> first | omega | exact True.intro | rfl)

end Go.Proofs.YtidjfojcifjdjaaDoor.Pc4
