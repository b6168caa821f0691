/-
 Contracts of this seat: what loops and calls leave, for all inputs. No condition.
-/
import Derived.Test.YtidpndnehbhloaaDoorSycp
import Derived.Test.YtidpndnehbhloaaDoorSyfm
import Derived.Test.YtidpndnehbhloaaDoorCo
import Derived.Test.YtidpndnehbhloaaDoorP0
import Derived.Test.YtidpndnehbhloaaDoorPa
import Derived.Test.YtidpndnehbhloaaDoorPm
import Derived.Test.YtidpndnehbhloaaDoorPl
import Derived.Test.YtidpndnehbhloaaDoorPu
import Derived.Test.YtidpndnehbhloaaDoorPq
import Derived.Test.YtidpndnehbhloaaDoorPgo
import Derived.Test.YtidpndnehbhloaaDoorPb
import Derived.Test.YtidpndnehbhloaaDoorPbo
set_option linter.unusedSimpArgs false
set_option linter.unusedVariables false
namespace Go.Proofs.YtidpndnehbhloaaDoor.Pso
open Go.RowKit Go.Ev Go.Proofs.YtidpndnehbhloaaDoor.Co

open Go.Proofs.YtidpndnehbhloaaDoor.P0
open Go.Proofs.YtidpndnehbhloaaDoor.Pa
open Go.Proofs.YtidpndnehbhloaaDoor.Pm
open Go.Proofs.YtidpndnehbhloaaDoor.Pl
open Go.Proofs.YtidpndnehbhloaaDoor.Pn
open Go.Proofs.YtidpndnehbhloaaDoor.Pu
open Go.Proofs.YtidpndnehbhloaaDoor.Puo
open Go.Proofs.YtidpndnehbhloaaDoor.Pq
open Go.Proofs.YtidpndnehbhloaaDoor.Pqo
open Go.Proofs.YtidpndnehbhloaaDoor.Pgo
open Go.Proofs.YtidpndnehbhloaaDoor.Pb
open Go.Proofs.YtidpndnehbhloaaDoor.Pbo
open Go.Proofs.YtidpndnehbhloaaDoor.Ps4

abbrev txPso0 : E := (.un .code (.fn 16 (argsE [.int 56, .var 8])))
abbrev txPso1 : E := (.bi .add (.var 4) (.bi .add (.var 0) (.int 6)))
abbrev txPso2 : E := (.fn 68 (argsE [.var 8, .var 4, .var 5, .var 0]))
abbrev txPso3 : E := (.fn 65 (argsE [.var 8, .var 4, .var 5, .var 0]))
abbrev txPso4 : E := (.fn 66 (argsE [.var 8, .var 4, .var 5, .var 0]))
abbrev txPso5 : E := (.fn 67 (argsE [.var 8, .var 4, .var 5, .var 0]))
abbrev txPso6 : E := (.fn 79 (argsE [.var 8, .var 4, .var 5, .var 0]))
abbrev txPso7 : E := (.bi .pair (.var 5) (.bi .pair (.var 0) (.int 0)))
abbrev txPso8 : E := (.bi .pair (.var 8) (.bi .pair (.var 4) txPso7))
abbrev zPso35 : E := (.un .len (.fn 65 txPso8))
abbrev txPso9 : E := (.bi .add (.var 9) zPso35)
abbrev txPso10 : E := (.un .code (.bi .app (.var 10) (.fn 65 txPso8)))
abbrev txPso11 : E := (.tr .cut (.var 8) txPso1 (.bi .add txPso1 (.int 16)))
abbrev zPso34 : E := (.bi .add (.fn 63 txPso8) (.int 26))
abbrev txPso12 : E := (.bi .add (.var 0) zPso34)
abbrev zPso19 : E := (.bi .add (.fn 63 txPso8) (.int 20))
abbrev txPso13 : E := (.bi .pair zPso19 (.int 0))
abbrev txPso14 : E := (.bi .snoc (.lits []) (.bi .sel txPso11 (.int 0)))
abbrev txPso15 : E := (.bi .pair (.var 5) (.bi .pair txPso12 (.int 0)))
abbrev txPso16 : E := (.bi .pair (.var 8) (.bi .pair txPso1 txPso13))
abbrev txPso17 : E := (.bi .pair (.var 8) (.bi .pair (.var 4) txPso15))
abbrev zPso33 : E := (.un .len (.fn 65 txPso17))
abbrev txPso18 : E := (.bi .add (.int 1) zPso33)
abbrev txPso19 : E := (.bi .add (.var 9) zPso33)
abbrev txPso20 : E := (.un .code (.bi .app (.var 10) (.fn 65 txPso17)))
abbrev zPso5 : E := (.bi .add (.var 2) (.int 1))
abbrev txPso21 : E := (.bi .add zPso5 (.fn 67 txPso17))
abbrev zPso25 : E := (.bi .add (.var 9) (.int 1))
abbrev txPso22 : E := (.bi .add zPso25 zPso33)
abbrev txPso23 : E := (.bi .snoc txPso14 (.bi .sel txPso11 (.int 1)))
abbrev txPso24 : E := (.bi .snoc txPso23 (.bi .sel txPso11 (.int 2)))
abbrev txPso25 : E := (.bi .snoc txPso24 (.bi .sel txPso11 (.int 3)))
abbrev txPso26 : E := (.bi .snoc txPso25 (.bi .sel txPso11 (.int 4)))
abbrev txPso27 : E := (.bi .snoc txPso26 (.bi .sel txPso11 (.int 5)))
abbrev txPso28 : E := (.bi .snoc txPso27 (.bi .sel txPso11 (.int 6)))
abbrev txPso29 : E := (.bi .snoc txPso28 (.bi .sel txPso11 (.int 7)))
abbrev txPso30 : E := (.bi .snoc txPso29 (.bi .sel txPso11 (.int 8)))
abbrev txPso31 : E := (.bi .snoc txPso30 (.bi .sel txPso11 (.int 9)))
abbrev txPso32 : E := (.bi .snoc txPso31 (.bi .sel txPso11 (.int 10)))
abbrev txPso33 : E := (.bi .snoc txPso32 (.bi .sel txPso11 (.int 11)))
abbrev txPso34 : E := (.bi .snoc txPso33 (.bi .sel txPso11 (.int 12)))
abbrev txPso35 : E := (.bi .snoc txPso34 (.bi .sel txPso11 (.int 13)))
abbrev txPso36 : E := (.bi .snoc txPso35 (.bi .sel txPso11 (.int 14)))
abbrev txPso37 : E := (.bi .snoc txPso36 (.bi .sel txPso11 (.int 15)))
abbrev txPso38 : E := (.bi .snoc (.bi .snoc (.lits []) txPso37) (.var 0))
abbrev txPso39 : E := (.bi .snoc (.var 10) (.bi .snoc txPso38 (.fn 63 txPso8)))
abbrev txPso40 : E := (.bi .snoc (.lits []) (.bi .snoc txPso38 (.fn 63 txPso8)))
abbrev txPso41 : E := (.un .code (.bi .app txPso39 (.fn 65 txPso17)))
abbrev txPso42 : E := (.un .code (.bi .app txPso40 (.fn 65 txPso17)))
noncomputable abbrev zPso0 : Nat × RW := (5, .loop 0 [(6, .ptr 9 0), (7, .ptr 11 0), (8, .ptr 13 0), (9, .ptr 15 0)] 47 (rangeAt Tryd.prog 19 [4, 1, 0, 1, 1, 1, 8, 1]))
abbrev zPso1 : Nat × RW := (7, .cells 24 0 false false [.sslice 17 (.var 4) (.var 5) (.var 6) true])
abbrev zPso2 : E := (.bi .add (.var 2) (.fn 67 txPso8))
abbrev zPso3 : Duty := (true, (.fn 66 txPso17), (.fn 66 txPso8))
abbrev zPso4 : Nat × RW := (13, .cells 3 0 false false [.sint .i64 (.bi .add (.var 2) txPso5)])
abbrev zPso6 : Duty := (true, zPso33, zPso35)
abbrev zPso7 : Nat × RW := (15, .cells 3 0 false false [.int .i64 0])
abbrev zPso8 : Nat × RW := (19, .vseq ⟨36, .agg [.agg [.int .u8, .int .u8, .int .u8, .int .u8, .int .u8, .int .u8, .int .u8, .int .u8, .int .u8, .int .u8, .int .u8, .int .u8, .int .u8, .int .u8, .int .u8, .int .u8], .int .i64, .int .i64], .un .len txPso3, .fn 65 (argsE [.var 8, .var 4, .var 5, .var 0]), true⟩)
abbrev zPso9 : Nat × RW := (19, .vseq ⟨36, .agg [.agg [.int .u8, .int .u8, .int .u8, .int .u8, .int .u8, .int .u8, .int .u8, .int .u8, .int .u8, .int .u8, .int .u8, .int .u8, .int .u8, .int .u8, .int .u8, .int .u8], .int .i64, .int .i64], .bi .add (.var 9) (.un .len txPso3), .bi .app (.var 10) txPso3, true⟩)
noncomputable abbrev zPso10 : Nat × RW := (5, .loop 2 [(6, .ptr 9 0), (7, .ptr 11 0), (8, .ptr 13 0), (9, .ptr 15 0)] 47 (rangeAt Tryd.prog 19 [4, 1, 0, 1, 1, 1, 8, 1]))
abbrev zPso11 : Nat × RW := (19, .vseq ⟨36, .agg [.agg [.int .u8, .int .u8, .int .u8, .int .u8, .int .u8, .int .u8, .int .u8, .int .u8, .int .u8, .int .u8, .int .u8, .int .u8, .int .u8, .int .u8, .int .u8, .int .u8], .int .i64, .int .i64], .var 9, .var 10, true⟩)
abbrev zPso12 : Nat × RW := (11, .cells 3 0 false false [.sint .i64 (.var 3)])
abbrev zPso13 : Nat × RW := (13, .cells 3 0 false false [.sint .i64 (.var 2)])
abbrev zPso14 : Nat × RW := (11, .cells 3 0 false false [.sint .i64 txPso4])
abbrev zPso15 : Duty := (true, (.var 3), (.fn 66 txPso8))
abbrev zPso16 : Duty := (true, txPso18, zPso35)
abbrev zPso17 : E := (.un .code (.bi .add (.var 0) (.int 0)))
abbrev zPso18 : Nat × RW := (9, .cells 26 0 false false [.nilslice])
abbrev zPso20 : Duty := (true, (.fn 79 txPso17), (.fn 79 txPso8))
abbrev zPso21 : E := (.bi .add (.var 4) (.var 5))
abbrev zPso22 : Duty := (true, (.bi .add (.var 2) (.fn 67 txPso17)), zPso2)
abbrev zPso23 : Nat × RW := (17, .eseq ⟨.u8, .var 7, .var 8⟩)
abbrev zPso24 : Nat × RW := (9, .cells 26 0 false false [.vslice 19 18 (.int 0) (.bi .add (.var 9) (.un .len txPso3)) (.bi .add (.var 9) (.un .len txPso3)) true])
abbrev zPso26 : Duty := (false, (.un .code (.var 10)), txPso10)
abbrev zPso27 : Nat × RW := (9, .cells 26 0 false false [.vslice 19 18 (.int 0) (.un .len txPso3) (.un .len txPso3) true])
abbrev zPso28 : Duty := (true, (.int 1), (.fn 79 txPso8))
abbrev zPso29 : Nat × RW := (15, .cells 3 0 false false [.sint .i64 txPso6])
abbrev zPso30 : E := (.bi .sub (.var 5) (.var 0))
abbrev zPso31 : Nat × RW := (9, .cells 26 0 false false [.vslice 19 18 (.int 0) (.var 9) (.var 9) true])
abbrev zPso32 : E := (.un .code (.fn 65 txPso8))
abbrev asPso0 : Q × Bool := ((.fit .i64 (.var 5)), true)
abbrev asPso1 : Q × Bool := ((.le (.var 5) (.var 0)), false)
abbrev asPso2 : Q × Bool := ((.le zPso21 (.var 7)), true)
abbrev asPso3 : Q × Bool := ((.le (.int 0) (.var 0)), true)
abbrev asPso4 : Q × Bool := ((.le (.var 0) (.var 5)), true)
abbrev asPso5 : Q × Bool := ((.le (.var 5) (.int 1000000)), true)
abbrev asPso6 : Q × Bool := ((.le (.int 6) zPso30), true)
abbrev asPso7 : Q × Bool := ((.eq (.fn 63 txPso8) (.int 0)), false)
abbrev asPso8 : Q × Bool := ((.le zPso34 zPso30), true)
abbrev asPso9 : Q × Bool := ((.le (.bi .add txPso1 zPso19) (.var 7)), true)
abbrev asPso10 : Q × Bool := ((.le (.int 0) txPso1), true)
abbrev asPso11 : Q × Bool := ((.le (.int 0) zPso19), true)
abbrev asPso12 : Q × Bool := ((.le zPso19 (.bi .sub (.var 6) (.bi .add (.var 0) (.int 6)))), true)
abbrev asPso13 : Q × Bool := ((.le (.int 21) zPso19), true)
abbrev asPso14 : Q × Bool := ((.le zPso19 (.int 100000)), true)
abbrev asPso15 : Q × Bool := ((.eq (.fn 64 txPso16) (.int 1)), false)
abbrev asPso16 : Q × Bool := ((.fit .i64 zPso5), true)
noncomputable abbrev ltPso0 : List (FuncId × CSpec) := [(21, recTO), (21, recBO), (21, recSO), (21, recYO), (22, chunkYO), (22, chunkNO)]
abbrev asPso18 : Q × Bool := ((.eq (.fn 64 txPso16) (.int 1)), true)
abbrev asPso19 : Q × Bool := ((.le (.bi .mul zPso25 (.int 64)) (.int 281474976710656)), true)
noncomputable def sNRo0 : LSpec := { n := 18, next := 10, pat := [(0, .yieldf 5), (1, .ptr 7 0), (3, .sint .i64 (.var 0))], rows := [zPso0, zPso1, zPso18, zPso12, zPso13, zPso7, zPso23, (0, .ext cellsG)], pre := [(.le (.int 0) (.var 0), true), (.le (.var 0) (.var 5), true), (.le (.int 0) (.var 4), true), (.le zPso21 (.var 7), true), (.le (.var 5) (.var 6), true), (.le (.var 5) (.int 20000), true), (.eq (.var 3) (.var 0), true), (.le (.int 0) (.var 2), true), (.le (.var 2) (.var 0), true), (.same (.un .code (.var 0)) zPso17, true), (.same (.un .code (.var 8)) txPso0, true), (.eq txPso2 (.int 0), false), (.le (.int 1) (.un .len txPso3), false)], x := 999999, fin := [], frows := [zPso10, zPso1, zPso18, zPso14, zPso4, zPso29], same := [5, 7, 9, 11, 13, 15, 17], chg := [0, 1, 3, 4, 5, 6, 7, 8, 9, 10, 11, 12, 13, 14, 15, 16, 17] }
noncomputable def sNRo : Nat → LSpec
 | _ => sNRo0
def sNRo0_t0 : List (Q × Bool) := [asPso0, asPso1, asPso2, asPso3, asPso4, asPso5, asPso6, asPso7, asPso8, asPso9, asPso10, asPso11, asPso12, asPso13, asPso14, asPso15, asPso16]
def sNRo0_d0 : List Duty := [zPso3, (true, txPso21, zPso2), zPso20]
def sNRo0_h0 : List (Nat × E) := [(7, (.var 7)), (8, (.var 8)), (2, zPso5), (3, txPso12), (4, (.var 4)), (5, (.var 5)), (6, (.var 6)), (0, txPso12)]
theorem sNRo0_h0_a : lookE sNRo0_h0 0 = txPso12 ∧ lookE sNRo0_h0 2 = zPso5 ∧ lookE sNRo0_h0 3 = txPso12 ∧ lookE sNRo0_h0 4 = (.var 4) ∧ lookE sNRo0_h0 5 = (.var 5) ∧ lookE sNRo0_h0 6 = (.var 6) ∧ lookE sNRo0_h0 7 = (.var 7) ∧ lookE sNRo0_h0 8 = (.var 8) := ⟨rfl, rfl, rfl, rfl, rfl, rfl, rfl, rfl⟩
theorem sNRo0_y0 : nextJ (sNRo 0) (sNRo 0) sNRo0_h0 [(17, 17), (15, 15), (13, 13), (11, 11), (9, 9), (7, 7), (5, 5)] (roundC Tryd.prog [] ltPso0 [] 3000 40 35 [4, 1] (tellA sNRo0_t0) (sNRo 0)) = some sNRo0_d0 := by kernel_rfl
abbrev asPso20 : Q × Bool := ((.le (.int 6) zPso30), false)
def sNRo0_t1 : List (Q × Bool) := [asPso0, asPso1, asPso2, asPso3, asPso4, asPso5, asPso20]
def sNRo0_d1 : List Duty := [zPso15, (true, (.var 2), zPso2), zPso28]
theorem sNRo0_y1 : endD (sNRo 0) [(5, 5), (7, 7), (9, 9), (11, 11), (13, 13), (15, 15), (17, 17)] 1000 (roundC Tryd.prog [] ltPso0 [] 3000 40 35 [4, 1] (tellA sNRo0_t1) (sNRo 0)) = some sNRo0_d1 := by kernel_rfl
abbrev asPso21 : Q × Bool := ((.eq (.fn 63 txPso8) (.int 0)), true)
def sNRo0_t2 : List (Q × Bool) := [asPso0, asPso1, asPso2, asPso3, asPso4, asPso5, asPso6, asPso21]
def sNRo0_d2 : List Duty := [zPso15, (true, (.var 2), zPso2), (true, (.int 2), (.fn 79 txPso8))]
theorem sNRo0_y2 : endD (sNRo 0) [(5, 5), (7, 7), (9, 9), (11, 11), (13, 13), (15, 15), (17, 17)] 1000 (roundC Tryd.prog [] ltPso0 [] 3000 40 35 [4, 1] (tellA sNRo0_t2) (sNRo 0)) = some sNRo0_d2 := by kernel_rfl
abbrev asPso22 : Q × Bool := ((.le zPso34 zPso30), false)
def sNRo0_t3 : List (Q × Bool) := [asPso0, asPso1, asPso2, asPso3, asPso4, asPso5, asPso6, asPso7, asPso22]
def sNRo0_d3 : List Duty := [zPso15, (true, (.var 2), zPso2), zPso28]
theorem sNRo0_y3 : endD (sNRo 0) [(5, 5), (7, 7), (9, 9), (11, 11), (13, 13), (15, 15), (17, 17)] 1000 (roundC Tryd.prog [] ltPso0 [] 3000 40 35 [4, 1] (tellA sNRo0_t3) (sNRo 0)) = some sNRo0_d3 := by kernel_rfl
set_option maxHeartbeats 16000000 in
theorem sNRo_holds : ∀ i, i < 1 → LHolds Tryd.prog (loopAt Tryd.prog 35 [4, 1]) (sNRo i) F := by
 refine loop_famC sound (tableNil _ _) (specsCons recTO_holds (specsCons recBO_holds (specsCons recSO_holds (specsCons recYO_holds (specsCons chunkYO_holds (specsCons chunkNO_holds (specsNil _ _))))))) (oversNil _ _) (fuel := 3000) (depth := 40) (by kernel_rfl) (fun i d => match i with | _ => ((d 5).toInt - (d 0).toInt).toNat) ?_
 intro i hi d hp hR hA
 match i, hi with
 | 0, _ =>
   have hp := allTold'_iff.2 hp
   simp only [sNRo, sNRo0, tl] at hp hR hA
   simp only [argsE, F65, F68, F16, ints_list, List.length_map, tl] at hp
   obtain ⟨p1, p2, p3, p4, p5, p6, p7, p8, p9, q0, q8, pw, pn⟩ := hp
   simp only [true_and, and_true] at hR
   obtain ⟨hl, hx⟩ := hR
   have hs := scan_at (x := (d 8).ints) (o := (d 4).toInt) (l := (d 5).toInt) (p := (d 0).toInt) (by omega) (by omega) (by omega) rfl (by omega)
   have hq := size_in (prt (d 8).ints ((d 4).toInt + (d 0).toInt) ((d 4).toInt + (d 5).toInt))
   generalize hN : sizeI (prt (d 8).ints ((d 4).toInt + (d 0).toInt) ((d 4).toInt + (d 5).toInt)) = n at hs hq
   have hX := canon16 q8
   have h0 : d 0 = D.int (d 0).toInt := by
    have := canon0 q0
    rwa [Int.add_zero] at this
   have hy := prt_length (x := (d 8).ints) (o := (d 4).toInt + ((d 0).toInt + 6)) (t := (d 4).toInt + ((d 0).toInt + 6) + 16)
   by_cases c0 : (d 5).toInt ≤ (d 0).toInt
   ·rw [if_pos c0] at hs
    exfalso
    rw [hs] at pw pn
    first | omega | (simp at pw; done) | (simp only [List.length_nil, List.length_cons] at pn; omega)
   ·rw [if_neg c0] at hs
    by_cases c1 : (d 5).toInt - (d 0).toInt < 6
    ·rw [if_pos c1] at hs
     refine ⟨tellA sNRo0_t1, tellA_ok (allTold'_iff.1 ?_), .inl ⟨_, _, _, sNRo0_y1, dutiesTold_ok ?_⟩⟩
     ·simp only [sNRo0_t1, F63, hN, tl]
      first | omega | (simp only [and_true, true_and]; omega) | (refine ⟨by omega, by omega, by omega, by omega, by omega, by omega, (by first | exact True.intro | omega), by omega, by omega, (by first | exact True.intro | rfl | exact q8 | (rw [Int.add_zero])), (by exact q8), ?_⟩; first | omega | (and_intros <;> omega))
     ·simp only [sNRo0_d1, F65, F66, F67, F79, hs, ints_list, List.length_map, List.length_nil, tl]
      first | done | (and_intros <;> first | exact True.intro | rfl | omega | (rw [List.append_nil, list_toList (by rw [len_toL]; omega)]))
    ·rw [if_neg c1] at hs
     by_cases c2 : n = 0
     ·rw [if_pos c2] at hs
      refine ⟨tellA sNRo0_t2, tellA_ok (allTold'_iff.1 ?_), .inl ⟨_, _, _, sNRo0_y2, dutiesTold_ok ?_⟩⟩
      ·simp only [sNRo0_t2, F63, hN, tl]
       first | omega | (simp only [and_true, true_and]; omega) | (refine ⟨by omega, by omega, by omega, by omega, by omega, by omega, (by first | exact True.intro | omega), by omega, by omega, (by first | exact True.intro | rfl | exact q8 | (rw [Int.add_zero])), (by exact q8), ?_⟩; first | omega | (and_intros <;> omega))
      ·simp only [sNRo0_d2, F65, F66, F67, F79, hs, ints_list, List.length_map, List.length_nil, tl]
       first | done | (and_intros <;> first | exact True.intro | rfl | omega | (rw [List.append_nil, list_toList (by rw [len_toL]; omega)]))
     ·rw [if_neg c2] at hs
      by_cases c3 : (d 5).toInt - (d 0).toInt < n + 26
      ·rw [if_pos c3] at hs
       refine ⟨tellA sNRo0_t3, tellA_ok (allTold'_iff.1 ?_), .inl ⟨_, _, _, sNRo0_y3, dutiesTold_ok ?_⟩⟩
       ·simp only [sNRo0_t3, F63, hN, tl]
        first | omega | (simp only [and_true, true_and]; omega) | (refine ⟨by omega, by omega, by omega, by omega, by omega, by omega, (by first | exact True.intro | omega), by omega, by omega, (by first | exact True.intro | rfl | exact q8 | (rw [Int.add_zero])), (by exact q8), ?_⟩; first | omega | (and_intros <;> omega))
       ·simp only [sNRo0_d3, F65, F66, F67, F79, hs, ints_list, List.length_map, List.length_nil, tl]
        first | done | (and_intros <;> first | exact True.intro | rfl | omega | (rw [List.append_nil, list_toList (by rw [len_toL]; omega)]))
      ·rw [if_neg c3] at hs
       have hj := scanI_in (x := (d 8).ints) (o := (d 4).toInt) (l := (d 5).toInt) (p := (d 0).toInt + (n + 26)) (by omega) (by omega) (by omega) (by omega)
       by_cases g : bodyI (prt (d 8).ints ((d 4).toInt + ((d 0).toInt + 6)) ((d 4).toInt + ((d 0).toInt + 6) + (n + 20))) = 1
       ·rw [if_pos g] at hs
        exfalso
        rw [hs] at pw pn
        first | omega | (simp at pw; done) | (simp only [List.length_nil, List.length_cons] at pn; omega)
       ·rw [if_neg g] at hs
        rw [hs] at pw pn
        dsimp only at pw pn
        try rw [List.length_cons] at pn
        refine ⟨tellA sNRo0_t0, tellA_ok (allTold'_iff.1 ?_), .inr ⟨0, sNRo0_h0, _, _, by decide, sNRo0_y0, dutiesTold_ok ?_, allTold'_iff.1 ?_, ?_⟩⟩
        ·simp only [sNRo0_t0, F63, F64, hN, tl]
         first | omega | (simp only [and_true, true_and]; omega) | (refine ⟨by omega, by omega, by omega, by omega, by omega, by omega, (by first | exact True.intro | omega), by omega, by omega, (by first | exact True.intro | rfl | exact q8 | (rw [Int.add_zero])), (by exact q8), ?_⟩; first | omega | (and_intros <;> omega))
        ·simp only [sNRo0_d0, F65, F66, F67, F79, F63, hN, hs, ints_list, List.length_map, List.length_cons, tl]
         first | done | (and_intros <;> first | exact True.intro | rfl | omega | (refine congrArg D.code ?_; simp only [cut_getD hX, Int.reduceToNat, ofInts16 (l := prt (d 8).ints ((d 4).toInt + ((d 0).toInt + 6)) ((d 4).toInt + ((d 0).toInt + 6) + 16)) (by omega), show (D.ofInts []).toList = [] from rfl, List.nil_append, List.cons_append, List.append_assoc, D.toList_list, ← h0]; first | done | rfl))
        ·simp only [sNRo, sNRo0, sNRo0_h0_a, argsE, F65, F68, F16, F63, hN, ints_list, List.length_map, tl]
         first | omega | (simp only [and_true, true_and]; omega) | (refine ⟨by omega, by omega, by omega, by omega, by omega, by omega, (by first | exact True.intro | omega), by omega, by omega, (by first | exact True.intro | rfl | exact q8 | (rw [Int.add_zero])), (by exact q8), ?_⟩; first | omega | (and_intros <;> omega))
        ·simp only [sNRo0_h0_a, F63, hN, tl]
         omega
theorem sNRo0_holds : LHolds Tryd.prog (loopAt Tryd.prog 35 [4, 1]) sNRo0 F := sNRo_holds 0 (by decide)

noncomputable def sVRo0 : LSpec := { n := 18, next := 10, pat := [(0, .yieldf 5), (1, .ptr 7 0), (3, .sint .i64 (.var 0))], rows := [zPso0, zPso1, zPso18, zPso12, zPso13, zPso7, zPso23, (0, .ext cellsG)], pre := [(.le (.int 0) (.var 0), true), (.le (.var 0) (.var 5), true), (.le (.int 0) (.var 4), true), (.le zPso21 (.var 7), true), (.le (.var 5) (.var 6), true), (.le (.var 5) (.int 20000), true), (.eq (.var 3) (.var 0), true), (.le (.int 0) (.var 2), true), (.le (.var 2) (.var 0), true), (.same (.un .code (.var 0)) zPso17, true), (.same (.un .code (.var 8)) txPso0, true), (.eq txPso2 (.int 0), false), (.le (.int 1) (.un .len txPso3), true)], x := 999999, fin := [], frows := [zPso10, zPso1, zPso27, zPso14, zPso4, zPso29, zPso8], same := [5, 7, 9, 11, 13, 15, 17], chg := [0, 1, 3, 4, 5, 6, 7, 8, 9, 10, 11, 12, 13, 14, 15, 16, 17] }
noncomputable def sVRo1 : LSpec := { n := 18, next := 10, pat := [(0, .yieldf 5), (1, .ptr 7 0), (3, .sint .i64 (.var 0))], rows := [zPso0, zPso1, zPso31, zPso12, zPso13, zPso7, zPso23, zPso11, (0, .ext cellsG)], pre := [(.le (.int 0) (.var 0), true), (.le (.var 0) (.var 5), true), (.le (.int 0) (.var 4), true), (.le zPso21 (.var 7), true), (.le (.var 5) (.var 6), true), (.le (.var 5) (.int 20000), true), (.eq (.var 3) (.var 0), true), (.le (.int 0) (.var 2), true), (.le (.var 2) (.var 0), true), (.same (.un .code (.var 0)) zPso17, true), (.same (.un .code (.var 8)) txPso0, true), (.le (.int 1) (.var 9), true), (.le (.var 9) (.var 0), true), (.eq txPso2 (.int 0), false)], x := 999999, fin := [], frows := [zPso10, zPso1, zPso24, zPso14, zPso4, zPso29, zPso9], same := [5, 7, 9, 11, 13, 15, 17], chg := [0, 1, 3, 4, 5, 6, 7, 8, 9, 10, 11, 12, 13, 14, 15, 16, 17] }
noncomputable def sVRo : Nat → LSpec
 | 0 => sVRo0
 | _ => sVRo1
def sVRo0_t0 : List (Q × Bool) := [asPso0, asPso1, asPso2, asPso3, asPso4, asPso5, asPso6, asPso7, asPso8, asPso9, asPso10, asPso11, asPso12, asPso13, asPso14, asPso18]
def sVRo0_d0 : List Duty := [zPso16, zPso16, zPso3, zPso22, zPso20, zPso16, (false, txPso42, zPso32)]
def sVRo0_h0 : List (Nat × E) := [(10, txPso40), (7, (.var 7)), (8, (.var 8)), (2, (.var 2)), (3, txPso12), (9, (.int 1)), (4, (.var 4)), (5, (.var 5)), (6, (.var 6)), (0, txPso12)]
theorem sVRo0_h0_a : lookE sVRo0_h0 0 = txPso12 ∧ lookE sVRo0_h0 2 = (.var 2) ∧ lookE sVRo0_h0 3 = txPso12 ∧ lookE sVRo0_h0 4 = (.var 4) ∧ lookE sVRo0_h0 5 = (.var 5) ∧ lookE sVRo0_h0 6 = (.var 6) ∧ lookE sVRo0_h0 7 = (.var 7) ∧ lookE sVRo0_h0 8 = (.var 8) ∧ lookE sVRo0_h0 9 = (.int 1) ∧ lookE sVRo0_h0 10 = txPso40 := ⟨rfl, rfl, rfl, rfl, rfl, rfl, rfl, rfl, rfl, rfl⟩
theorem sVRo0_y0 : nextJ (sVRo 0) (sVRo 1) sVRo0_h0 [(19, 31), (17, 17), (15, 15), (13, 13), (11, 11), (9, 9), (7, 7), (5, 5)] (roundC Tryd.prog [] ltPso0 [] 3000 40 35 [4, 1] (tellA sVRo0_t0) (sVRo 0)) = some sVRo0_d0 := by kernel_rfl
def sVRo0_t1 : List (Q × Bool) := [asPso0, asPso1, asPso2, asPso3, asPso4, asPso5, asPso6, asPso7, asPso8, asPso9, asPso10, asPso11, asPso12, asPso13, asPso14, asPso15, asPso16]
def sVRo0_d1 : List Duty := [zPso6, zPso6, zPso3, (true, txPso21, zPso2), zPso20, zPso6, (false, (.un .code (.fn 65 txPso17)), zPso32)]
def sVRo0_h1 : List (Nat × E) := [(7, (.var 7)), (8, (.var 8)), (2, zPso5), (3, txPso12), (4, (.var 4)), (5, (.var 5)), (6, (.var 6)), (0, txPso12)]
theorem sVRo0_h1_a : lookE sVRo0_h1 0 = txPso12 ∧ lookE sVRo0_h1 2 = zPso5 ∧ lookE sVRo0_h1 3 = txPso12 ∧ lookE sVRo0_h1 4 = (.var 4) ∧ lookE sVRo0_h1 5 = (.var 5) ∧ lookE sVRo0_h1 6 = (.var 6) ∧ lookE sVRo0_h1 7 = (.var 7) ∧ lookE sVRo0_h1 8 = (.var 8) := ⟨rfl, rfl, rfl, rfl, rfl, rfl, rfl, rfl⟩
theorem sVRo0_y1 : nextJ (sVRo 0) (sVRo 0) sVRo0_h1 [(17, 17), (15, 15), (13, 13), (11, 11), (9, 9), (7, 7), (5, 5)] (roundC Tryd.prog [] ltPso0 [] 3000 40 35 [4, 1] (tellA sVRo0_t1) (sVRo 0)) = some sVRo0_d1 := by kernel_rfl
def sVRo1_t0 : List (Q × Bool) := [asPso0, asPso1, asPso2, asPso3, asPso4, asPso5, asPso6, asPso7, asPso8, asPso9, asPso10, asPso11, asPso12, asPso13, asPso14, asPso18, asPso19]
def sVRo1_d0 : List Duty := [(true, txPso22, txPso9), (true, txPso22, txPso9), zPso3, zPso22, zPso20, (true, txPso22, txPso9), (false, txPso41, txPso10)]
def sVRo1_h0 : List (Nat × E) := [(10, txPso39), (7, (.var 7)), (8, (.var 8)), (2, (.var 2)), (3, txPso12), (9, zPso25), (4, (.var 4)), (5, (.var 5)), (6, (.var 6)), (0, txPso12)]
theorem sVRo1_h0_a : lookE sVRo1_h0 0 = txPso12 ∧ lookE sVRo1_h0 2 = (.var 2) ∧ lookE sVRo1_h0 3 = txPso12 ∧ lookE sVRo1_h0 4 = (.var 4) ∧ lookE sVRo1_h0 5 = (.var 5) ∧ lookE sVRo1_h0 6 = (.var 6) ∧ lookE sVRo1_h0 7 = (.var 7) ∧ lookE sVRo1_h0 8 = (.var 8) ∧ lookE sVRo1_h0 9 = zPso25 ∧ lookE sVRo1_h0 10 = txPso39 := ⟨rfl, rfl, rfl, rfl, rfl, rfl, rfl, rfl, rfl, rfl⟩
theorem sVRo1_y0 : nextJ (sVRo 1) (sVRo 1) sVRo1_h0 [(19, 31), (17, 17), (15, 15), (13, 13), (11, 11), (9, 9), (7, 7), (5, 5)] (roundC Tryd.prog [] ltPso0 [] 3000 40 35 [4, 1] (tellA sVRo1_t0) (sVRo 1)) = some sVRo1_d0 := by kernel_rfl
def sVRo1_t1 : List (Q × Bool) := [asPso0, asPso1, asPso2, asPso3, asPso4, asPso5, asPso6, asPso7, asPso8, asPso9, asPso10, asPso11, asPso12, asPso13, asPso14, asPso15, asPso16]
def sVRo1_d1 : List Duty := [(true, txPso19, txPso9), (true, txPso19, txPso9), zPso3, (true, txPso21, zPso2), zPso20, (true, txPso19, txPso9), (false, txPso20, txPso10)]
def sVRo1_h1 : List (Nat × E) := [(10, (.var 10)), (7, (.var 7)), (8, (.var 8)), (2, zPso5), (3, txPso12), (9, (.var 9)), (4, (.var 4)), (5, (.var 5)), (6, (.var 6)), (0, txPso12)]
theorem sVRo1_h1_a : lookE sVRo1_h1 0 = txPso12 ∧ lookE sVRo1_h1 2 = zPso5 ∧ lookE sVRo1_h1 3 = txPso12 ∧ lookE sVRo1_h1 4 = (.var 4) ∧ lookE sVRo1_h1 5 = (.var 5) ∧ lookE sVRo1_h1 6 = (.var 6) ∧ lookE sVRo1_h1 7 = (.var 7) ∧ lookE sVRo1_h1 8 = (.var 8) ∧ lookE sVRo1_h1 9 = (.var 9) ∧ lookE sVRo1_h1 10 = (.var 10) := ⟨rfl, rfl, rfl, rfl, rfl, rfl, rfl, rfl, rfl, rfl⟩
theorem sVRo1_y1 : nextJ (sVRo 1) (sVRo 1) sVRo1_h1 [(19, 19), (17, 17), (15, 15), (13, 13), (11, 11), (9, 9), (7, 7), (5, 5)] (roundC Tryd.prog [] ltPso0 [] 3000 40 35 [4, 1] (tellA sVRo1_t1) (sVRo 1)) = some sVRo1_d1 := by kernel_rfl
def sVRo1_t2 : List (Q × Bool) := [asPso0, asPso1, asPso2, asPso3, asPso4, asPso5, asPso20]
def sVRo1_d2 : List Duty := [(true, (.var 9), txPso9), (true, (.var 9), txPso9), zPso15, (true, (.var 2), zPso2), zPso28, (true, (.var 9), txPso9), zPso26]
theorem sVRo1_y2 : endD (sVRo 1) [(19, 19), (5, 5), (7, 7), (9, 9), (11, 11), (13, 13), (15, 15), (17, 17)] 1000 (roundC Tryd.prog [] ltPso0 [] 3000 40 35 [4, 1] (tellA sVRo1_t2) (sVRo 1)) = some sVRo1_d2 := by kernel_rfl
def sVRo1_t3 : List (Q × Bool) := [asPso0, asPso1, asPso2, asPso3, asPso4, asPso5, asPso6, asPso21]
def sVRo1_d3 : List Duty := [(true, (.var 9), txPso9), (true, (.var 9), txPso9), zPso15, (true, (.var 2), zPso2), (true, (.int 2), (.fn 79 txPso8)), (true, (.var 9), txPso9), zPso26]
theorem sVRo1_y3 : endD (sVRo 1) [(19, 19), (5, 5), (7, 7), (9, 9), (11, 11), (13, 13), (15, 15), (17, 17)] 1000 (roundC Tryd.prog [] ltPso0 [] 3000 40 35 [4, 1] (tellA sVRo1_t3) (sVRo 1)) = some sVRo1_d3 := by kernel_rfl
def sVRo1_t4 : List (Q × Bool) := [asPso0, asPso1, asPso2, asPso3, asPso4, asPso5, asPso6, asPso7, asPso22]
def sVRo1_d4 : List Duty := [(true, (.var 9), txPso9), (true, (.var 9), txPso9), zPso15, (true, (.var 2), zPso2), zPso28, (true, (.var 9), txPso9), zPso26]
theorem sVRo1_y4 : endD (sVRo 1) [(19, 19), (5, 5), (7, 7), (9, 9), (11, 11), (13, 13), (15, 15), (17, 17)] 1000 (roundC Tryd.prog [] ltPso0 [] 3000 40 35 [4, 1] (tellA sVRo1_t4) (sVRo 1)) = some sVRo1_d4 := by kernel_rfl
set_option maxHeartbeats 16000000 in
theorem sVRo_holds : ∀ i, i < 2 → LHolds Tryd.prog (loopAt Tryd.prog 35 [4, 1]) (sVRo i) F := by
 refine loop_famC sound (tableNil _ _) (specsCons recTO_holds (specsCons recBO_holds (specsCons recSO_holds (specsCons recYO_holds (specsCons chunkYO_holds (specsCons chunkNO_holds (specsNil _ _))))))) (oversNil _ _) (fuel := 3000) (depth := 40) (by kernel_rfl) (fun i d => match i with | 0 => ((d 5).toInt - (d 0).toInt).toNat | _ => ((d 5).toInt - (d 0).toInt).toNat) ?_
 intro i hi d hp hR hA
 match i, hi with
 | 0, _ =>
   have hp := allTold'_iff.2 hp
   simp only [sVRo, sVRo0, tl] at hp hR hA
   simp only [argsE, F65, F68, F16, ints_list, List.length_map, tl] at hp
   obtain ⟨p1, p2, p3, p4, p5, p6, p7, p8, p9, q0, q8, pw, pn⟩ := hp
   simp only [true_and, and_true] at hR
   obtain ⟨hl, hx⟩ := hR
   have hs := scan_at (x := (d 8).ints) (o := (d 4).toInt) (l := (d 5).toInt) (p := (d 0).toInt) (by omega) (by omega) (by omega) rfl (by omega)
   have hq := size_in (prt (d 8).ints ((d 4).toInt + (d 0).toInt) ((d 4).toInt + (d 5).toInt))
   generalize hN : sizeI (prt (d 8).ints ((d 4).toInt + (d 0).toInt) ((d 4).toInt + (d 5).toInt)) = n at hs hq
   have hX := canon16 q8
   have h0 : d 0 = D.int (d 0).toInt := by
    have := canon0 q0
    rwa [Int.add_zero] at this
   have hy := prt_length (x := (d 8).ints) (o := (d 4).toInt + ((d 0).toInt + 6)) (t := (d 4).toInt + ((d 0).toInt + 6) + 16)
   by_cases c0 : (d 5).toInt ≤ (d 0).toInt
   ·rw [if_pos c0] at hs
    exfalso
    rw [hs] at pw pn
    first | omega | (simp at pw; done) | (simp only [List.length_nil, List.length_cons] at pn; omega)
   ·rw [if_neg c0] at hs
    by_cases c1 : (d 5).toInt - (d 0).toInt < 6
    ·rw [if_pos c1] at hs
     exfalso
     rw [hs] at pw pn
     first | omega | (simp at pw; done) | (simp only [List.length_nil, List.length_cons] at pn; omega)
    ·rw [if_neg c1] at hs
     by_cases c2 : n = 0
     ·rw [if_pos c2] at hs
      exfalso
      rw [hs] at pw pn
      first | omega | (simp at pw; done) | (simp only [List.length_nil, List.length_cons] at pn; omega)
     ·rw [if_neg c2] at hs
      by_cases c3 : (d 5).toInt - (d 0).toInt < n + 26
      ·rw [if_pos c3] at hs
       exfalso
       rw [hs] at pw pn
       first | omega | (simp at pw; done) | (simp only [List.length_nil, List.length_cons] at pn; omega)
      ·rw [if_neg c3] at hs
       have hj := scanI_in (x := (d 8).ints) (o := (d 4).toInt) (l := (d 5).toInt) (p := (d 0).toInt + (n + 26)) (by omega) (by omega) (by omega) (by omega)
       by_cases g : bodyI (prt (d 8).ints ((d 4).toInt + ((d 0).toInt + 6)) ((d 4).toInt + ((d 0).toInt + 6) + (n + 20))) = 1
       ·rw [if_pos g] at hs
        rw [hs] at pw pn
        dsimp only at pw pn
        try rw [List.length_cons] at pn
        refine ⟨tellA sVRo0_t0, tellA_ok (allTold'_iff.1 ?_), .inr ⟨1, sVRo0_h0, _, _, by decide, sVRo0_y0, dutiesTold_ok ?_, allTold'_iff.1 ?_, ?_⟩⟩
        ·simp only [sVRo0_t0, F63, F64, hN, tl]
         first | omega | (simp only [and_true, true_and]; omega) | (refine ⟨by omega, by omega, by omega, by omega, by omega, by omega, (by first | exact True.intro | omega), by omega, by omega, (by first | exact True.intro | rfl | exact q8 | (rw [Int.add_zero])), (by exact q8), ?_⟩; first | omega | (and_intros <;> omega))
        ·simp only [sVRo0_d0, F65, F66, F67, F79, F63, hN, hs, ints_list, List.length_map, List.length_cons, tl]
         first | done | (and_intros <;> first | exact True.intro | rfl | omega | (refine congrArg D.code ?_; simp only [cut_getD hX, Int.reduceToNat, ofInts16 (l := prt (d 8).ints ((d 4).toInt + ((d 0).toInt + 6)) ((d 4).toInt + ((d 0).toInt + 6) + 16)) (by omega), show (D.ofInts []).toList = [] from rfl, List.nil_append, List.cons_append, List.append_assoc, D.toList_list, ← h0]; first | done | rfl))
        ·simp only [sVRo, sVRo0, sVRo1, sVRo0_h0_a, argsE, F65, F68, F16, F63, hN, ints_list, List.length_map, tl]
         first | omega | (simp only [and_true, true_and]; omega) | (refine ⟨by omega, by omega, by omega, by omega, by omega, by omega, (by first | exact True.intro | omega), by omega, by omega, (by first | exact True.intro | rfl | exact q8 | (rw [Int.add_zero])), (by exact q8), ?_⟩; first | omega | (and_intros <;> omega))
        ·simp only [sVRo0_h0_a, F63, hN, tl]
         omega
       ·rw [if_neg g] at hs
        rw [hs] at pw pn
        dsimp only at pw pn
        try rw [List.length_cons] at pn
        refine ⟨tellA sVRo0_t1, tellA_ok (allTold'_iff.1 ?_), .inr ⟨0, sVRo0_h1, _, _, by decide, sVRo0_y1, dutiesTold_ok ?_, allTold'_iff.1 ?_, ?_⟩⟩
        ·simp only [sVRo0_t1, F63, F64, hN, tl]
         first | omega | (simp only [and_true, true_and]; omega) | (refine ⟨by omega, by omega, by omega, by omega, by omega, by omega, (by first | exact True.intro | omega), by omega, by omega, (by first | exact True.intro | rfl | exact q8 | (rw [Int.add_zero])), (by exact q8), ?_⟩; first | omega | (and_intros <;> omega))
        ·simp only [sVRo0_d1, F65, F66, F67, F79, F63, hN, hs, ints_list, List.length_map, List.length_cons, tl]
         first | done | (and_intros <;> first | exact True.intro | rfl | omega | (refine congrArg D.code ?_; simp only [cut_getD hX, Int.reduceToNat, ofInts16 (l := prt (d 8).ints ((d 4).toInt + ((d 0).toInt + 6)) ((d 4).toInt + ((d 0).toInt + 6) + 16)) (by omega), show (D.ofInts []).toList = [] from rfl, List.nil_append, List.cons_append, List.append_assoc, D.toList_list, ← h0]; first | done | rfl))
        ·simp only [sVRo, sVRo0, sVRo1, sVRo0_h1_a, argsE, F65, F68, F16, F63, hN, ints_list, List.length_map, tl]
         first | omega | (simp only [and_true, true_and]; omega) | (refine ⟨by omega, by omega, by omega, by omega, by omega, by omega, (by first | exact True.intro | omega), by omega, by omega, (by first | exact True.intro | rfl | exact q8 | (rw [Int.add_zero])), (by exact q8), ?_⟩; first | omega | (and_intros <;> omega))
        ·simp only [sVRo0_h1_a, F63, hN, tl]
         omega
 | 1, _ =>
   have hp := allTold'_iff.2 hp
   simp only [sVRo, sVRo1, tl] at hp hR hA
   simp only [argsE, F65, F68, F16, ints_list, List.length_map, tl] at hp
   obtain ⟨p1, p2, p3, p4, p5, p6, p7, p8, p9, q0, q8, z1, z2, pw⟩ := hp
   simp only [true_and, and_true] at hR
   obtain ⟨⟨hl, hx⟩, h10, _⟩ := hR
   have hs := scan_at (x := (d 8).ints) (o := (d 4).toInt) (l := (d 5).toInt) (p := (d 0).toInt) (by omega) (by omega) (by omega) rfl (by omega)
   have hq := size_in (prt (d 8).ints ((d 4).toInt + (d 0).toInt) ((d 4).toInt + (d 5).toInt))
   generalize hN : sizeI (prt (d 8).ints ((d 4).toInt + (d 0).toInt) ((d 4).toInt + (d 5).toInt)) = n at hs hq
   have hX := canon16 q8
   have h0 : d 0 = D.int (d 0).toInt := by
    have := canon0 q0
    rwa [Int.add_zero] at this
   have hy := prt_length (x := (d 8).ints) (o := (d 4).toInt + ((d 0).toInt + 6)) (t := (d 4).toInt + ((d 0).toInt + 6) + 16)
   by_cases c0 : (d 5).toInt ≤ (d 0).toInt
   ·rw [if_pos c0] at hs
    exfalso
    rw [hs] at pw
    first | omega | (simp at pw; done) | (simp only [List.length_nil, List.length_cons] at pn; omega)
   ·rw [if_neg c0] at hs
    by_cases c1 : (d 5).toInt - (d 0).toInt < 6
    ·rw [if_pos c1] at hs
     refine ⟨tellA sVRo1_t2, tellA_ok (allTold'_iff.1 ?_), .inl ⟨_, _, _, sVRo1_y2, dutiesTold_ok ?_⟩⟩
     ·simp only [sVRo1_t2, F63, hN, tl]
      first | omega | (simp only [and_true, true_and]; omega) | (refine ⟨by omega, by omega, by omega, by omega, by omega, by omega, (by first | exact True.intro | omega), by omega, by omega, (by first | exact True.intro | rfl | exact q8 | (rw [Int.add_zero])), (by exact q8), ?_⟩; first | omega | (and_intros <;> omega))
     ·simp only [sVRo1_d2, F65, F66, F67, F79, hs, ints_list, List.length_map, List.length_nil, tl]
      first | done | (and_intros <;> first | exact True.intro | rfl | omega | (rw [List.append_nil, list_toList (by rw [len_toL]; omega)]))
    ·rw [if_neg c1] at hs
     by_cases c2 : n = 0
     ·rw [if_pos c2] at hs
      refine ⟨tellA sVRo1_t3, tellA_ok (allTold'_iff.1 ?_), .inl ⟨_, _, _, sVRo1_y3, dutiesTold_ok ?_⟩⟩
      ·simp only [sVRo1_t3, F63, hN, tl]
       first | omega | (simp only [and_true, true_and]; omega) | (refine ⟨by omega, by omega, by omega, by omega, by omega, by omega, (by first | exact True.intro | omega), by omega, by omega, (by first | exact True.intro | rfl | exact q8 | (rw [Int.add_zero])), (by exact q8), ?_⟩; first | omega | (and_intros <;> omega))
      ·simp only [sVRo1_d3, F65, F66, F67, F79, hs, ints_list, List.length_map, List.length_nil, tl]
       first | done | (and_intros <;> first | exact True.intro | rfl | omega | (rw [List.append_nil, list_toList (by rw [len_toL]; omega)]))
     ·rw [if_neg c2] at hs
      by_cases c3 : (d 5).toInt - (d 0).toInt < n + 26
      ·rw [if_pos c3] at hs
       refine ⟨tellA sVRo1_t4, tellA_ok (allTold'_iff.1 ?_), .inl ⟨_, _, _, sVRo1_y4, dutiesTold_ok ?_⟩⟩
       ·simp only [sVRo1_t4, F63, hN, tl]
        first | omega | (simp only [and_true, true_and]; omega) | (refine ⟨by omega, by omega, by omega, by omega, by omega, by omega, (by first | exact True.intro | omega), by omega, by omega, (by first | exact True.intro | rfl | exact q8 | (rw [Int.add_zero])), (by exact q8), ?_⟩; first | omega | (and_intros <;> omega))
       ·simp only [sVRo1_d4, F65, F66, F67, F79, hs, ints_list, List.length_map, List.length_nil, tl]
        first | done | (and_intros <;> first | exact True.intro | rfl | omega | (rw [List.append_nil, list_toList (by rw [len_toL]; omega)]))
      ·rw [if_neg c3] at hs
       have hj := scanI_in (x := (d 8).ints) (o := (d 4).toInt) (l := (d 5).toInt) (p := (d 0).toInt + (n + 26)) (by omega) (by omega) (by omega) (by omega)
       by_cases g : bodyI (prt (d 8).ints ((d 4).toInt + ((d 0).toInt + 6)) ((d 4).toInt + ((d 0).toInt + 6) + (n + 20))) = 1
       ·rw [if_pos g] at hs
        rw [hs] at pw
        dsimp only at pw
        try rw [List.length_cons] at pn
        refine ⟨tellA sVRo1_t0, tellA_ok (allTold'_iff.1 ?_), .inr ⟨1, sVRo1_h0, _, _, by decide, sVRo1_y0, dutiesTold_ok ?_, allTold'_iff.1 ?_, ?_⟩⟩
        ·simp only [sVRo1_t0, F63, F64, hN, tl]
         first | omega | (simp only [and_true, true_and]; omega) | (refine ⟨by omega, by omega, by omega, by omega, by omega, by omega, (by first | exact True.intro | omega), by omega, by omega, (by first | exact True.intro | rfl | exact q8 | (rw [Int.add_zero])), (by exact q8), ?_⟩; first | omega | (and_intros <;> omega))
        ·simp only [sVRo1_d0, F65, F66, F67, F79, F63, hN, hs, ints_list, List.length_map, List.length_cons, tl]
         first | done | (and_intros <;> first | exact True.intro | rfl | omega | (refine congrArg D.code ?_; simp only [cut_getD hX, Int.reduceToNat, ofInts16 (l := prt (d 8).ints ((d 4).toInt + ((d 0).toInt + 6)) ((d 4).toInt + ((d 0).toInt + 6) + 16)) (by omega), show (D.ofInts []).toList = [] from rfl, List.nil_append, List.cons_append, List.append_assoc, D.toList_list, ← h0]; first | done | rfl))
        ·simp only [sVRo, sVRo0, sVRo1, sVRo1_h0_a, argsE, F65, F68, F16, F63, hN, ints_list, List.length_map, tl]
         first | omega | (simp only [and_true, true_and]; omega) | (refine ⟨by omega, by omega, by omega, by omega, by omega, by omega, (by first | exact True.intro | omega), by omega, by omega, (by first | exact True.intro | rfl | exact q8 | (rw [Int.add_zero])), (by exact q8), ?_⟩; first | omega | (and_intros <;> omega))
        ·simp only [sVRo1_h0_a, F63, hN, tl]
         omega
       ·rw [if_neg g] at hs
        rw [hs] at pw
        dsimp only at pw
        try rw [List.length_cons] at pn
        refine ⟨tellA sVRo1_t1, tellA_ok (allTold'_iff.1 ?_), .inr ⟨1, sVRo1_h1, _, _, by decide, sVRo1_y1, dutiesTold_ok ?_, allTold'_iff.1 ?_, ?_⟩⟩
        ·simp only [sVRo1_t1, F63, F64, hN, tl]
         first | omega | (simp only [and_true, true_and]; omega) | (refine ⟨by omega, by omega, by omega, by omega, by omega, by omega, (by first | exact True.intro | omega), by omega, by omega, (by first | exact True.intro | rfl | exact q8 | (rw [Int.add_zero])), (by exact q8), ?_⟩; first | omega | (and_intros <;> omega))
        ·simp only [sVRo1_d1, F65, F66, F67, F79, F63, hN, hs, ints_list, List.length_map, List.length_cons, tl]
         first | done | (and_intros <;> first | exact True.intro | rfl | omega | (refine congrArg D.code ?_; simp only [cut_getD hX, Int.reduceToNat, ofInts16 (l := prt (d 8).ints ((d 4).toInt + ((d 0).toInt + 6)) ((d 4).toInt + ((d 0).toInt + 6) + 16)) (by omega), show (D.ofInts []).toList = [] from rfl, List.nil_append, List.cons_append, List.append_assoc, D.toList_list, ← h0]; first | done | rfl))
        ·simp only [sVRo, sVRo0, sVRo1, sVRo1_h1_a, argsE, F65, F68, F16, F63, hN, ints_list, List.length_map, tl]
         first | omega | (simp only [and_true, true_and]; omega) | (refine ⟨by omega, by omega, by omega, by omega, by omega, by omega, (by first | exact True.intro | omega), by omega, by omega, (by first | exact True.intro | rfl | exact q8 | (rw [Int.add_zero])), (by exact q8), ?_⟩; first | omega | (and_intros <;> omega))
        ·simp only [sVRo1_h1_a, F63, hN, tl]
         omega
theorem sVRo0_holds : LHolds Tryd.prog (loopAt Tryd.prog 35 [4, 1]) sVRo0 F := sVRo_holds 0 (by decide)
theorem sVRo1_holds : LHolds Tryd.prog (loopAt Tryd.prog 35 [4, 1]) sVRo1 F := sVRo_holds 1 (by decide)

end Go.Proofs.YtidpndnehbhloaaDoor.Pso

set_option linter.unusedSimpArgs false
set_option linter.unusedVariables false
namespace Go.Proofs.YtidpndnehbhloaaDoor.Pco
open Go.RowKit Go.Ev Go.Proofs.YtidpndnehbhloaaDoor.Co

open Go.Proofs.YtidpndnehbhloaaDoor.P0
open Go.Proofs.YtidpndnehbhloaaDoor.Pa
open Go.Proofs.YtidpndnehbhloaaDoor.Pm
open Go.Proofs.YtidpndnehbhloaaDoor.Pl
open Go.Proofs.YtidpndnehbhloaaDoor.Pn
open Go.Proofs.YtidpndnehbhloaaDoor.Pu
open Go.Proofs.YtidpndnehbhloaaDoor.Puo
open Go.Proofs.YtidpndnehbhloaaDoor.Pq
open Go.Proofs.YtidpndnehbhloaaDoor.Pqo
open Go.Proofs.YtidpndnehbhloaaDoor.Pgo
open Go.Proofs.YtidpndnehbhloaaDoor.Pb
open Go.Proofs.YtidpndnehbhloaaDoor.Pbo
open Go.Proofs.YtidpndnehbhloaaDoor.Ps4
open Go.Proofs.YtidpndnehbhloaaDoor.Pso

abbrev txPco0 : E := (.un .code (.fn 16 (argsE [.int 56, .var 5])))
abbrev txPco1 : E := (.fn 68 (argsE [.var 5, .var 1, .var 2, .int 0]))
abbrev txPco2 : E := (.fn 65 (argsE [.var 5, .var 1, .var 2, .int 0]))
abbrev txPco3 : E := (.fn 66 (argsE [.var 5, .var 1, .var 2, .int 0]))
abbrev txPco4 : E := (.fn 67 (argsE [.var 5, .var 1, .var 2, .int 0]))
abbrev txPco5 : E := (.bi .pair (.var 2) (.bi .pair (.int 0) (.int 0)))
abbrev txPco6 : E := (.bi .pair (.var 5) (.bi .pair (.var 1) txPco5))
abbrev zPco0 : Nat × RW := (5, .vseq ⟨36, .agg [.agg [.int .u8, .int .u8, .int .u8, .int .u8, .int .u8, .int .u8, .int .u8, .int .u8, .int .u8, .int .u8, .int .u8, .int .u8, .int .u8, .int .u8, .int .u8, .int .u8], .int .i64, .int .i64], .un .len txPco2, .fn 65 (argsE [.var 5, .var 1, .var 2, .int 0]), true⟩)
abbrev zPco1 : Duty := (true, (.bi .add (.int 0) (.fn 67 txPco6)), (.fn 67 txPco6))
abbrev zPco2 : E := (.bi .add (.var 1) (.var 2))
abbrev zPco3 : Nat × RW := (3, .eseq ⟨.u8, .var 4, .var 5⟩)
abbrev zPco4 : E := (.fn 79 (argsE [.var 5, .var 1, .var 2, .int 0]))
abbrev asPco0 : Q × Bool := ((.le (.int 0) (.var 2)), true)
abbrev asPco1 : Q × Bool := ((.le (.int 0) (.var 1)), true)
abbrev asPco2 : Q × Bool := ((.le zPco2 (.var 4)), true)
abbrev asPco3 : Q × Bool := ((.le (.var 2) (.var 3)), true)
abbrev asPco4 : Q × Bool := ((.le (.var 2) (.int 20000)), true)
abbrev asPco5 : Q × Bool := ((.same (.un .code (.int 0)) (.un .code (.bi .add (.int 0) (.int 0)))), true)
abbrev asPco6 : Q × Bool := ((.same (.un .code (.var 5)) (.un .code (.fn 16 (.bi .pair (.int 56) (.bi .pair (.var 5) (.int 0)))))), true)
abbrev asPco8 : Q × Bool := ((.le (.int 1) (.un .len (.fn 65 txPco6))), false)
abbrev asPco9 : Q × Bool := ((.le (.int 1) (.un .len (.fn 65 txPco6))), true)
def scNRo : CSpec := { args := [.sslice 3 (.var 1) (.var 2) (.var 3) true], next := 2, rows := [zPco3, (0, .ext cellsG)], pre := [(.le zPco2 (.var 4), true), (.le (.var 2) (.int 20000), true), (.same (.un .code (.var 5)) txPco0, true), (.eq txPco1 (.int 0), false), (.le (.int 1) (.un .len txPco2), false)], res := .tuple [.nilslice, .sint .i64 txPco3, .sint .i64 txPco4, .sint .i64 zPco4], frows := [], same := [3] }
abbrev asPco10 : Q × Bool := ((.eq (.fn 68 txPco6) (.int 0)), false)
def scNRo_t0 : List (Q × Bool) := [asPco0, asPco1, asPco2, asPco3, asPco4, asPco5, asPco6, asPco10, asPco8]
def scNRo_d0 : List Duty := [zPco1]
theorem scNRo_y0 : endC scNRo [(3, 3)] 1000 (callC Tryd.prog (tellA scNRo_t0) [⟨35, [4, 1], sNRo0⟩] [] [] 3000 40 19 scNRo) = some scNRo_d0 := by kernel_rfl
theorem scNRo_holds : CHolds Tryd.prog 19 scNRo F := by
 refine cholds_of sound (tableCons sNRo0_holds (tableNil _ _)) (specsNil _ _) (oversNil _ _) (fuel := 3000) (depth := 40) (by kernel_rfl) fun d hp hR hA => ?_
 have hp := allTold'_iff.2 hp
 simp only [scNRo, tl] at hp hR hA
 simp only [argsE, F16, F65, F68, ints_list, List.length_map, tl] at hp
 have h5 := scanI_in (x := (d 5).ints) (o := (d 1).toInt) (l := (d 2).toInt) (p := 0) (by omega) (by omega) (by omega) (by omega)
 refine ⟨tellA scNRo_t0, _, _, _, tellA_ok (allTold'_iff.1 ?_), scNRo_y0, dutiesTold_ok ?_⟩
 ·simp only [scNRo_t0, F65, F68, F16, ints_list, List.length_map, tl]
  first | omega | (and_intros <;> first | omega | exact True.intro | rfl | exact hp.2.2.1)
 ·simp only [scNRo_d0, F65, F66, F67, F79, ints_list, List.length_map, tl]
  first | done | omega | (and_intros <;> first | omega | exact True.intro | rfl)

def scVRo : CSpec := { args := [.sslice 3 (.var 1) (.var 2) (.var 3) true], next := 2, rows := [zPco3, (0, .ext cellsG)], pre := [(.le zPco2 (.var 4), true), (.le (.var 2) (.int 20000), true), (.same (.un .code (.var 5)) txPco0, true), (.eq txPco1 (.int 0), false), (.le (.int 1) (.un .len txPco2), true)], res := .tuple [.vslice 5 18 (.int 0) (.un .len txPco2) (.un .len txPco2) true, .sint .i64 txPco3, .sint .i64 txPco4, .sint .i64 zPco4], frows := [zPco0], same := [3] }
def scVRo_t0 : List (Q × Bool) := [asPco0, asPco1, asPco2, asPco3, asPco4, asPco5, asPco6, asPco10, asPco9]
def scVRo_d0 : List Duty := [zPco1]
theorem scVRo_y0 : endC scVRo [(5, 19), (3, 3)] 1000 (callC Tryd.prog (tellA scVRo_t0) [⟨35, [4, 1], sVRo0⟩, ⟨35, [4, 1], sVRo1⟩] [] [] 3000 40 19 scVRo) = some scVRo_d0 := by kernel_rfl
theorem scVRo_holds : CHolds Tryd.prog 19 scVRo F := by
 refine cholds_of sound (tableCons sVRo0_holds (tableCons sVRo1_holds (tableNil _ _))) (specsNil _ _) (oversNil _ _) (fuel := 3000) (depth := 40) (by kernel_rfl) fun d hp hR hA => ?_
 have hp := allTold'_iff.2 hp
 simp only [scVRo, tl] at hp hR hA
 simp only [argsE, F16, F65, F68, ints_list, List.length_map, tl] at hp
 have h5 := scanI_in (x := (d 5).ints) (o := (d 1).toInt) (l := (d 2).toInt) (p := 0) (by omega) (by omega) (by omega) (by omega)
 refine ⟨tellA scVRo_t0, _, _, _, tellA_ok (allTold'_iff.1 ?_), scVRo_y0, dutiesTold_ok ?_⟩
 ·simp only [scVRo_t0, F65, F68, F16, ints_list, List.length_map, tl]
  first | omega | (and_intros <;> first | omega | exact True.intro | rfl | exact hp.2.2.1)
 ·simp only [scVRo_d0, F65, F66, F67, F79, ints_list, List.length_map, tl]
  first | done | omega | (and_intros <;> first | omega | exact True.intro | rfl)

end Go.Proofs.YtidpndnehbhloaaDoor.Pco
