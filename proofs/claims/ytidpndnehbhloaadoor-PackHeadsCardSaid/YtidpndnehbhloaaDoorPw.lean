/-
 Contracts of this seat: what loops and calls leave, for all inputs. No condition.
-/
import Derived.Test.YtidpndnehbhloaaDoorSycp
import Derived.Test.YtidpndnehbhloaaDoorCo
import Derived.Test.YtidpndnehbhloaaDoorP0
import Derived.Test.YtidpndnehbhloaaDoorPa
set_option linter.unusedSimpArgs false
set_option linter.unusedVariables false
namespace Go.Proofs.YtidpndnehbhloaaDoor.Pw
open Go.RowKit Go.Ev Go.Proofs.YtidpndnehbhloaaDoor.Co

open Go.Proofs.YtidpndnehbhloaaDoor.P0
open Go.Proofs.YtidpndnehbhloaaDoor.Pa
abbrev zPw0 : Nat × RW := (1, .cells 5 1 true false [.int .u8 0, .int .u8 1, .int .u8 255, .int .u8 254, .int .u8 66, .int .u8 151, .int .u8 202, .int .u8 53, .int .u8 135, .int .u8 88, .int .u8 246, .int .u8 210, .int .u8 126, .int .u8 108, .int .u8 244, .int .u8 82, .int .u8 114, .int .u8 147, .int .u8 121, .int .u8 119, .int .u8 167, .int .u8 72, .int .u8 7, .int .u8 35, .int .u8 64, .int .u8 42, .int .u8 127, .int .u8 0, .int .u8 1, .int .u8 255, .int .u8 254, .int .u8 66, .int .u8 151, .int .u8 202, .int .u8 53, .int .u8 135, .int .u8 88, .int .u8 246, .int .u8 210, .int .u8 126, .int .u8 108, .int .u8 244, .int .u8 82, .int .u8 114, .int .u8 147, .int .u8 121, .int .u8 119, .int .u8 167, .int .u8 72, .int .u8 7, .int .u8 35, .int .u8 64, .int .u8 42, .int .u8 127, .int .u8 0, .int .u8 1, .int .u8 255, .int .u8 254, .int .u8 66, .int .u8 151, .int .u8 202, .int .u8 53, .int .u8 135, .int .u8 88, .int .u8 246, .int .u8 210, .int .u8 126, .int .u8 108, .int .u8 244, .int .u8 82, .int .u8 114, .int .u8 147, .int .u8 121, .int .u8 119, .int .u8 167, .int .u8 72, .int .u8 7, .int .u8 35, .int .u8 64, .int .u8 42])
abbrev zPw1 : Nat × RW := (3, .cells 5 1 true false [.int .u8 202, .int .u8 53, .int .u8 135, .int .u8 88, .int .u8 246, .int .u8 210, .int .u8 126, .int .u8 108, .int .u8 244, .int .u8 82, .int .u8 114, .int .u8 147, .int .u8 121, .int .u8 119, .int .u8 167, .int .u8 72, .int .u8 7])
abbrev zPw2 : Nat × RW := (1, .cells 5 1 true false [.int .u8 0, .int .u8 1, .int .u8 255, .int .u8 254, .int .u8 66, .int .u8 151, .int .u8 202, .int .u8 53, .int .u8 135, .int .u8 88, .int .u8 246, .int .u8 210, .int .u8 126, .int .u8 108, .int .u8 244, .int .u8 82, .int .u8 114, .int .u8 147, .int .u8 121, .int .u8 119, .int .u8 167, .int .u8 72, .int .u8 7, .int .u8 35, .int .u8 64, .int .u8 42, .int .u8 127])
def k0 : CSpec := ⟨[.slice 1 0 1 1 false], 1, [(1, .cells 5 0 false false [.int .u8 7]), (0, .ext cellsG)], [], .tuple [.slice 3 0 27 27 true, .agg [.int .u8 202, .int .u8 53, .int .u8 135, .int .u8 88, .int .u8 246, .int .u8 210, .int .u8 126, .int .u8 108, .int .u8 244, .int .u8 82, .int .u8 114, .int .u8 147, .int .u8 121, .int .u8 119, .int .u8 167, .int .u8 72], .int .i64 0], [(3, .cells 5 1 true false [.int .u8 0, .int .u8 1, .int .u8 255, .int .u8 254, .int .u8 66, .int .u8 151, .int .u8 202, .int .u8 53, .int .u8 135, .int .u8 88, .int .u8 246, .int .u8 210, .int .u8 126, .int .u8 108, .int .u8 244, .int .u8 82, .int .u8 114, .int .u8 147, .int .u8 121, .int .u8 119, .int .u8 167, .int .u8 72, .int .u8 7, .int .u8 35, .int .u8 64, .int .u8 42, .int .u8 127]), (1, .cells 5 0 false false [.int .u8 7])], [1]⟩
set_option maxRecDepth 100000 in
theorem k0_y : endC k0 [(1, 1), (3, 79)] 100000 (callW Tryd.prog F noAsk [] ([] ++ [(42, mixedC)]) [] 8000 80 16 k0) = some [] := by kernel_rfl
theorem k0_holds : CHolds Tryd.prog 16 k0 F := choldsW_of sound (tableNil _ _) (specsCons mixedC_holds (specsNil _ _)) (oversNil _ _) (by kernel_rfl) fun d _ _ _ => ⟨noAsk, [(1, 1), (3, 79)], 100000, [], noAsk_ok _, k0_y, fun p hp => by cases hp⟩

def k1 : CSpec := ⟨[.agg [.int .i64 0, .int .i64 27, .int .i64 0, .int .i64 1, .slice 1 6 21 21 true]], 1, [zPw2, (0, .ext cellsG)], [], .tuple [.slice 3 16 1 1 true, .agg [.int .u8 202, .int .u8 53, .int .u8 135, .int .u8 88, .int .u8 246, .int .u8 210, .int .u8 126, .int .u8 108, .int .u8 244, .int .u8 82, .int .u8 114, .int .u8 147, .int .u8 121, .int .u8 119, .int .u8 167, .int .u8 72], .int .i64 0], [zPw1, zPw2], [1]⟩
set_option maxRecDepth 100000 in
theorem k1_y : endC k1 [(1, 1), (3, 17)] 100000 (callW Tryd.prog F noAsk [] ([] ++ [(42, mixedC)]) [] 8000 80 22 k1) = some [] := by kernel_rfl
theorem k1_holds : CHolds Tryd.prog 22 k1 F := choldsW_of sound (tableNil _ _) (specsCons mixedC_holds (specsNil _ _)) (oversNil _ _) (by kernel_rfl) fun d _ _ _ => ⟨noAsk, [(1, 1), (3, 17)], 100000, [], noAsk_ok _, k1_y, fun p hp => by cases hp⟩

def k2 : CSpec := ⟨[.agg [.int .i64 0, .int .i64 27, .int .i64 0, .int .i64 1, .slice 1 6 21 74 true]], 1, [zPw0, (0, .ext cellsG)], [], .tuple [.slice 3 16 1 1 true, .agg [.int .u8 202, .int .u8 53, .int .u8 135, .int .u8 88, .int .u8 246, .int .u8 210, .int .u8 126, .int .u8 108, .int .u8 244, .int .u8 82, .int .u8 114, .int .u8 147, .int .u8 121, .int .u8 119, .int .u8 167, .int .u8 72], .int .i64 0], [zPw1, zPw0], [1]⟩
set_option maxRecDepth 100000 in
theorem k2_y : endC k2 [(1, 1), (3, 17)] 100000 (callW Tryd.prog F noAsk [] ([] ++ [(42, mixedC)]) [] 8000 80 22 k2) = some [] := by kernel_rfl
theorem k2_holds : CHolds Tryd.prog 22 k2 F := choldsW_of sound (tableNil _ _) (specsCons mixedC_holds (specsNil _ _)) (oversNil _ _) (by kernel_rfl) fun d _ _ _ => ⟨noAsk, [(1, 1), (3, 17)], 100000, [], noAsk_ok _, k2_y, fun p hp => by cases hp⟩

def k3 : CSpec := ⟨[.agg [.int .i64 27, .int .i64 54, .int .i64 0, .int .i64 1, .slice 1 33 21 47 true]], 1, [zPw0, (0, .ext cellsG)], [], .tuple [.slice 3 16 1 1 true, .agg [.int .u8 202, .int .u8 53, .int .u8 135, .int .u8 88, .int .u8 246, .int .u8 210, .int .u8 126, .int .u8 108, .int .u8 244, .int .u8 82, .int .u8 114, .int .u8 147, .int .u8 121, .int .u8 119, .int .u8 167, .int .u8 72], .int .i64 0], [zPw1, zPw0], [1]⟩
set_option maxRecDepth 100000 in
theorem k3_y : endC k3 [(1, 1), (3, 17)] 100000 (callW Tryd.prog F noAsk [] ([] ++ [(42, mixedC)]) [] 8000 80 22 k3) = some [] := by kernel_rfl
theorem k3_holds : CHolds Tryd.prog 22 k3 F := choldsW_of sound (tableNil _ _) (specsCons mixedC_holds (specsNil _ _)) (oversNil _ _) (by kernel_rfl) fun d _ _ _ => ⟨noAsk, [(1, 1), (3, 17)], 100000, [], noAsk_ok _, k3_y, fun p hp => by cases hp⟩

def k4 : CSpec := ⟨[.slice 1 0 80 80 true], 1, [zPw0, (0, .ext cellsG)], [], .tuple [.slice 3 0 2 2 true, .int .i64 54, .int .i64 0, .int .i64 1], [(3, .cells 36 18 true false [.int .u8 202, .int .u8 53, .int .u8 135, .int .u8 88, .int .u8 246, .int .u8 210, .int .u8 126, .int .u8 108, .int .u8 244, .int .u8 82, .int .u8 114, .int .u8 147, .int .u8 121, .int .u8 119, .int .u8 167, .int .u8 72, .int .i64 0, .int .i64 1, .int .u8 202, .int .u8 53, .int .u8 135, .int .u8 88, .int .u8 246, .int .u8 210, .int .u8 126, .int .u8 108, .int .u8 244, .int .u8 82, .int .u8 114, .int .u8 147, .int .u8 121, .int .u8 119, .int .u8 167, .int .u8 72, .int .i64 27, .int .i64 1]), zPw0], [1]⟩
set_option maxRecDepth 100000 in
theorem k4_y : endC k4 [(1, 1), (3, 71)] 100000 (callW Tryd.prog F noAsk [] ([(22, k2), (22, k3)] ++ [(42, mixedC)]) [] 8000 80 19 k4) = some [] := by kernel_rfl
theorem k4_holds : CHolds Tryd.prog 19 k4 F := choldsW_of sound (tableNil _ _) (specsCons k2_holds (specsCons k3_holds (specsCons mixedC_holds (specsNil _ _)))) (oversNil _ _) (by kernel_rfl) fun d _ _ _ => ⟨noAsk, [(1, 1), (3, 71)], 100000, [], noAsk_ok _, k4_y, fun p hp => by cases hp⟩


def awakeC : CSpec := { args := [], next := 0, rows := [(0, .ext cellsG)], pre := [], res := .bool true, frows := [], same := [] }
set_option maxRecDepth 100000 in
theorem awakeC_y : endC awakeC [] 100000 (callW Tryd.prog F noAsk [] ([(16, k0), (22, k1), (19, k4)] ++ [(42, mixedC)]) [] 8000 80 13 awakeC) = some [] := by kernel_rfl
theorem awakeC_holds : CHolds Tryd.prog 13 awakeC F := choldsW_of sound (tableNil _ _) (specsCons k0_holds (specsCons k1_holds (specsCons k4_holds (specsCons mixedC_holds (specsNil _ _))))) (oversNil _ _) (by kernel_rfl) fun d _ _ _ => ⟨noAsk, [], 100000, [], noAsk_ok _, awakeC_y, fun p hp => by cases hp⟩

end Go.Proofs.YtidpndnehbhloaaDoor.Pw
