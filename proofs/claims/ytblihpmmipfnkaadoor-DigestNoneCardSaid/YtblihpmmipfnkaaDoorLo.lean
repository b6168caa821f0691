/-
  Loops of this seat that count: what they leave is what so many rounds make of it. No condition.
-/
import Derived.Test.YtblihpmmipfnkaaDoorSyy
import Derived.Test.YtblihpmmipfnkaaDoorCo
namespace Go.Proofs.YtblihpmmipfnkaaDoor.Lo
open Go.RowKit Go.Ev Go.Proofs.YtblihpmmipfnkaaDoor.Co

def cellsG : List AV := [.int .u32 1116352408, .int .u32 1899447441, .int .u32 3049323471, .int .u32 3921009573, .int .u32 961987163, .int .u32 1508970993, .int .u32 2453635748, .int .u32 2870763221, .int .u32 3624381080, .int .u32 310598401, .int .u32 607225278, .int .u32 1426881987, .int .u32 1925078388, .int .u32 2162078206, .int .u32 2614888103, .int .u32 3248222580, .int .u32 3835390401, .int .u32 4022224774, .int .u32 264347078, .int .u32 604807628, .int .u32 770255983, .int .u32 1249150122, .int .u32 1555081692, .int .u32 1996064986, .int .u32 2554220882, .int .u32 2821834349, .int .u32 2952996808, .int .u32 3210313671, .int .u32 3336571891, .int .u32 3584528711, .int .u32 113926993, .int .u32 338241895, .int .u32 666307205, .int .u32 773529912, .int .u32 1294757372, .int .u32 1396182291, .int .u32 1695183700, .int .u32 1986661051, .int .u32 2177026350, .int .u32 2456956037, .int .u32 2730485921, .int .u32 2820302411, .int .u32 3259730800, .int .u32 3345764771, .int .u32 3516065817, .int .u32 3600352804, .int .u32 4094571909, .int .u32 275423344, .int .u32 430227734, .int .u32 506948616, .int .u32 659060556, .int .u32 883997877, .int .u32 958139571, .int .u32 1322822218, .int .u32 1537002063, .int .u32 1747873779, .int .u32 1955562222, .int .u32 2024104815, .int .u32 2227730452, .int .u32 2361852424, .int .u32 2428436474, .int .u32 2756734187, .int .u32 3204031479, .int .u32 3329325298]

def L0 : LSpec := { n := 86, next := 1, pat := [(6, .sint .i64 (.var 0)), (3, .ptr 1 0)], rows := [(1, .seq ⟨63, .u32, .int 64, .var 1, false, false⟩)], pre := [(.le (.int 16) (.var 0), true), (.le (.var 0) (.int 64), true)], x := 2, fin := [(3, .ptr 1 0)], frows := [(1, .seq ⟨63, .u32, .int 64, (outE 1 2 1), false, false⟩)], same := [1], chg := [3, 6, 7, 8, 9, 10, 42, 43, 44, 45, 46, 47, 48, 49, 50, 51, 52, 53, 54, 55, 56, 57, 58, 59, 60, 61, 62, 63, 64, 65, 66, 67, 68, 69, 70, 71, 72, 73, 74, 75, 76, 77, 78, 79, 80, 81, 82, 83, 84] }
def th0 : List (Nat × E) := [(1, (.tr .upd (.var 1) (.var 0) (.bi (.iop .add .u32) (.bi (.iop .add .u32) (.bi (.iop .add .u32) (.bi .sel (.var 1) (.bi .add (.var 0) (.int (-16)))) (.bi (.iop .xor .u32) (.bi (.iop .xor .u32) (.bi (.iop .or .u32) (.bi (.iop .shl .u32) (.bi .sel (.var 1) (.bi .add (.var 0) (.int (-15)))) (.int 25)) (.bi (.iop .shr .u32) (.bi .sel (.var 1) (.bi .add (.var 0) (.int (-15)))) (.int 7))) (.bi (.iop .or .u32) (.bi (.iop .shl .u32) (.bi .sel (.var 1) (.bi .add (.var 0) (.int (-15)))) (.int 14)) (.bi (.iop .shr .u32) (.bi .sel (.var 1) (.bi .add (.var 0) (.int (-15)))) (.int 18)))) (.bi (.iop .shr .u32) (.bi .sel (.var 1) (.bi .add (.var 0) (.int (-15)))) (.int 3)))) (.bi .sel (.var 1) (.bi .add (.var 0) (.int (-7))))) (.bi (.iop .xor .u32) (.bi (.iop .xor .u32) (.bi (.iop .or .u32) (.bi (.iop .shl .u32) (.bi .sel (.var 1) (.bi .add (.var 0) (.int (-2)))) (.int 15)) (.bi (.iop .shr .u32) (.bi .sel (.var 1) (.bi .add (.var 0) (.int (-2)))) (.int 17))) (.bi (.iop .or .u32) (.bi (.iop .shl .u32) (.bi .sel (.var 1) (.bi .add (.var 0) (.int (-2)))) (.int 13)) (.bi (.iop .shr .u32) (.bi .sel (.var 1) (.bi .add (.var 0) (.int (-2)))) (.int 19)))) (.bi (.iop .shr .u32) (.bi .sel (.var 1) (.bi .add (.var 0) (.int (-2)))) (.int 10)))))), (0, (.bi .add (.var 0) (.int 1)))]
def ro0 (d : Nat → D) : Nat := (64 - (d 0).toInt).toNat
def tN0 : List (Q × Bool) := [((.le (.int 64) (.var 0)), false),
  ((.fit .i64 (.bi .add (.var 0) (.int (-15)))), true),
  ((.le (.int 0) (.bi .add (.var 0) (.int (-15)))), true),
  ((.le (.int 64) (.bi .add (.var 0) (.int (-15)))), false),
  ((.fit .i64 (.bi .add (.var 0) (.int (-2)))), true),
  ((.le (.int 0) (.bi .add (.var 0) (.int (-2)))), true),
  ((.le (.int 64) (.bi .add (.var 0) (.int (-2)))), false),
  ((.fit .i64 (.bi .add (.var 0) (.int (-16)))), true),
  ((.le (.int 0) (.bi .add (.var 0) (.int (-16)))), true),
  ((.le (.int 64) (.bi .add (.var 0) (.int (-16)))), false),
  ((.fit .i64 (.bi .add (.var 0) (.int (-7)))), true),
  ((.le (.int 0) (.bi .add (.var 0) (.int (-7)))), true),
  ((.le (.int 64) (.bi .add (.var 0) (.int (-7)))), false),
  ((.le (.int 0) (.var 0)), true),
  ((.fit .i64 (.bi .add (.var 0) (.int 1))), true)]
def tE0 : List (Q × Bool) := [((.le (.int 64) (.var 0)), true)]
theorem yes0 : countYes Tryd.prog [] 3000 40 43 [4, 1, 0, 1, 1, 1] L0 th0 2 1 [(1, 1)] [(1, 1)] 1000 tN0 tE0 = true := by kernel_rfl

def L1 : LSpec := { n := 131, next := 1, pat := [(35, .sint .i64 (.var 0)), (6, .sint .u32 (.var 1)), (7, .sint .u32 (.var 2)), (8, .sint .u32 (.var 3)), (9, .sint .u32 (.var 4)), (10, .sint .u32 (.var 5)), (11, .sint .u32 (.var 6)), (12, .sint .u32 (.var 7)), (13, .sint .u32 (.var 8)), (5, .ptr 1 0)], rows := [(1, .seq ⟨63, .u32, .int 64, .var 9, false, false⟩), (0, .ext cellsG)], pre := [(.le (.int 0) (.var 0), true), (.le (.var 0) (.int 64), true)], x := 0, fin := [(6, .sint .u32 ((outE 2 10 1))), (7, .sint .u32 ((outE 2 10 2))), (8, .sint .u32 ((outE 2 10 3))), (9, .sint .u32 ((outE 2 10 4))), (10, .sint .u32 ((outE 2 10 5))), (11, .sint .u32 ((outE 2 10 6))), (12, .sint .u32 ((outE 2 10 7))), (13, .sint .u32 ((outE 2 10 8))), (5, .ptr 1 0)], frows := [(1, .seq ⟨63, .u32, .int 64, .var 9, false, false⟩)], same := [1], chg := [5, 6, 7, 8, 9, 10, 11, 12, 13, 14, 15, 16, 35, 36, 37, 38, 39, 40, 41, 42, 43, 44, 45, 46, 47, 48, 49, 50, 51, 52, 53, 54, 55, 56, 57, 58, 59, 60, 61, 62, 63, 64, 65, 66, 67, 68, 69, 70, 71, 72, 73, 74, 75, 76, 77, 78, 79, 80, 81, 82, 83, 84, 85, 86, 87, 88, 89, 90, 91, 92, 93, 94, 95, 96, 97] }
def th1 : List (Nat × E) := [(9, (.var 9)), (8, (.var 7)), (7, (.var 6)), (6, (.var 5)), (5, (.bi (.iop .add .u32) (.var 4) (.bi (.iop .add .u32) (.bi (.iop .add .u32) (.bi (.iop .add .u32) (.bi (.iop .add .u32) (.var 8) (.bi (.iop .xor .u32) (.bi (.iop .xor .u32) (.bi (.iop .or .u32) (.bi (.iop .shl .u32) (.var 5) (.int 26)) (.bi (.iop .shr .u32) (.var 5) (.int 6))) (.bi (.iop .or .u32) (.bi (.iop .shl .u32) (.var 5) (.int 21)) (.bi (.iop .shr .u32) (.var 5) (.int 11)))) (.bi (.iop .or .u32) (.bi (.iop .shl .u32) (.var 5) (.int 7)) (.bi (.iop .shr .u32) (.var 5) (.int 25))))) (.bi (.iop .xor .u32) (.bi (.iop .and .u32) (.var 5) (.var 6)) (.bi (.iop .and .u32) (.bi (.iop .xor .u32) (.int 4294967295) (.var 5)) (.var 7)))) (.bi .sel (.lits [1116352408, 1899447441, 3049323471, 3921009573, 961987163, 1508970993, 2453635748, 2870763221, 3624381080, 310598401, 607225278, 1426881987, 1925078388, 2162078206, 2614888103, 3248222580, 3835390401, 4022224774, 264347078, 604807628, 770255983, 1249150122, 1555081692, 1996064986, 2554220882, 2821834349, 2952996808, 3210313671, 3336571891, 3584528711, 113926993, 338241895, 666307205, 773529912, 1294757372, 1396182291, 1695183700, 1986661051, 2177026350, 2456956037, 2730485921, 2820302411, 3259730800, 3345764771, 3516065817, 3600352804, 4094571909, 275423344, 430227734, 506948616, 659060556, 883997877, 958139571, 1322822218, 1537002063, 1747873779, 1955562222, 2024104815, 2227730452, 2361852424, 2428436474, 2756734187, 3204031479, 3329325298]) (.var 0))) (.bi .sel (.var 9) (.var 0))))), (4, (.var 3)), (3, (.var 2)), (2, (.var 1)), (1, (.bi (.iop .add .u32) (.bi (.iop .add .u32) (.bi (.iop .add .u32) (.bi (.iop .add .u32) (.bi (.iop .add .u32) (.var 8) (.bi (.iop .xor .u32) (.bi (.iop .xor .u32) (.bi (.iop .or .u32) (.bi (.iop .shl .u32) (.var 5) (.int 26)) (.bi (.iop .shr .u32) (.var 5) (.int 6))) (.bi (.iop .or .u32) (.bi (.iop .shl .u32) (.var 5) (.int 21)) (.bi (.iop .shr .u32) (.var 5) (.int 11)))) (.bi (.iop .or .u32) (.bi (.iop .shl .u32) (.var 5) (.int 7)) (.bi (.iop .shr .u32) (.var 5) (.int 25))))) (.bi (.iop .xor .u32) (.bi (.iop .and .u32) (.var 5) (.var 6)) (.bi (.iop .and .u32) (.bi (.iop .xor .u32) (.int 4294967295) (.var 5)) (.var 7)))) (.bi .sel (.lits [1116352408, 1899447441, 3049323471, 3921009573, 961987163, 1508970993, 2453635748, 2870763221, 3624381080, 310598401, 607225278, 1426881987, 1925078388, 2162078206, 2614888103, 3248222580, 3835390401, 4022224774, 264347078, 604807628, 770255983, 1249150122, 1555081692, 1996064986, 2554220882, 2821834349, 2952996808, 3210313671, 3336571891, 3584528711, 113926993, 338241895, 666307205, 773529912, 1294757372, 1396182291, 1695183700, 1986661051, 2177026350, 2456956037, 2730485921, 2820302411, 3259730800, 3345764771, 3516065817, 3600352804, 4094571909, 275423344, 430227734, 506948616, 659060556, 883997877, 958139571, 1322822218, 1537002063, 1747873779, 1955562222, 2024104815, 2227730452, 2361852424, 2428436474, 2756734187, 3204031479, 3329325298]) (.var 0))) (.bi .sel (.var 9) (.var 0))) (.bi (.iop .add .u32) (.bi (.iop .xor .u32) (.bi (.iop .xor .u32) (.bi (.iop .or .u32) (.bi (.iop .shl .u32) (.var 1) (.int 30)) (.bi (.iop .shr .u32) (.var 1) (.int 2))) (.bi (.iop .or .u32) (.bi (.iop .shl .u32) (.var 1) (.int 19)) (.bi (.iop .shr .u32) (.var 1) (.int 13)))) (.bi (.iop .or .u32) (.bi (.iop .shl .u32) (.var 1) (.int 10)) (.bi (.iop .shr .u32) (.var 1) (.int 22)))) (.bi (.iop .xor .u32) (.bi (.iop .xor .u32) (.bi (.iop .and .u32) (.var 1) (.var 2)) (.bi (.iop .and .u32) (.var 1) (.var 3))) (.bi (.iop .and .u32) (.var 2) (.var 3)))))), (0, (.bi .add (.var 0) (.int 1)))]
def ro1 (d : Nat → D) : Nat := (64 - (d 0).toInt).toNat
def tN1 : List (Q × Bool) := [((.le (.int 64) (.var 0)), false),
  ((.le (.int 0) (.var 0)), true),
  ((.fit .i64 (.bi .add (.var 0) (.int 1))), true)]
def tE1 : List (Q × Bool) := [((.le (.int 64) (.var 0)), true)]
theorem yes1 : countYes Tryd.prog [] 3000 40 39 [4, 1, 0, 1, 1, 1] L1 th1 10 2 [(1, 1)] [(1, 1)] 1000 tN1 tE1 = true := by kernel_rfl

def F : Nat → D → D
  | 1 => loopF th0 2 ro0
  | 2 => loopF th1 10 ro1
  | _ => fun x => x

theorem holds0 : LHolds Tryd.prog (loopAt Tryd.prog 43 [4, 1, 0, 1, 1, 1]) L0 F := by
  refine count_loop_yes sound (tab := []) (fun e he => by cases he) yes0 rfl (fun d => by simp [ro0, truncD]) (fun Ω hf hp h0 => ?_) (fun Ω hf hp h0 => ?_)
  · have hp := allTold_iff.2 hp
    simp only [L0, allTold, and_true, Q.holds, E.i, E.n, D.nat, E.den, BO.den, UO.den, TO.den, D.toInt_int, D.toList_list, i64min, i64max] at hp
    simp only [ro0] at h0
    have hs : ((Ω.sub (lookE th0)).d 0).toInt = (Ω.d 0).toInt + 1 := rfl
    refine ⟨allTold_iff.1 ?_, allTold_iff.1 ?_, ?_⟩
    · simp only [tN0, allTold, and_true, Q.holds, E.i, E.n, D.nat, E.den, BO.den, UO.den, TO.den, D.toInt_int, D.toList_list, i64min, i64max]
      omega
    · simp only [L0, hs, allTold, and_true, Q.holds, E.i, E.n, D.nat, E.den, BO.den, UO.den, TO.den, D.toInt_int, D.toList_list, i64min, i64max]
      omega
    · simp only [ro0, hs]
      omega
  · have hp := allTold_iff.2 hp
    simp only [L0, allTold, and_true, Q.holds, E.i, E.n, D.nat, E.den, BO.den, UO.den, TO.den, D.toInt_int, D.toList_list, i64min, i64max] at hp
    simp only [ro0] at h0
    refine allTold_iff.1 ?_
    simp only [tE0, allTold, and_true, Q.holds, E.i, E.n, D.nat, E.den, BO.den, UO.den, TO.den, D.toInt_int, D.toList_list, i64min, i64max]
    omega

theorem holds1 : LHolds Tryd.prog (loopAt Tryd.prog 39 [4, 1, 0, 1, 1, 1]) L1 F := by
  refine count_loop_yes sound (tab := []) (fun e he => by cases he) yes1 rfl (fun d => by simp [ro1, truncD]) (fun Ω hf hp h0 => ?_) (fun Ω hf hp h0 => ?_)
  · have hp := allTold_iff.2 hp
    simp only [L1, allTold, and_true, Q.holds, E.i, E.n, D.nat, E.den, BO.den, UO.den, TO.den, D.toInt_int, D.toList_list, i64min, i64max] at hp
    simp only [ro1] at h0
    have hs : ((Ω.sub (lookE th1)).d 0).toInt = (Ω.d 0).toInt + 1 := rfl
    refine ⟨allTold_iff.1 ?_, allTold_iff.1 ?_, ?_⟩
    · simp only [tN1, allTold, and_true, Q.holds, E.i, E.n, D.nat, E.den, BO.den, UO.den, TO.den, D.toInt_int, D.toList_list, i64min, i64max]
      omega
    · simp only [L1, hs, allTold, and_true, Q.holds, E.i, E.n, D.nat, E.den, BO.den, UO.den, TO.den, D.toInt_int, D.toList_list, i64min, i64max]
      omega
    · simp only [ro1, hs]
      omega
  · have hp := allTold_iff.2 hp
    simp only [L1, allTold, and_true, Q.holds, E.i, E.n, D.nat, E.den, BO.den, UO.den, TO.den, D.toInt_int, D.toList_list, i64min, i64max] at hp
    simp only [ro1] at h0
    refine allTold_iff.1 ?_
    simp only [tE1, allTold, and_true, Q.holds, E.i, E.n, D.nat, E.den, BO.den, UO.den, TO.den, D.toInt_int, D.toList_list, i64min, i64max]
    omega

def loops : List LEntry := [⟨43, [4, 1, 0, 1, 1, 1], L0⟩, ⟨39, [4, 1, 0, 1, 1, 1], L1⟩]
theorem loops_ok : TableOK Tryd.prog loops F := by
  intro e he
  simp only [loops, List.mem_cons, List.not_mem_nil, or_false] at he
  rcases he with rfl | rfl
  · exact holds0
  · exact holds1
end Go.Proofs.YtblihpmmipfnkaaDoor.Lo
