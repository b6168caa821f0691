/- Lemmas on numbers, lists, parts of lists, for what contracts owe. No condition. -/
import Derived.Test.YtidpndnehbhloaaDoorSyov
set_option linter.unusedSimpArgs false
set_option linter.unusedVariables false
namespace Go.Ev
open Go.RowKit

theorem u8min : IntKind.u8.min = 0 := rfl
theorem u8max : IntKind.u8.max = 255 := rfl
theorem u16min : IntKind.u16.min = 0 := rfl
theorem u16max : IntKind.u16.max = 65535 := rfl
theorem u32min : IntKind.u32.min = 0 := rfl
theorem u32max : IntKind.u32.max = 4294967295 := rfl
theorem u64min : IntKind.u64.min = 0 := rfl
theorem u64max : IntKind.u64.max = 18446744073709551615 := rfl
theorem i32min : IntKind.i32.min = -2147483648 := rfl
theorem i32max : IntKind.i32.max = 2147483647 := rfl

theorem xor_in (k : IntKind) (x y : Int) : k.min ≤ iopI .xor k x y ∧ iopI .xor k x y ≤ k.max := wrap_in _ _
theorem selI (x : D) (j : Nat) : ((x.toList[j]?).getD (.int 0)).toInt = (x.ints[j]?).getD 0 := by
 simp only [D.ints, List.getElem?_map];cases x.toList[j]? <;> rfl
theorem ints_list (l : List D) : D.ints (.list l) = l.map D.toInt := rfl
theorem ints_app (x y : D) : D.ints (.list (x.toList ++ y.toList)) = x.ints ++ y.ints := by simp [D.ints]
theorem ints_cut (x : D) (a b : Nat) : D.ints (.list ((x.toList.take b).drop a)) = (x.ints.take b).drop a := by simp [D.ints, List.map_drop, List.map_take]
theorem ints_upd (x : D) (j : Nat) (v : D) : D.ints (.list (x.toList.set j v)) = x.ints.set j v.toInt := ints_set x j v
theorem ints_rep (n : Nat) (v : D) : D.ints (.list (List.replicate n v)) = List.replicate n v.toInt := by simp [D.ints]
theorem ints_splice (x z : D) (a : Nat) : D.ints (.list (x.toList.take a ++ z.toList ++ x.toList.drop (a + z.toList.length))) = x.ints.take a ++ z.ints ++ x.ints.drop (a + z.ints.length) := by simp [D.ints, List.map_drop, List.map_take]
def segI (l : List Int) (a n : Nat) : List Int := (List.range n).map fun j => (l[a + j]?).getD 0
theorem ints_seg (x : D) (a n : Nat) : D.ints (.list ((List.range n).map fun j => (x.toList[a + j]?).getD (.int 0))) = segI x.ints a n := by
 unfold segI;simp only [D.ints, D.toList_list, List.map_map];refine List.map_congr_left fun j _ => ?_
 simp only [Function.comp, List.getElem?_map];cases x.toList[a + j]? <;> rfl
theorem segI_all {l : List Int} {n : Nat} (h : l.length = n) : segI l 0 n = l := by
 unfold segI;refine List.ext_getElem? fun i => ?_
 rw [List.getElem?_map];simp only [Nat.zero_add];rcases Nat.lt_or_ge i n with hi | hi
 ·have hl : i < l.length := by omega
  rw [List.getElem?_range hi];simp [hl]
 ·rw [List.getElem?_eq_none (by simpa using hi), List.getElem?_eq_none (by omega)]; rfl
theorem len_ints (x : D) : x.toList.length = x.ints.length := by simp [D.ints]

def prt (x : List Int) (o t : Int) : List Int := (x.take t.toNat).drop o.toNat

theorem prt_step {x : List Int} {o t : Int} (h0 : 0 ≤ o) (h1 : o < t) (h2 : t ≤ x.length) : prt x o t = (x[o.toNat]?).getD 0 :: prt x (o + 1) t := by
 have hlt : o.toNat < (x.take t.toNat).length := by simp; omega
 unfold prt;rw [List.drop_eq_getElem_cons hlt, show (o + 1).toNat = o.toNat + 1 by omega];congr 1;rw [List.getElem_take, List.getElem?_eq_getElem (by omega)];rfl
theorem prt_nil {x : List Int} {o t : Int} (h : t ≤ o) (h0 : 0 ≤ o) : prt x o t = [] := by
 unfold prt;exact List.drop_eq_nil_of_le (by simp; omega)
theorem prt_all {x : List Int} {t : Int} (h : t = x.length) : prt x 0 t = x := by
 unfold prt;rw [h]; simp
theorem prt_length {x : List Int} {o t : Int} (h0 : 0 ≤ o) (h1 : o ≤ t) (h2 : t ≤ x.length) : ((prt x o t).length : Int) = t - o := by
 unfold prt
 simp
 omega
theorem prt_app {x : List Int} {o m t : Int} (h0 : 0 ≤ o) (h1 : o ≤ m) (h2 : m ≤ t) (h3 : t ≤ x.length) : prt x o t = prt x o m ++ prt x m t := by
 unfold prt;have e1 : (x.take m.toNat) = (x.take t.toNat).take m.toNat := by rw [List.take_take]; congr 1; omega
 rw [e1];generalize x.take t.toNat = y;rw [show y.drop o.toNat = (y.take m.toNat ++ y.drop m.toNat).drop o.toNat by rw [List.take_append_drop]];rw [List.drop_append];congr 1;rw [List.length_take];by_cases hy : m.toNat ≤ y.length
 ·rw [show o.toNat - min m.toNat y.length = 0 by omega, List.drop_zero]
 ·have : y.drop m.toNat = [] := List.drop_eq_nil_of_le (by omega);rw [this]; simp

theorem map_ints (x : D) : x.toList.map D.toInt = x.ints := rfl
theorem rem_emod {x y : Int} (k : IntKind) (h : 0 ≤ x) : iopI .rem k x y = x % y := Int.tmod_eq_emod_of_nonneg h

theorem tmod_or (k : IntKind) {x n : Int} (h : 1 ≤ n) : iopI .rem k x n = x % n ∨ iopI .rem k x n = x % n - n := by
 show x.tmod n = x % n ∨ x.tmod n = x % n - n;rw [Int.tmod_eq_emod];split
 ·left; omega
 ·right;have : (n.natAbs : Int) = n := by omega
  omega
theorem emod_in {x n : Int} (h : 1 ≤ n) : 0 ≤ x % n ∧ x % n < n := ⟨Int.emod_nonneg _ (by omega), Int.emod_lt_of_pos _ (by omega)⟩

theorem quo_ediv {x y : Int} (h : 0 ≤ x) (hy : 0 < y) (hx : x ≤ 9223372036854775807) : iopI .quo .i64 x y = x / y := by
 show IntKind.i64.wrap (x.tdiv y) = _;rw [Int.tdiv_eq_ediv_of_nonneg h, wrap_fit];simp only [i64min, i64max];have h1 := Int.ediv_nonneg h (by omega : 0 ≤ y);have h2 := Int.ediv_le_self y h;omega

end Go.Ev
