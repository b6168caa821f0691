/-
 The law PackHeads of the layer pack holds of the code: for all inputs the call returns true, and the arguments read as they did. No condition; the package variables that it reads are as the program's text lays them (the card ties them).
-/
import Derived.Test.YtidpndnehbhloaaDoorCo
import Derived.Test.YtidpndnehbhloaaDoorSycp
import Derived.Test.YtidpndnehbhloaaDoorSyvp
import Derived.Test.YtidpndnehbhloaaDoorQz
import Derived.Test.YtidpndnehbhloaaDoorP0
import Derived.Test.YtidpndnehbhloaaDoorPa
import Derived.Test.YtidpndnehbhloaaDoorPm
import Derived.Test.YtidpndnehbhloaaDoorPl
import Derived.Test.YtidpndnehbhloaaDoorPu
import Derived.Test.YtidpndnehbhloaaDoorPq
import Derived.Test.YtidpndnehbhloaaDoorPgo
import Derived.Test.YtidpndnehbhloaaDoorPb
import Derived.Test.YtidpndnehbhloaaDoorPbo
import Derived.Test.YtidpndnehbhloaaDoorPso
import Derived.Test.YtidpndnehbhloaaDoorYa
import Derived.Test.YtidpndnehbhloaaDoorPw
import Derived.Test.YtidpndnehbhloaaDoorCards
import Derived.Test.YtidpndnehbhloaaDoorTie
import Derived.SevenTiedAt
import Derived.WalkKit
import Derived.ProofKit
import Derived.OpenShut
set_option linter.unusedSimpArgs false
set_option linter.unusedVariables false
namespace Go.Proofs.YtidpndnehbhloaaDoor.packHeads
open Go.ChangeShapes Go.WideShapes Go.ChangeAt Go.RowKit Go.Ev Go.Proofs.YtidpndnehbhloaaDoor.Co Go.Proofs.YtidpndnehbhloaaDoor.Qz Go.Proofs.YtidpndnehbhloaaDoor.P0 Go.Proofs.YtidpndnehbhloaaDoor.Pa Go.Proofs.YtidpndnehbhloaaDoor.Pm Go.Proofs.YtidpndnehbhloaaDoor.Pl Go.Proofs.YtidpndnehbhloaaDoor.Pn Go.Proofs.YtidpndnehbhloaaDoor.Pt3 Go.Proofs.YtidpndnehbhloaaDoor.Ps4 Go.Proofs.YtidpndnehbhloaaDoor.Pu Go.Proofs.YtidpndnehbhloaaDoor.Puo Go.Proofs.YtidpndnehbhloaaDoor.Pq Go.Proofs.YtidpndnehbhloaaDoor.Pqo Go.Proofs.YtidpndnehbhloaaDoor.Pgo Go.Proofs.YtidpndnehbhloaaDoor.Pb Go.Proofs.YtidpndnehbhloaaDoor.Pbo Go.Proofs.YtidpndnehbhloaaDoor.Pso Go.Proofs.YtidpndnehbhloaaDoor.Pco Go.Proofs.YtidpndnehbhloaaDoor.Pdo Go.Proofs.YtidpndnehbhloaaDoor.Pto Go.Proofs.YtidpndnehbhloaaDoor.Yl Go.Proofs.YtidpndnehbhloaaDoor.Ya Go.Proofs.YtidpndnehbhloaaDoor.Yc Go.Proofs.YtidpndnehbhloaaDoor.Ys Go.Proofs.YtidpndnehbhloaaDoor.Yp Go.Proofs.YtidpndnehbhloaaDoor.Pw

def om (dv0 : D) (n1 : Int) (n2 : Int) : Om := ⟨fun _ => .bool false, fun i => if i = 0 then dv0 else if i = 10 then .int n1 else if i = 20 then .int n2 else .int 0, F⟩
theorem om_0 (dv0 : D) (n1 : Int) (n2 : Int) : (om dv0 n1 n2).d 0 = dv0 := rfl
theorem om_10 (dv0 : D) (n1 : Int) (n2 : Int) : (om dv0 n1 n2).d 10 = .int n1 := rfl
theorem om_20 (dv0 : D) (n1 : Int) (n2 : Int) : (om dv0 n1 n2).d 20 = .int n2 := rfl
theorem om_f (dv0 : D) (n1 : Int) (n2 : Int) : (om dv0 n1 n2).f = F := rfl
theorem lens_le : ∀ {l : List D} {B : Nat}, (∀ x ∈ l, x.toList.length ≤ B) → lensI l ≤ (l.length : Int) * (B : Int)
 | [], B, h => by simp [lensI]
 | x :: l, B, h => by
  have h1 := h x (by simp)
  have h2 := lens_le (l := l) (B := B) (fun y hy => h y (by simp [hy]))
  simp only [lensI, List.length_cons]
  rw [show ((l.length + 1 : Nat) : Int) * (B : Int) = (l.length : Int) * B + B by rw [Int.natCast_add, Int.add_mul]; simp]
  omega
theorem lens_max {d : D} (h : (Sh.sl (.sl (.int .u8))).lens 140737488351232 d) : lensI ((d.toList.take 21).drop 0) ≤ 21 * 140737488351232 := by
 simp only [Sh.lens] at h
 have := lens_le (l := (d.toList.take 21).drop 0) (B := 140737488351232) (fun x hx => (h.2 x (List.mem_of_mem_take (List.mem_of_mem_drop hx))).1)
 have hl : ((d.toList.take 21).drop 0).length ≤ 21 := by simp; omega
 omega
theorem lens_top {d : D} (h : (Sh.sl (.sl (.int .u8))).lens 140737488351232 d) : d.toList.length ≤ 140737488351232 := by
 simp only [Sh.lens] at h
 exact h.1
theorem head_in {n : Int} (hn : 0 ≤ n ∧ n ≤ 65535) : ∀ {k : Nat}, k < 6 → 0 ≤ ((headI n)[k]?).getD 0 ∧ ((headI n)[k]?).getD 0 ≤ 255
 | 0, _ => by show 0 ≤ n / 256 ∧ n / 256 ≤ 255; omega
 | 1, _ => by show 0 ≤ n % 256 ∧ n % 256 ≤ 255; omega
 | 2, _ => by show 0 ≤ 255 - n / 256 ∧ 255 - n / 256 ≤ 255; omega
 | 3, _ => by show 0 ≤ 255 - n % 256 ∧ 255 - n % 256 ≤ 255; omega
 | 4, _ => by have h : inK .u8 (IntKind.u8.wrap (gsumI (headL n))) := wrap_in .u8 _; simp only [inK, u8min, u8max] at h; exact h
 | 5, _ => by have h : inK .u8 (IntKind.u8.wrap (iopI .shr .u32 (gsumI (headL n)) 8)) := wrap_in .u8 _; simp only [inK, u8min, u8max] at h; exact h
 | k + 6, h => by omega
theorem recs_at {ds : List D} {w k : Nat} {x : D} (hw : ds[w]? = some x) (hk : k < 6) : ((recsI ds)[(recsI (ds.take w)).length + k]?).getD 0 = ((headI x.ints.length)[k]?).getD 0 := by
 rw [recs_split hw, List.getElem?_append_right (by omega), Nat.add_sub_cancel_left]
 unfold recI
 rw [List.append_assoc, List.getElem?_append_left (by rw [head_len]; exact hk)]
theorem ask_six {X id : List Int} {p n : Int} (h : sizeI (X.drop p.toNat) = 0) : askI X p n id = 6 := by
 unfold askI
 split
 ·rfl
 ·rw [if_pos (.inl h)]
theorem at_room {ds : List D} {w k : Nat} {x : D} (hw : ds[w]? = some x) (hk : k < 6) : (recsI (ds.take w)).length + k < (recsI ds).length := by
 have hr := rec_len (X := x.ints)
 rw [recs_split hw, List.length_append, List.length_append]
 omega
theorem upd_ofInts (l : List Int) (i : Nat) (v : Int) : (D.ofInts l).toList.set i (D.int v) = (D.ofInts (l.set i v)).toList := by
 show (l.map D.int).set i (D.int v) = (l.set i v).map D.int
 rw [List.map_set]
theorem list_ofInts (l : List Int) : D.list (D.ofInts l).toList = D.ofInts l := rfl

abbrev as0 : Q × Bool := ((.le (.un .len (.var 0)) (.int 1000000000000000)), true)
abbrev as1 : Q × Bool := ((.le (.fn 30 (.bi .pair (.var 0) (.bi .pair (.int 0) (.int 0)))) (.int 1000000000000000000)), true)
abbrev as2 : Q × Bool := ((.le (.un .len (.var 0)) (.int 20)), false)
def c_t0 : List (Q × Bool) := [as0, as1, as2]
set_option maxRecDepth 100000 in
theorem c_y0 : yesOf Tryd.prog (knownV (tellA c_t0) tabS specsS oversS) 8000 80 5 [.pv (.sl (.int .u8)) (.var 0), .sint .i64 (.var 10), .sint .i64 (.var 20)] (globSt g0) = true := by kernel_rfl
abbrev as3 : Q × Bool := ((.le (.un .len (.var 0)) (.int 20)), true)
abbrev as4 : Q × Bool := ((.le (.fn 30 (.bi .pair (.var 0) (.bi .pair (.int 0) (.int 0)))) (.int 4000)), false)
def c_t1 : List (Q × Bool) := [as0, as1, as3, as4]
set_option maxRecDepth 100000 in
theorem c_y1 : yesOf Tryd.prog (knownV (tellA c_t1) tabS specsS oversS) 8000 80 5 [.pv (.sl (.int .u8)) (.var 0), .sint .i64 (.var 10), .sint .i64 (.var 20)] (globSt g0) = true := by kernel_rfl
abbrev as5 : Q × Bool := ((.le (.fn 30 (.bi .pair (.var 0) (.bi .pair (.int 0) (.int 0)))) (.int 4000)), true)
abbrev as6 : Q × Bool := ((.eq (.fn 74 (.bi .pair (.var 0) (.bi .pair (.int 0) (.int 0)))) (.int 1)), false)
def c_t2 : List (Q × Bool) := [as0, as1, as3, as5, as6]
set_option maxRecDepth 100000 in
theorem c_y2 : yesOf Tryd.prog (knownV (tellA c_t2) tabS specsS oversS) 8000 80 5 [.pv (.sl (.int .u8)) (.var 0), .sint .i64 (.var 10), .sint .i64 (.var 20)] (globSt g0) = true := by kernel_rfl
abbrev as7 : Q × Bool := ((.eq (.fn 74 (.bi .pair (.var 0) (.bi .pair (.int 0) (.int 0)))) (.int 1)), true)
abbrev as8 : Q × Bool := ((.eq (.un .len (.var 0)) (.int 0)), true)
abbrev as9 : Q × Bool := ((.fit .i64 (.un .len (.var 0))), true)
def c_t3 : List (Q × Bool) := [as0, as1, as3, as5, as7, as8, as9]
set_option maxRecDepth 100000 in
theorem c_y3 : yesOf Tryd.prog (knownV (tellA c_t3) tabS specsS oversS) 8000 80 5 [.pv (.sl (.int .u8)) (.var 0), .sint .i64 (.var 10), .sint .i64 (.var 20)] (globSt g0) = true := by kernel_rfl
abbrev as10 : Q × Bool := ((.eq (.un .len (.var 0)) (.int 0)), false)
abbrev as11 : Q × Bool := ((.le (.int 1) (.un .len (.var 0))), true)
abbrev as12 : Q × Bool := ((.le (.int 0) (.fn 47 (.bi .pair (.var 10) (.bi .pair (.un .len (.var 0)) (.int 0))))), true)
abbrev as13 : Q × Bool := ((.le (.un .len (.var 0)) (.fn 47 (.bi .pair (.var 10) (.bi .pair (.un .len (.var 0)) (.int 0))))), false)
abbrev as14 : Q × Bool := ((.fit .i64 (.bi .add (.bi .sel (.bi .sel (.fn 73 (.bi .pair (.var 0) (.bi .pair (.int 0) (.bi .pair (.int 0) (.int 0))))) (.fn 47 (.bi .pair (.var 10) (.bi .pair (.un .len (.var 0)) (.int 0))))) (.int 1)) (.bi (.iop .quo .i64) (.fn 47 (.bi .pair (.var 20) (.bi .pair (.int 48) (.int 0)))) (.int 8)))), true)
abbrev as15 : Q × Bool := ((.le (.int 0) (.bi .add (.bi .sel (.bi .sel (.fn 73 (.bi .pair (.var 0) (.bi .pair (.int 0) (.bi .pair (.int 0) (.int 0))))) (.fn 47 (.bi .pair (.var 10) (.bi .pair (.un .len (.var 0)) (.int 0))))) (.int 1)) (.bi (.iop .quo .i64) (.fn 47 (.bi .pair (.var 20) (.bi .pair (.int 48) (.int 0)))) (.int 8)))), true)
abbrev as16 : Q × Bool := ((.le (.fn 78 (.bi .pair (.var 0) (.bi .pair (.int 0) (.int 0)))) (.bi .add (.bi .sel (.bi .sel (.fn 73 (.bi .pair (.var 0) (.bi .pair (.int 0) (.bi .pair (.int 0) (.int 0))))) (.fn 47 (.bi .pair (.var 10) (.bi .pair (.un .len (.var 0)) (.int 0))))) (.int 1)) (.bi (.iop .quo .i64) (.fn 47 (.bi .pair (.var 20) (.bi .pair (.int 48) (.int 0)))) (.int 8)))), false)
abbrev as17 : Q × Bool := ((.le (.int 0) (.bi (.iop .rem .i64) (.fn 47 (.bi .pair (.var 20) (.bi .pair (.int 48) (.int 0)))) (.int 8))), true)
abbrev as18 : Q × Bool := ((.le (.bi .add (.int 0) (.fn 78 (.bi .pair (.var 0) (.bi .pair (.int 0) (.int 0))))) (.fn 78 (.bi .pair (.var 0) (.bi .pair (.int 0) (.int 0))))), true)
abbrev as19 : Q × Bool := ((.le (.fn 78 (.bi .pair (.var 0) (.bi .pair (.int 0) (.int 0)))) (.int 1000000)), true)
abbrev as20 : Q × Bool := ((.eq (.fn 77 (.bi .pair (.tr .upd (.fn 71 (.bi .pair (.var 0) (.bi .pair (.int 0) (.int 0)))) (.bi .add (.bi .sel (.bi .sel (.fn 73 (.bi .pair (.var 0) (.bi .pair (.int 0) (.bi .pair (.int 0) (.int 0))))) (.fn 47 (.bi .pair (.var 10) (.bi .pair (.un .len (.var 0)) (.int 0))))) (.int 1)) (.bi (.iop .quo .i64) (.fn 47 (.bi .pair (.var 20) (.bi .pair (.int 48) (.int 0)))) (.int 8))) (.bi (.iop .xor .u8) (.bi .sel (.fn 71 (.bi .pair (.var 0) (.bi .pair (.int 0) (.int 0)))) (.bi .add (.bi .sel (.bi .sel (.fn 73 (.bi .pair (.var 0) (.bi .pair (.int 0) (.bi .pair (.int 0) (.int 0))))) (.fn 47 (.bi .pair (.var 10) (.bi .pair (.un .len (.var 0)) (.int 0))))) (.int 1)) (.bi (.iop .quo .i64) (.fn 47 (.bi .pair (.var 20) (.bi .pair (.int 48) (.int 0)))) (.int 8)))) (.bi (.iop .shl .u8) (.int 1) (.bi (.iop .rem .i64) (.fn 47 (.bi .pair (.var 20) (.bi .pair (.int 48) (.int 0)))) (.int 8))))) (.bi .pair (.int 0) (.bi .pair (.fn 78 (.bi .pair (.var 0) (.bi .pair (.int 0) (.int 0)))) (.bi .pair (.bi .sel (.bi .sel (.fn 73 (.bi .pair (.var 0) (.bi .pair (.int 0) (.bi .pair (.int 0) (.int 0))))) (.fn 47 (.bi .pair (.var 10) (.bi .pair (.un .len (.var 0)) (.int 0))))) (.int 1)) (.bi .pair (.bi .sel (.bi .sel (.fn 73 (.bi .pair (.var 0) (.bi .pair (.int 0) (.bi .pair (.int 0) (.int 0))))) (.fn 47 (.bi .pair (.var 10) (.bi .pair (.un .len (.var 0)) (.int 0))))) (.int 2)) (.bi .pair (.tr .seg (.bi .sel (.bi .sel (.fn 73 (.bi .pair (.var 0) (.bi .pair (.int 0) (.bi .pair (.int 0) (.int 0))))) (.fn 47 (.bi .pair (.var 10) (.bi .pair (.un .len (.var 0)) (.int 0))))) (.int 0)) (.int 0) (.int 16)) (.int 0)))))))) (.int 6)), true)
abbrev as21 : Q × Bool := ((.le (.fn 47 (.bi .pair (.var 10) (.bi .pair (.un .len (.var 0)) (.int 0)))) (.un .len (.var 0))), true)
abbrev as22 : Q × Bool := ((.le (.fn 78 (.bi .pair (.var 0) (.bi .pair (.int 0) (.int 0)))) (.int 20000)), true)
abbrev as23 : Q × Bool := ((.same (.un .code (.tr .upd (.fn 71 (.bi .pair (.var 0) (.bi .pair (.int 0) (.int 0)))) (.bi .add (.bi .sel (.bi .sel (.fn 73 (.bi .pair (.var 0) (.bi .pair (.int 0) (.bi .pair (.int 0) (.int 0))))) (.fn 47 (.bi .pair (.var 10) (.bi .pair (.un .len (.var 0)) (.int 0))))) (.int 1)) (.bi (.iop .quo .i64) (.fn 47 (.bi .pair (.var 20) (.bi .pair (.int 48) (.int 0)))) (.int 8))) (.bi (.iop .xor .u8) (.bi .sel (.fn 71 (.bi .pair (.var 0) (.bi .pair (.int 0) (.int 0)))) (.bi .add (.bi .sel (.bi .sel (.fn 73 (.bi .pair (.var 0) (.bi .pair (.int 0) (.bi .pair (.int 0) (.int 0))))) (.fn 47 (.bi .pair (.var 10) (.bi .pair (.un .len (.var 0)) (.int 0))))) (.int 1)) (.bi (.iop .quo .i64) (.fn 47 (.bi .pair (.var 20) (.bi .pair (.int 48) (.int 0)))) (.int 8)))) (.bi (.iop .shl .u8) (.int 1) (.bi (.iop .rem .i64) (.fn 47 (.bi .pair (.var 20) (.bi .pair (.int 48) (.int 0)))) (.int 8)))))) (.un .code (.fn 16 (.bi .pair (.int 56) (.bi .pair (.tr .upd (.fn 71 (.bi .pair (.var 0) (.bi .pair (.int 0) (.int 0)))) (.bi .add (.bi .sel (.bi .sel (.fn 73 (.bi .pair (.var 0) (.bi .pair (.int 0) (.bi .pair (.int 0) (.int 0))))) (.fn 47 (.bi .pair (.var 10) (.bi .pair (.un .len (.var 0)) (.int 0))))) (.int 1)) (.bi (.iop .quo .i64) (.fn 47 (.bi .pair (.var 20) (.bi .pair (.int 48) (.int 0)))) (.int 8))) (.bi (.iop .xor .u8) (.bi .sel (.fn 71 (.bi .pair (.var 0) (.bi .pair (.int 0) (.int 0)))) (.bi .add (.bi .sel (.bi .sel (.fn 73 (.bi .pair (.var 0) (.bi .pair (.int 0) (.bi .pair (.int 0) (.int 0))))) (.fn 47 (.bi .pair (.var 10) (.bi .pair (.un .len (.var 0)) (.int 0))))) (.int 1)) (.bi (.iop .quo .i64) (.fn 47 (.bi .pair (.var 20) (.bi .pair (.int 48) (.int 0)))) (.int 8)))) (.bi (.iop .shl .u8) (.int 1) (.bi (.iop .rem .i64) (.fn 47 (.bi .pair (.var 20) (.bi .pair (.int 48) (.int 0)))) (.int 8))))) (.int 0)))))), true)
abbrev as24 : Q × Bool := ((.eq (.fn 68 (.bi .pair (.tr .upd (.fn 71 (.bi .pair (.var 0) (.bi .pair (.int 0) (.int 0)))) (.bi .add (.bi .sel (.bi .sel (.fn 73 (.bi .pair (.var 0) (.bi .pair (.int 0) (.bi .pair (.int 0) (.int 0))))) (.fn 47 (.bi .pair (.var 10) (.bi .pair (.un .len (.var 0)) (.int 0))))) (.int 1)) (.bi (.iop .quo .i64) (.fn 47 (.bi .pair (.var 20) (.bi .pair (.int 48) (.int 0)))) (.int 8))) (.bi (.iop .xor .u8) (.bi .sel (.fn 71 (.bi .pair (.var 0) (.bi .pair (.int 0) (.int 0)))) (.bi .add (.bi .sel (.bi .sel (.fn 73 (.bi .pair (.var 0) (.bi .pair (.int 0) (.bi .pair (.int 0) (.int 0))))) (.fn 47 (.bi .pair (.var 10) (.bi .pair (.un .len (.var 0)) (.int 0))))) (.int 1)) (.bi (.iop .quo .i64) (.fn 47 (.bi .pair (.var 20) (.bi .pair (.int 48) (.int 0)))) (.int 8)))) (.bi (.iop .shl .u8) (.int 1) (.bi (.iop .rem .i64) (.fn 47 (.bi .pair (.var 20) (.bi .pair (.int 48) (.int 0)))) (.int 8))))) (.bi .pair (.int 0) (.bi .pair (.fn 78 (.bi .pair (.var 0) (.bi .pair (.int 0) (.int 0)))) (.bi .pair (.int 0) (.int 0)))))) (.int 0)), false)
abbrev as25 : Q × Bool := ((.le (.int 1) (.un .len (.fn 65 (.bi .pair (.tr .upd (.fn 71 (.bi .pair (.var 0) (.bi .pair (.int 0) (.int 0)))) (.bi .add (.bi .sel (.bi .sel (.fn 73 (.bi .pair (.var 0) (.bi .pair (.int 0) (.bi .pair (.int 0) (.int 0))))) (.fn 47 (.bi .pair (.var 10) (.bi .pair (.un .len (.var 0)) (.int 0))))) (.int 1)) (.bi (.iop .quo .i64) (.fn 47 (.bi .pair (.var 20) (.bi .pair (.int 48) (.int 0)))) (.int 8))) (.bi (.iop .xor .u8) (.bi .sel (.fn 71 (.bi .pair (.var 0) (.bi .pair (.int 0) (.int 0)))) (.bi .add (.bi .sel (.bi .sel (.fn 73 (.bi .pair (.var 0) (.bi .pair (.int 0) (.bi .pair (.int 0) (.int 0))))) (.fn 47 (.bi .pair (.var 10) (.bi .pair (.un .len (.var 0)) (.int 0))))) (.int 1)) (.bi (.iop .quo .i64) (.fn 47 (.bi .pair (.var 20) (.bi .pair (.int 48) (.int 0)))) (.int 8)))) (.bi (.iop .shl .u8) (.int 1) (.bi (.iop .rem .i64) (.fn 47 (.bi .pair (.var 20) (.bi .pair (.int 48) (.int 0)))) (.int 8))))) (.bi .pair (.int 0) (.bi .pair (.fn 78 (.bi .pair (.var 0) (.bi .pair (.int 0) (.int 0)))) (.bi .pair (.int 0) (.int 0)))))))), false)
abbrev as26 : Q × Bool := ((.fit .i64 (.fn 47 (.bi .pair (.var 10) (.bi .pair (.un .len (.var 0)) (.int 0))))), true)
abbrev as27 : Q × Bool := ((.eq (.int 0) (.fn 47 (.bi .pair (.var 10) (.bi .pair (.un .len (.var 0)) (.int 0))))), true)
abbrev as28 : Q × Bool := ((.eq (.fn 66 (.bi .pair (.tr .upd (.fn 71 (.bi .pair (.var 0) (.bi .pair (.int 0) (.int 0)))) (.bi .add (.bi .sel (.bi .sel (.fn 73 (.bi .pair (.var 0) (.bi .pair (.int 0) (.bi .pair (.int 0) (.int 0))))) (.fn 47 (.bi .pair (.var 10) (.bi .pair (.un .len (.var 0)) (.int 0))))) (.int 1)) (.bi (.iop .quo .i64) (.fn 47 (.bi .pair (.var 20) (.bi .pair (.int 48) (.int 0)))) (.int 8))) (.bi (.iop .xor .u8) (.bi .sel (.fn 71 (.bi .pair (.var 0) (.bi .pair (.int 0) (.int 0)))) (.bi .add (.bi .sel (.bi .sel (.fn 73 (.bi .pair (.var 0) (.bi .pair (.int 0) (.bi .pair (.int 0) (.int 0))))) (.fn 47 (.bi .pair (.var 10) (.bi .pair (.un .len (.var 0)) (.int 0))))) (.int 1)) (.bi (.iop .quo .i64) (.fn 47 (.bi .pair (.var 20) (.bi .pair (.int 48) (.int 0)))) (.int 8)))) (.bi (.iop .shl .u8) (.int 1) (.bi (.iop .rem .i64) (.fn 47 (.bi .pair (.var 20) (.bi .pair (.int 48) (.int 0)))) (.int 8))))) (.bi .pair (.int 0) (.bi .pair (.fn 78 (.bi .pair (.var 0) (.bi .pair (.int 0) (.int 0)))) (.bi .pair (.int 0) (.int 0)))))) (.bi .sel (.bi .sel (.fn 73 (.bi .pair (.var 0) (.bi .pair (.int 0) (.bi .pair (.int 0) (.int 0))))) (.fn 47 (.bi .pair (.var 10) (.bi .pair (.un .len (.var 0)) (.int 0))))) (.int 1))), true)
abbrev as29 : Q × Bool := ((.eq (.fn 67 (.bi .pair (.tr .upd (.fn 71 (.bi .pair (.var 0) (.bi .pair (.int 0) (.int 0)))) (.bi .add (.bi .sel (.bi .sel (.fn 73 (.bi .pair (.var 0) (.bi .pair (.int 0) (.bi .pair (.int 0) (.int 0))))) (.fn 47 (.bi .pair (.var 10) (.bi .pair (.un .len (.var 0)) (.int 0))))) (.int 1)) (.bi (.iop .quo .i64) (.fn 47 (.bi .pair (.var 20) (.bi .pair (.int 48) (.int 0)))) (.int 8))) (.bi (.iop .xor .u8) (.bi .sel (.fn 71 (.bi .pair (.var 0) (.bi .pair (.int 0) (.int 0)))) (.bi .add (.bi .sel (.bi .sel (.fn 73 (.bi .pair (.var 0) (.bi .pair (.int 0) (.bi .pair (.int 0) (.int 0))))) (.fn 47 (.bi .pair (.var 10) (.bi .pair (.un .len (.var 0)) (.int 0))))) (.int 1)) (.bi (.iop .quo .i64) (.fn 47 (.bi .pair (.var 20) (.bi .pair (.int 48) (.int 0)))) (.int 8)))) (.bi (.iop .shl .u8) (.int 1) (.bi (.iop .rem .i64) (.fn 47 (.bi .pair (.var 20) (.bi .pair (.int 48) (.int 0)))) (.int 8))))) (.bi .pair (.int 0) (.bi .pair (.fn 78 (.bi .pair (.var 0) (.bi .pair (.int 0) (.int 0)))) (.bi .pair (.int 0) (.int 0)))))) (.int 0)), true)
abbrev as30 : Q × Bool := ((.eq (.fn 79 (.bi .pair (.tr .upd (.fn 71 (.bi .pair (.var 0) (.bi .pair (.int 0) (.int 0)))) (.bi .add (.bi .sel (.bi .sel (.fn 73 (.bi .pair (.var 0) (.bi .pair (.int 0) (.bi .pair (.int 0) (.int 0))))) (.fn 47 (.bi .pair (.var 10) (.bi .pair (.un .len (.var 0)) (.int 0))))) (.int 1)) (.bi (.iop .quo .i64) (.fn 47 (.bi .pair (.var 20) (.bi .pair (.int 48) (.int 0)))) (.int 8))) (.bi (.iop .xor .u8) (.bi .sel (.fn 71 (.bi .pair (.var 0) (.bi .pair (.int 0) (.int 0)))) (.bi .add (.bi .sel (.bi .sel (.fn 73 (.bi .pair (.var 0) (.bi .pair (.int 0) (.bi .pair (.int 0) (.int 0))))) (.fn 47 (.bi .pair (.var 10) (.bi .pair (.un .len (.var 0)) (.int 0))))) (.int 1)) (.bi (.iop .quo .i64) (.fn 47 (.bi .pair (.var 20) (.bi .pair (.int 48) (.int 0)))) (.int 8)))) (.bi (.iop .shl .u8) (.int 1) (.bi (.iop .rem .i64) (.fn 47 (.bi .pair (.var 20) (.bi .pair (.int 48) (.int 0)))) (.int 8))))) (.bi .pair (.int 0) (.bi .pair (.fn 78 (.bi .pair (.var 0) (.bi .pair (.int 0) (.int 0)))) (.bi .pair (.int 0) (.int 0)))))) (.int 2)), true)
def c_t4 : List (Q × Bool) := [as0, as1, as3, as5, as7, as10, as11, as9, as12, as13, as14, as15, as16, as17, as18, as19, as20, as21, as22, as23, as24, as25, as26, as27, as28, as29, as30]
set_option maxRecDepth 100000 in
theorem c_y4 : yesOf Tryd.prog (knownV (tellA c_t4) tabS specsS oversS) 8000 80 5 [.pv (.sl (.int .u8)) (.var 0), .sint .i64 (.var 10), .sint .i64 (.var 20)] (globSt g0) = true := by kernel_rfl
abbrev as31 : Q × Bool := ((.le (.int 1) (.un .len (.fn 65 (.bi .pair (.tr .upd (.fn 71 (.bi .pair (.var 0) (.bi .pair (.int 0) (.int 0)))) (.bi .add (.bi .sel (.bi .sel (.fn 73 (.bi .pair (.var 0) (.bi .pair (.int 0) (.bi .pair (.int 0) (.int 0))))) (.fn 47 (.bi .pair (.var 10) (.bi .pair (.un .len (.var 0)) (.int 0))))) (.int 1)) (.bi (.iop .quo .i64) (.fn 47 (.bi .pair (.var 20) (.bi .pair (.int 48) (.int 0)))) (.int 8))) (.bi (.iop .xor .u8) (.bi .sel (.fn 71 (.bi .pair (.var 0) (.bi .pair (.int 0) (.int 0)))) (.bi .add (.bi .sel (.bi .sel (.fn 73 (.bi .pair (.var 0) (.bi .pair (.int 0) (.bi .pair (.int 0) (.int 0))))) (.fn 47 (.bi .pair (.var 10) (.bi .pair (.un .len (.var 0)) (.int 0))))) (.int 1)) (.bi (.iop .quo .i64) (.fn 47 (.bi .pair (.var 20) (.bi .pair (.int 48) (.int 0)))) (.int 8)))) (.bi (.iop .shl .u8) (.int 1) (.bi (.iop .rem .i64) (.fn 47 (.bi .pair (.var 20) (.bi .pair (.int 48) (.int 0)))) (.int 8))))) (.bi .pair (.int 0) (.bi .pair (.fn 78 (.bi .pair (.var 0) (.bi .pair (.int 0) (.int 0)))) (.bi .pair (.int 0) (.int 0)))))))), true)
abbrev as32 : Q × Bool := ((.eq (.fn 47 (.bi .pair (.var 10) (.bi .pair (.un .len (.var 0)) (.int 0)))) (.un .len (.fn 65 (.bi .pair (.tr .upd (.fn 71 (.bi .pair (.var 0) (.bi .pair (.int 0) (.int 0)))) (.bi .add (.bi .sel (.bi .sel (.fn 73 (.bi .pair (.var 0) (.bi .pair (.int 0) (.bi .pair (.int 0) (.int 0))))) (.fn 47 (.bi .pair (.var 10) (.bi .pair (.un .len (.var 0)) (.int 0))))) (.int 1)) (.bi (.iop .quo .i64) (.fn 47 (.bi .pair (.var 20) (.bi .pair (.int 48) (.int 0)))) (.int 8))) (.bi (.iop .xor .u8) (.bi .sel (.fn 71 (.bi .pair (.var 0) (.bi .pair (.int 0) (.int 0)))) (.bi .add (.bi .sel (.bi .sel (.fn 73 (.bi .pair (.var 0) (.bi .pair (.int 0) (.bi .pair (.int 0) (.int 0))))) (.fn 47 (.bi .pair (.var 10) (.bi .pair (.un .len (.var 0)) (.int 0))))) (.int 1)) (.bi (.iop .quo .i64) (.fn 47 (.bi .pair (.var 20) (.bi .pair (.int 48) (.int 0)))) (.int 8)))) (.bi (.iop .shl .u8) (.int 1) (.bi (.iop .rem .i64) (.fn 47 (.bi .pair (.var 20) (.bi .pair (.int 48) (.int 0)))) (.int 8))))) (.bi .pair (.int 0) (.bi .pair (.fn 78 (.bi .pair (.var 0) (.bi .pair (.int 0) (.int 0)))) (.bi .pair (.int 0) (.int 0)))))))), true)
abbrev as33 : Q × Bool := ((.le (.un .len (.fn 65 (.bi .pair (.tr .upd (.fn 71 (.bi .pair (.var 0) (.bi .pair (.int 0) (.int 0)))) (.bi .add (.bi .sel (.bi .sel (.fn 73 (.bi .pair (.var 0) (.bi .pair (.int 0) (.bi .pair (.int 0) (.int 0))))) (.fn 47 (.bi .pair (.var 10) (.bi .pair (.un .len (.var 0)) (.int 0))))) (.int 1)) (.bi (.iop .quo .i64) (.fn 47 (.bi .pair (.var 20) (.bi .pair (.int 48) (.int 0)))) (.int 8))) (.bi (.iop .xor .u8) (.bi .sel (.fn 71 (.bi .pair (.var 0) (.bi .pair (.int 0) (.int 0)))) (.bi .add (.bi .sel (.bi .sel (.fn 73 (.bi .pair (.var 0) (.bi .pair (.int 0) (.bi .pair (.int 0) (.int 0))))) (.fn 47 (.bi .pair (.var 10) (.bi .pair (.un .len (.var 0)) (.int 0))))) (.int 1)) (.bi (.iop .quo .i64) (.fn 47 (.bi .pair (.var 20) (.bi .pair (.int 48) (.int 0)))) (.int 8)))) (.bi (.iop .shl .u8) (.int 1) (.bi (.iop .rem .i64) (.fn 47 (.bi .pair (.var 20) (.bi .pair (.int 48) (.int 0)))) (.int 8))))) (.bi .pair (.int 0) (.bi .pair (.fn 78 (.bi .pair (.var 0) (.bi .pair (.int 0) (.int 0)))) (.bi .pair (.int 0) (.int 0))))))) (.un .len (.var 0))), true)
abbrev as34 : Q × Bool := ((.le (.un .len (.var 0)) (.int 100000)), true)
abbrev as35 : Q × Bool := ((.same (.un .code (.tr .cut (.fn 73 (.bi .pair (.var 0) (.bi .pair (.int 0) (.bi .pair (.int 0) (.int 0))))) (.int 0) (.un .len (.fn 65 (.bi .pair (.tr .upd (.fn 71 (.bi .pair (.var 0) (.bi .pair (.int 0) (.int 0)))) (.bi .add (.bi .sel (.bi .sel (.fn 73 (.bi .pair (.var 0) (.bi .pair (.int 0) (.bi .pair (.int 0) (.int 0))))) (.fn 47 (.bi .pair (.var 10) (.bi .pair (.un .len (.var 0)) (.int 0))))) (.int 1)) (.bi (.iop .quo .i64) (.fn 47 (.bi .pair (.var 20) (.bi .pair (.int 48) (.int 0)))) (.int 8))) (.bi (.iop .xor .u8) (.bi .sel (.fn 71 (.bi .pair (.var 0) (.bi .pair (.int 0) (.int 0)))) (.bi .add (.bi .sel (.bi .sel (.fn 73 (.bi .pair (.var 0) (.bi .pair (.int 0) (.bi .pair (.int 0) (.int 0))))) (.fn 47 (.bi .pair (.var 10) (.bi .pair (.un .len (.var 0)) (.int 0))))) (.int 1)) (.bi (.iop .quo .i64) (.fn 47 (.bi .pair (.var 20) (.bi .pair (.int 48) (.int 0)))) (.int 8)))) (.bi (.iop .shl .u8) (.int 1) (.bi (.iop .rem .i64) (.fn 47 (.bi .pair (.var 20) (.bi .pair (.int 48) (.int 0)))) (.int 8))))) (.bi .pair (.int 0) (.bi .pair (.fn 78 (.bi .pair (.var 0) (.bi .pair (.int 0) (.int 0)))) (.bi .pair (.int 0) (.int 0))))))))) (.un .code (.bi .app (.fn 65 (.bi .pair (.tr .upd (.fn 71 (.bi .pair (.var 0) (.bi .pair (.int 0) (.int 0)))) (.bi .add (.bi .sel (.bi .sel (.fn 73 (.bi .pair (.var 0) (.bi .pair (.int 0) (.bi .pair (.int 0) (.int 0))))) (.fn 47 (.bi .pair (.var 10) (.bi .pair (.un .len (.var 0)) (.int 0))))) (.int 1)) (.bi (.iop .quo .i64) (.fn 47 (.bi .pair (.var 20) (.bi .pair (.int 48) (.int 0)))) (.int 8))) (.bi (.iop .xor .u8) (.bi .sel (.fn 71 (.bi .pair (.var 0) (.bi .pair (.int 0) (.int 0)))) (.bi .add (.bi .sel (.bi .sel (.fn 73 (.bi .pair (.var 0) (.bi .pair (.int 0) (.bi .pair (.int 0) (.int 0))))) (.fn 47 (.bi .pair (.var 10) (.bi .pair (.un .len (.var 0)) (.int 0))))) (.int 1)) (.bi (.iop .quo .i64) (.fn 47 (.bi .pair (.var 20) (.bi .pair (.int 48) (.int 0)))) (.int 8)))) (.bi (.iop .shl .u8) (.int 1) (.bi (.iop .rem .i64) (.fn 47 (.bi .pair (.var 20) (.bi .pair (.int 48) (.int 0)))) (.int 8))))) (.bi .pair (.int 0) (.bi .pair (.fn 78 (.bi .pair (.var 0) (.bi .pair (.int 0) (.int 0)))) (.bi .pair (.int 0) (.int 0)))))) (.lits [])))), true)
def c_t5 : List (Q × Bool) := [as0, as1, as3, as5, as7, as10, as11, as9, as12, as13, as14, as15, as16, as17, as18, as19, as20, as21, as22, as23, as24, as31, as32, as33, as34, as35, as28, as29, as30]
set_option maxRecDepth 100000 in
theorem c_y5 : yesOf Tryd.prog (knownV (tellA c_t5) tabS specsS oversS) 8000 80 5 [.pv (.sl (.int .u8)) (.var 0), .sint .i64 (.var 10), .sint .i64 (.var 20)] (globSt g0) = true := by kernel_rfl
set_option maxRecDepth 100000 in
set_option maxHeartbeats 6000000 in
theorem c_walk {W : World} {v0 : Value} {dv0 : D} (hv0 : PC (poolW W) (.sl (.sl (.int .u8))) dv0 [v0]) (hl0 : (Sh.sl (.sl (.int .u8))).lens 140737488351232 dv0) {n1 : Int} (hn1 : inK .i64 n1) {n2 : Int} (hn2 : inK .i64 n2) (hG : GlobsR (om dv0 n1 n2) W g0) : Calls Tryd.prog 5 #[v0, .int .i64 n1, .int .i64 n2] W fun e w' => e = .returned (.bool true) ∧ Below W.heap.size W w' := by
 have r0 := Rel.globs (om dv0 n1 n2) W g0 hG
 have x0 : VR (Env.none (om dv0 n1 n2) W) (.pv (.sl (.int .u8)) (.var 0)) v0 := vr_val hv0 rfl
 have ok0 := PC.ok _ _ _ hv0
 have hargs : VRs (Env.none (om dv0 n1 n2) W) [.pv (.sl (.int .u8)) (.var 0), .sint .i64 (.var 10), .sint .i64 (.var 20)] [v0, .int .i64 n1, .int .i64 n2] := VRs_cons (x0) (VRs_cons (vr_sint (i := 10) hn1 (by rw [r0.opq]; rfl)) (VRs_cons (vr_sint (i := 20) hn2 (by rw [r0.opq]; rfl)) (VRs_nil)))
 simp only [inK, i64min, i64max, u8min, u8max, u32min, u32max, u64min, u64max] at hn1
 simp only [inK, i64min, i64max, u8min, u8max, u32min, u32max, u64min, u64max] at hn2
 have g0 : dv0.ints.length = dv0.toList.length := (len_ints _).symm
 have h1 := lens_top hl0
 have h2 := lens_max hl0
 have h3 := lens_nn ((dv0.toList.take 21).drop 0)
 by_cases h : 20 < dv0.toList.length
 ·refine calls_of_yesV sound tabS_ok specsS_ok oversS_ok c_y0 rfl (tellA_ok (allTold'_iff.1 ?_)) r0 hargs
  simp only [c_t0, om_0, om_10, om_20, om_f, F30, Int.toNat_zero, tl]
  omega
 ·by_cases h4 : 4000 < lensI ((dv0.toList.take 21).drop 0)
  ·refine calls_of_yesV sound tabS_ok specsS_ok oversS_ok c_y1 rfl (tellA_ok (allTold'_iff.1 ?_)) r0 hargs
   simp only [c_t1, om_0, om_10, om_20, om_f, F30, Int.toNat_zero, tl]
   omega
  ·by_cases hz : dv0.toList.length = 0
   ·have e0 : dv0.toList = [] := List.eq_nil_of_length_eq_zero hz
    have ef : fitI (dv0.toList.drop 0) = 1 := by rw [e0]; exact fit_iff.2 fit_nil
    refine calls_of_yesV sound tabS_ok specsS_ok oversS_ok c_y3 rfl (tellA_ok (allTold'_iff.1 ?_)) r0 hargs
    simp only [c_t3, om_0, om_10, om_20, om_f, F30, F74, Int.toNat_zero, tl]
    omega
   ·have hd21 : (dv0.toList.take 21).drop 0 = dv0.toList.drop 0 := by rw [List.take_of_length_le (by omega)]
    by_cases hf : fitI (dv0.toList.drop 0) = 1
    ·have hfp := fit_iff.1 hf
     rw [List.drop_zero] at hfp
     have hw0 := Int.emod_nonneg n1 (show (dv0.ints.length : Int) ≠ 0 by omega)
     have hw1 := Int.emod_lt_of_pos n1 (show (0 : Int) < dv0.ints.length by omega)
     obtain ⟨w, hw⟩ := Int.eq_ofNat_of_zero_le hw0
     have hwl : w < dv0.toList.length := by omega
     obtain ⟨x, hx⟩ : ∃ x, dv0.toList[w]? = some x := ⟨_, List.getElem?_eq_getElem hwl⟩
     have hxf := hfp x (List.mem_of_getElem? hx)
     have hb0 := Int.emod_nonneg n2 (show (48 : Int) ≠ 0 by omega)
     have hb1 := Int.emod_lt_of_pos n2 (show (0 : Int) < 48 by omega)
     generalize hB : n2 % 48 = bt at *
     have hq := quo_ediv (x := bt) (y := 8) hb0 (by omega) (by omega)
     have hr := rem_emod (x := bt) (y := 8) .i64 hb0
     obtain ⟨k, hk⟩ := Int.eq_ofNat_of_zero_le (show 0 ≤ bt / 8 by omega)
     have hk6 : k < 6 := by omega
     have hR := recs_len dv0.toList
     have hroom := at_room hx hk6
     have hre := recs_at hx hk6
     have e0 : x.ints.length = x.toList.length := (len_ints x).symm
     have hin := head_in (n := x.ints.length) (by omega) hk6
     have hv := bit_turned (b := ((headI x.ints.length)[k]?).getD 0) (j := bt % 8) hin (by omega)
     have hT := turned_head hfp hx hk6 hv
     have hH := helds_get (p := 0) hx
     have hHl := helds_len (dv0.toList.take w) 0
     have hHt := helds_take dv0.toList 0 w
     have htl : (dv0.toList.take w).length = w := by rw [List.length_take]; omega
     generalize hst : (recsI (dv0.toList.take w)).length = st at *
     generalize hV : iopI .xor .u8 (((headI x.ints.length)[k]?).getD 0) (iopI .shl .u8 1 (bt % 8)) = v at *
     have hXl : (((recsI dv0.toList).set (st + k) v).length : Int) = lensI dv0.toList + 26 * dv0.ints.length := by rw [List.length_set, hR, g0]
     have hpX : prt ((recsI dv0.toList).set (st + k) v) 0 (0 + (lensI dv0.toList + 26 * (dv0.ints.length : Int))) = (recsI dv0.toList).set (st + k) v := by rw [Int.zero_add]; exact prt_all (by omega)
     have hg : (heldsI 0 dv0.toList)[w]?.getD (D.int 0) = D.list [D.ofInts (idI x.ints), .int (st : Int), .int x.toList.length] := by rw [hH, Int.zero_add]; rfl
     have i1 : ∀ a b c : D, [a, b, c][Int.toNat 1]?.getD (D.int 0) = b := fun _ _ _ => rfl
     have i2 : ∀ a b c : D, [a, b, c][Int.toNat 2]?.getD (D.int 0) = c := fun _ _ _ => rfl
     have hidx : ((st : Int) + (k : Int)).toNat = st + k := by omega
     have hask : ∀ n id, askI ((recsI dv0.toList).set (st + k) v) (st : Int) n id = 6 := fun n id => ask_six (by rw [Int.toNat_natCast]; exact hT.2)
     have hT1 := hT.1
     rw [List.drop_zero] at hf
     have hS : (dv0.toList.take 21).drop 0 = dv0.toList := by rw [hd21, List.drop_zero]
     rw [hS] at h4 h2
     by_cases hz0 : w = 0
     ·refine calls_of_yesV sound tabS_ok specsS_ok oversS_ok c_y4 rfl (tellA_ok (allTold'_iff.1 ?_)) r0 hargs
      simp only [c_t4, om_0, om_10, om_20, om_f, F30, F47, F65, F66, F67, F68, F71, F73, F74, F77, F78, F79, F16, List.drop_zero, hS, hB, hw, hq, hr, hk, hg, i1, i2, D.toInt_int, Int.toNat_zero, Int.toNat_natCast, hidx, hre, hV, hpX, hask, hT1, hHl, htl, tl]
      and_intros <;> first | exact True.intro | omega | rfl | (rw [upd_ofInts, list_ofInts, show ((56 - (56 : Int)) % 64).toNat = 0 from rfl, List.replicate_zero, List.append_nil]) | (rw [hHt, show (D.ofInts []).toList = [] from rfl, List.append_nil])
     ·refine calls_of_yesV sound tabS_ok specsS_ok oversS_ok c_y5 rfl (tellA_ok (allTold'_iff.1 ?_)) r0 hargs
      simp only [c_t5, om_0, om_10, om_20, om_f, F30, F47, F65, F66, F67, F68, F71, F73, F74, F77, F78, F79, F16, List.drop_zero, hS, hB, hw, hq, hr, hk, hg, i1, i2, D.toInt_int, Int.toNat_zero, Int.toNat_natCast, hidx, hre, hV, hpX, hask, hT1, hHl, htl, tl]
      and_intros <;> first | exact True.intro | omega | rfl | (rw [upd_ofInts, list_ofInts, show ((56 - (56 : Int)) % 64).toNat = 0 from rfl, List.replicate_zero, List.append_nil]) | (rw [hHt, show (D.ofInts []).toList = [] from rfl, List.append_nil])
    ·refine calls_of_yesV sound tabS_ok specsS_ok oversS_ok c_y2 rfl (tellA_ok (allTold'_iff.1 ?_)) r0 hargs
     simp only [c_t2, om_0, om_10, om_20, om_f, F30, F74, Int.toNat_zero, tl]
     omega

theorem underI3 : Tryd.prog.underlying 3 = some (.int .i64) := by kernel_rfl
theorem shape22 : (Sh.sl (.sl (.int .u8))).is Tryd.prog 22 = true := by kernel_rfl

set_option maxRecDepth 100000 in
theorem lifted (os : Os) (started : os.Started) (H : Type) (enc : TypeId × Value → H) :
  ReturnsInHanded {} Tryd.checked os 5 .any (fun w args => (Rows.packHeadsSpec.pre enc Tryd.prog Tryd.f5 [] false w args ∧ laidMetH Tryd.prog laidL w) ∧ sizedMet enc Tryd.prog Tryd.f5 (OpenSpec.ofChange Rows.packHeadsSpec) false w args)
   (Rows.packHeadsSpec.post enc Tryd.prog Tryd.f5 false true false false) := by
 refine returnsInHanded_of_change_and (C := Tryd.checked) (X := fun w _ => laidMetH Tryd.prog laidL w) (fun _ _ _ hh h => h.of_heap hh) own started (by kernel_rfl) Tryd.func5
  (ChangeSpec.witness_shaped (enc := enc) (C := Tryd.checked) (os := os) (X := fun w _ => laidMetH Tryd.prog laidL w) false (World.doorLaid Tryd.prog 400 os) #[.slice none 0 0, .int .i64 0, .int .i64 0] 8 rfl (World.shaped_of_RefB (by kernel_rfl) (by kernel_rfl)) (by kernel_rfl) (by kernel_rfl) (by kernel_rfl) (door_met os _)) ?_
 intro W base args ds gs before hval0 hW _ hZ hL _
 have hval : ∀ (j : Nat) t v, Tryd.f5.params[j]? = some t → args[j]? = some v → Value.okWide Tryd.prog W .any base t v := hval0
 have hW' := hW
 have hlt := hW.lt
 obtain ⟨p, q, hA0, hV, rfl, hfz, hnd⟩ := hW
 have hA : DataW.TrodAll enc Tryd.prog W 0 (fun _ => true) true Tryd.f5.params.toList args.toList ds p := hA0
 have hAll := hA
 rw [Tryd.params5] at hA hval hAll hZ
 obtain ⟨rfl, rfl⟩ := trodVars_none hV
 obtain ⟨pv0, pv1, pv2, d0, d1, d2, p0, p1, p2, rfl, rfl, rfl, h0, h1, h2⟩ := trodAll_three hA
 obtain ⟨dv0, hv0, hl0⟩ := in_val (s := .sl (.int .u8)) shape22 (hval 0 22 _ rfl rfl) h0 (weighed hZ (j := 0) rfl rfl)
 obtain ⟨n1, rfl, rfl, rfl, wn1⟩ := open_int underI3 (hval 1 3 _ rfl rfl) h1
 have wn1 := wf_inK wn1
 obtain ⟨n2, rfl, rfl, rfl, wn2⟩ := open_int underI3 (hval 2 3 _ rfl rfl) h2
 have wn2 := wf_inK wn2
 clear hA0 hval0
 have hcall : Calls Tryd.prog 5 #[pv0, .int .i64 n1, .int .i64 n2] W fun e w' => e = .returned (.bool true) ∧ Below W.heap.size W w' := by
  exact c_walk hv0 hl0 wn1 wn2 (globs0 _ hL)
 refine hcall.mono fun e W' ⟨he, hg⟩ => ?_
 subst he
 exact ⟨_, rfl, _, [], _, [], _, [], hW', trodAll_cons_mk (shut_bool Tryd.underlying4 _) trodAll_mk0, trodAll_stays laid hg _ _ _ _ hAll (fun x hx => hlt x (by simpa using hx)) (by kernel_rfl), rfl, hg.frame _, fun h => by cases h⟩

theorem over : Rows.packHeadsRow.holds Tryd.pinned (OpenSpec.ofChange Rows.packHeadsSpec) :=
 OpenClaim.holds_of_wide 5 Tryd.f5 rfl rfl rfl rfl rfl rfl rfl ⟨rfl, rfl, rfl, rfl, rfl⟩ rfl rfl rfl rfl rfl (by kernel_rfl) Tryd.func5 (by kernel_rfl)
  (of_decide_eq_true (by kernel_rfl)) (by unfold Func.isWrapper; first | (rw [if_pos (by decide +kernel)]; kernel_rfl) | (rw [if_neg (by decide +kernel)]; exact ⟨rfl, rfl⟩))
  (fun os started H enc _ => lifted os started H enc)

theorem proved : Rows.PackHeadsCardSaid :=
 Claim7.holds_tied_plain_at .later [] [.data] true (true, "1d3dad80498a30c2a72157fd4e1b328773163048832bdfa3f529490021e98d5c") false
  over (fun _ h => by cases h) (by kernel_rfl) (fun _ h => by cases h) packHeads_row_tie rfl ⟨rfl, rfl⟩ (by kernel_rfl) rfl
  (fun f fn hf hfn => by
   obtain rfl : f = 5 := Option.some.inj ((show Tryd.prog.funcNamed "satchel/satchellaw17.PackHeads" = some 5 by kernel_rfl).symm.trans hf) |>.symm
   obtain rfl : fn = Tryd.f5 := (Option.some.inj (Tryd.func5.symm.trans hfn)).symm
   exact ⟨by kernel_rfl, fun j t ht => by
    rw [Tryd.params5] at ht
    have hm : t ∈ ([22, 3, 3] : List TypeId) := by simpa using Array.mem_of_getElem? ht
    have hall : (([22, 3, 3] : List TypeId).all fun u => !Tryd.prog.wantsStandIn u) = true := by kernel_rfl
    exact (show Tryd.prog.wantsStandIn t = false by simpa using List.all_eq_true.1 hall t hm)⟩)
  (by kernel_rfl)
#print axioms proved
end Go.Proofs.YtidpndnehbhloaaDoor.packHeads
