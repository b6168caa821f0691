/-
  The law DigestBack of the layer digest holds of the code: for all inputs the call returns true, and the arguments read as they did. No condition; the package variables that it reads are as the program's text lays them (the card ties them).
-/
import Derived.Test.YtbfooleghoadiaaDoorCo
import Derived.Test.YtbfooleghoadiaaDoorSycp
import Derived.Test.YtbfooleghoadiaaDoorDc
import Derived.Test.YtbfooleghoadiaaDoorCards
import Derived.Test.YtbfooleghoadiaaDoorTie
import Derived.SevenTiedAt
import Derived.WalkKit
import Derived.ProofKit
import Derived.OpenShut
set_option linter.unusedSimpArgs false
set_option linter.unusedVariables false
namespace Go.Proofs.YtbfooleghoadiaaDoor.digestBack
open Go.ChangeShapes Go.WideShapes Go.ChangeAt Go.RowKit Go.Ev Go.Proofs.YtbfooleghoadiaaDoor.Co Go.Proofs.YtbfooleghoadiaaDoor.Dc

def om (zs0 : List Int) (s1 : ByteArray) : Om := ⟨fun _ => .bool false, fun i => if i = 2 then D.ofInts zs0 else if i = 10 then .int s1.size else if i = 12 then D.ofInts (strE s1) else .int 0, F⟩
theorem om_2 (zs0 : List Int) (s1 : ByteArray) : (om zs0 s1).d 2 = D.ofInts zs0 := rfl
theorem om_10 (zs0 : List Int) (s1 : ByteArray) : (om zs0 s1).d 10 = .int s1.size := rfl
theorem om_12 (zs0 : List Int) (s1 : ByteArray) : (om zs0 s1).d 12 = D.ofInts (strE s1) := rfl
theorem om_f (zs0 : List Int) (s1 : ByteArray) : (om zs0 s1).f = F := rfl
theorem wrap8' (x : Int) : IntKind.u8.wrap x = x % 256 := by simp [IntKind.wrap, IntKind.signed, IntKind.bits]
theorem get_in {l : List Int} (h : ∀ c ∈ l, 0 ≤ c ∧ c ≤ 255) (j : Nat) : 0 ≤ (l[j]?).getD 0 ∧ (l[j]?).getD 0 ≤ 255 := by
  cases hz : l[j]? with
  | none => simp
  | some c => exact h c (List.mem_of_getElem? hz)
theorem text_at {l : List Int} (i : Nat) (h : i < 32) : (textI l)[i]? = some (dgI (if i % 2 = 0 then iopI .quo .u8 ((l[i / 2]?).getD 0) 16 else iopI .rem .u8 ((l[i / 2]?).getD 0) 16)) := by
  obtain ⟨h1, h2⟩ := text_get l (i / 2) (by omega)
  split
  · rw [show 2 * (i / 2) = i by omega] at h1; exact h1
  · rw [show 2 * (i / 2) + 1 = i by omega] at h2; exact h2
theorem text_good {l : List Int} (h : ∀ c ∈ l, 0 ≤ c ∧ c ≤ 255) : ∀ c ∈ textI l, goodI c = true := by
  intro c hc
  obtain ⟨i, hi, he⟩ := List.getElem_of_mem hc
  have h1 := text_at (l := l) i (by rw [← text_len l]; exact hi)
  rw [List.getElem?_eq_getElem hi, he] at h1
  have h2 := get_in h (i / 2)
  have h1 := Option.some.inj h1
  subst h1
  have hq := quo_in h2
  have hr := rem_in h2
  split
  · exact (dg_val hq.1 hq.2).2.1
  · exact (dg_val hr.1 hr.2).2.1
theorem lead_text {l : List Int} (h : ∀ c ∈ l, 0 ≤ c ∧ c ≤ 255) : leadI (textI l) = 32 := by
  rw [lead_all _ (text_good h), text_len]
theorem parse_at (l : List Int) (j : Nat) (h : j < 16) : (parseI l)[j]? = some (IntKind.u8.wrap (valI ((l[2 * j]?).getD 0) * 16 + valI ((l[2 * j + 1]?).getD 0))) := by
  unfold parseI
  rw [List.getElem?_map, List.getElem?_range h]; rfl
theorem parse_text {l : List Int} (h : ∀ c ∈ l, 0 ≤ c ∧ c ≤ 255) (j : Nat) (hj : j < 16) : ((parseI (textI l))[j]?).getD 0 = (l[j]?).getD 0 := by
  have h2 := get_in h j
  have hq := quo_in h2
  have hr := rem_in h2
  obtain ⟨h3, h4⟩ := text_get l j hj
  rw [parse_at _ j hj, h3, h4]
  simp only [Option.getD_some]
  rw [(dg_val hq.1 hq.2).1, (dg_val hr.1 hr.2).1, wrap8', quo8 h2, rem_emod _ (by omega)]
  omega
theorem text_parse {l : List Int} (hl : l.length = 32) (h : ∀ c ∈ l, 0 ≤ c ∧ c ≤ 255) (hg : leadI l = 32) : textI (parseI l) = l := by
  have v : ∀ i : Nat, i < 32 → dgI (valI ((l[i]?).getD 0)) = (l[i]?).getD 0 ∧ 0 ≤ valI ((l[i]?).getD 0) ∧ valI ((l[i]?).getD 0) < 16 := by
    intro i hi
    obtain ⟨c, hc, hgc⟩ := lead_good l i (by omega)
    have hin := get_in h i
    rw [hc] at hin ⊢
    exact val_dg hin.1 hin.2 hgc
  refine List.ext_getElem? fun i => ?_
  by_cases hi : i < 32
  · have h1 := v (2 * (i / 2)) (by omega)
    have h2 := v (2 * (i / 2) + 1) (by omega)
    rw [text_at i hi, parse_at l (i / 2) (by omega)]
    simp only [Option.getD_some]
    have e : IntKind.u8.wrap (valI ((l[2 * (i / 2)]?).getD 0) * 16 + valI ((l[2 * (i / 2) + 1]?).getD 0)) = valI ((l[2 * (i / 2)]?).getD 0) * 16 + valI ((l[2 * (i / 2) + 1]?).getD 0) := by rw [wrap8']; omega
    rw [e]
    have eq1 : iopI .quo .u8 (valI ((l[2 * (i / 2)]?).getD 0) * 16 + valI ((l[2 * (i / 2) + 1]?).getD 0)) 16 = valI ((l[2 * (i / 2)]?).getD 0) := by rw [quo8 (by omega)]; omega
    have eq2 : iopI .rem .u8 (valI ((l[2 * (i / 2)]?).getD 0) * 16 + valI ((l[2 * (i / 2) + 1]?).getD 0)) 16 = valI ((l[2 * (i / 2) + 1]?).getD 0) := by rw [rem_emod _ (by omega)]; omega
    have hs : l[i]? = some ((l[i]?).getD 0) := by rw [List.getElem?_eq_getElem (by omega)]; rfl
    split
    · rename_i ho
      rw [eq1, h1.1, show 2 * (i / 2) = i by omega, hs]; rfl
    · rename_i ho
      rw [eq2, h2.1, show 2 * (i / 2) + 1 = i by omega, hs]; rfl
  · rw [List.getElem?_eq_none (by rw [text_len]; omega), List.getElem?_eq_none (by omega)]

def c_t0 : List (Q × Bool) := [((.fit .i64 (.var 10)), true),
  ((.le (.var 10) (.int 100)), false)]
set_option maxRecDepth 100000 in
theorem c_y0 : yesOf Tryd.prog (knownV (tellA c_t0) tab specs overs) 8000 80 6 [.agg [.sint .u8 (.bi .sel (.var 2) (.int 0)), .sint .u8 (.bi .sel (.var 2) (.int 1)), .sint .u8 (.bi .sel (.var 2) (.int 2)), .sint .u8 (.bi .sel (.var 2) (.int 3)), .sint .u8 (.bi .sel (.var 2) (.int 4)), .sint .u8 (.bi .sel (.var 2) (.int 5)), .sint .u8 (.bi .sel (.var 2) (.int 6)), .sint .u8 (.bi .sel (.var 2) (.int 7)), .sint .u8 (.bi .sel (.var 2) (.int 8)), .sint .u8 (.bi .sel (.var 2) (.int 9)), .sint .u8 (.bi .sel (.var 2) (.int 10)), .sint .u8 (.bi .sel (.var 2) (.int 11)), .sint .u8 (.bi .sel (.var 2) (.int 12)), .sint .u8 (.bi .sel (.var 2) (.int 13)), .sint .u8 (.bi .sel (.var 2) (.int 14)), .sint .u8 (.bi .sel (.var 2) (.int 15))], .sstr (.var 10) (.var 12)] (globSt g0) = true := by kernel_rfl
def c_t1 : List (Q × Bool) := [((.fit .i64 (.var 10)), true),
  ((.le (.var 10) (.int 100)), true),
  ((.eq (.fn 12 (.bi .pair (.fn 20 (.bi .pair (.var 2) (.int 0))) (.int 0))) (.int 32)), true),
  ((.eq (.bi .sel (.fn 21 (.bi .pair (.fn 20 (.bi .pair (.var 2) (.int 0))) (.int 0))) (.int 0)) (.bi .sel (.var 2) (.int 0))), true),
  ((.eq (.bi .sel (.fn 21 (.bi .pair (.fn 20 (.bi .pair (.var 2) (.int 0))) (.int 0))) (.int 1)) (.bi .sel (.var 2) (.int 1))), true),
  ((.eq (.bi .sel (.fn 21 (.bi .pair (.fn 20 (.bi .pair (.var 2) (.int 0))) (.int 0))) (.int 2)) (.bi .sel (.var 2) (.int 2))), true),
  ((.eq (.bi .sel (.fn 21 (.bi .pair (.fn 20 (.bi .pair (.var 2) (.int 0))) (.int 0))) (.int 3)) (.bi .sel (.var 2) (.int 3))), true),
  ((.eq (.bi .sel (.fn 21 (.bi .pair (.fn 20 (.bi .pair (.var 2) (.int 0))) (.int 0))) (.int 4)) (.bi .sel (.var 2) (.int 4))), true),
  ((.eq (.bi .sel (.fn 21 (.bi .pair (.fn 20 (.bi .pair (.var 2) (.int 0))) (.int 0))) (.int 5)) (.bi .sel (.var 2) (.int 5))), true),
  ((.eq (.bi .sel (.fn 21 (.bi .pair (.fn 20 (.bi .pair (.var 2) (.int 0))) (.int 0))) (.int 6)) (.bi .sel (.var 2) (.int 6))), true),
  ((.eq (.bi .sel (.fn 21 (.bi .pair (.fn 20 (.bi .pair (.var 2) (.int 0))) (.int 0))) (.int 7)) (.bi .sel (.var 2) (.int 7))), true),
  ((.eq (.bi .sel (.fn 21 (.bi .pair (.fn 20 (.bi .pair (.var 2) (.int 0))) (.int 0))) (.int 8)) (.bi .sel (.var 2) (.int 8))), true),
  ((.eq (.bi .sel (.fn 21 (.bi .pair (.fn 20 (.bi .pair (.var 2) (.int 0))) (.int 0))) (.int 9)) (.bi .sel (.var 2) (.int 9))), true),
  ((.eq (.bi .sel (.fn 21 (.bi .pair (.fn 20 (.bi .pair (.var 2) (.int 0))) (.int 0))) (.int 10)) (.bi .sel (.var 2) (.int 10))), true),
  ((.eq (.bi .sel (.fn 21 (.bi .pair (.fn 20 (.bi .pair (.var 2) (.int 0))) (.int 0))) (.int 11)) (.bi .sel (.var 2) (.int 11))), true),
  ((.eq (.bi .sel (.fn 21 (.bi .pair (.fn 20 (.bi .pair (.var 2) (.int 0))) (.int 0))) (.int 12)) (.bi .sel (.var 2) (.int 12))), true),
  ((.eq (.bi .sel (.fn 21 (.bi .pair (.fn 20 (.bi .pair (.var 2) (.int 0))) (.int 0))) (.int 13)) (.bi .sel (.var 2) (.int 13))), true),
  ((.eq (.bi .sel (.fn 21 (.bi .pair (.fn 20 (.bi .pair (.var 2) (.int 0))) (.int 0))) (.int 14)) (.bi .sel (.var 2) (.int 14))), true),
  ((.eq (.bi .sel (.fn 21 (.bi .pair (.fn 20 (.bi .pair (.var 2) (.int 0))) (.int 0))) (.int 15)) (.bi .sel (.var 2) (.int 15))), true),
  ((.eq (.var 10) (.int 32)), false),
  ((.le (.int 0) (.var 10)), true),
  ((.le (.var 10) (.int 1000)), true),
  ((.eq (.fn 12 (.bi .pair (.var 12) (.int 0))) (.var 10)), false),
  ((.le (.int 0) (.fn 12 (.bi .pair (.var 12) (.int 0)))), true),
  ((.le (.var 10) (.fn 12 (.bi .pair (.var 12) (.int 0)))), false),
  ((.le (.fn 12 (.bi .pair (.var 12) (.int 0))) (.var 10)), true),
  ((.fit .i64 (.bi .add (.var 10) (.int 32))), true),
  ((.le (.fn 12 (.bi .pair (.var 12) (.int 0))) (.bi .add (.var 10) (.int 32))), true)]
set_option maxRecDepth 100000 in
theorem c_y1 : yesOf Tryd.prog (knownV (tellA c_t1) tab specs overs) 8000 80 6 [.agg [.sint .u8 (.bi .sel (.var 2) (.int 0)), .sint .u8 (.bi .sel (.var 2) (.int 1)), .sint .u8 (.bi .sel (.var 2) (.int 2)), .sint .u8 (.bi .sel (.var 2) (.int 3)), .sint .u8 (.bi .sel (.var 2) (.int 4)), .sint .u8 (.bi .sel (.var 2) (.int 5)), .sint .u8 (.bi .sel (.var 2) (.int 6)), .sint .u8 (.bi .sel (.var 2) (.int 7)), .sint .u8 (.bi .sel (.var 2) (.int 8)), .sint .u8 (.bi .sel (.var 2) (.int 9)), .sint .u8 (.bi .sel (.var 2) (.int 10)), .sint .u8 (.bi .sel (.var 2) (.int 11)), .sint .u8 (.bi .sel (.var 2) (.int 12)), .sint .u8 (.bi .sel (.var 2) (.int 13)), .sint .u8 (.bi .sel (.var 2) (.int 14)), .sint .u8 (.bi .sel (.var 2) (.int 15))], .sstr (.var 10) (.var 12)] (globSt g0) = true := by kernel_rfl
def c_t2 : List (Q × Bool) := [((.fit .i64 (.var 10)), true),
  ((.le (.var 10) (.int 100)), true),
  ((.eq (.fn 12 (.bi .pair (.fn 20 (.bi .pair (.var 2) (.int 0))) (.int 0))) (.int 32)), true),
  ((.eq (.bi .sel (.fn 21 (.bi .pair (.fn 20 (.bi .pair (.var 2) (.int 0))) (.int 0))) (.int 0)) (.bi .sel (.var 2) (.int 0))), true),
  ((.eq (.bi .sel (.fn 21 (.bi .pair (.fn 20 (.bi .pair (.var 2) (.int 0))) (.int 0))) (.int 1)) (.bi .sel (.var 2) (.int 1))), true),
  ((.eq (.bi .sel (.fn 21 (.bi .pair (.fn 20 (.bi .pair (.var 2) (.int 0))) (.int 0))) (.int 2)) (.bi .sel (.var 2) (.int 2))), true),
  ((.eq (.bi .sel (.fn 21 (.bi .pair (.fn 20 (.bi .pair (.var 2) (.int 0))) (.int 0))) (.int 3)) (.bi .sel (.var 2) (.int 3))), true),
  ((.eq (.bi .sel (.fn 21 (.bi .pair (.fn 20 (.bi .pair (.var 2) (.int 0))) (.int 0))) (.int 4)) (.bi .sel (.var 2) (.int 4))), true),
  ((.eq (.bi .sel (.fn 21 (.bi .pair (.fn 20 (.bi .pair (.var 2) (.int 0))) (.int 0))) (.int 5)) (.bi .sel (.var 2) (.int 5))), true),
  ((.eq (.bi .sel (.fn 21 (.bi .pair (.fn 20 (.bi .pair (.var 2) (.int 0))) (.int 0))) (.int 6)) (.bi .sel (.var 2) (.int 6))), true),
  ((.eq (.bi .sel (.fn 21 (.bi .pair (.fn 20 (.bi .pair (.var 2) (.int 0))) (.int 0))) (.int 7)) (.bi .sel (.var 2) (.int 7))), true),
  ((.eq (.bi .sel (.fn 21 (.bi .pair (.fn 20 (.bi .pair (.var 2) (.int 0))) (.int 0))) (.int 8)) (.bi .sel (.var 2) (.int 8))), true),
  ((.eq (.bi .sel (.fn 21 (.bi .pair (.fn 20 (.bi .pair (.var 2) (.int 0))) (.int 0))) (.int 9)) (.bi .sel (.var 2) (.int 9))), true),
  ((.eq (.bi .sel (.fn 21 (.bi .pair (.fn 20 (.bi .pair (.var 2) (.int 0))) (.int 0))) (.int 10)) (.bi .sel (.var 2) (.int 10))), true),
  ((.eq (.bi .sel (.fn 21 (.bi .pair (.fn 20 (.bi .pair (.var 2) (.int 0))) (.int 0))) (.int 11)) (.bi .sel (.var 2) (.int 11))), true),
  ((.eq (.bi .sel (.fn 21 (.bi .pair (.fn 20 (.bi .pair (.var 2) (.int 0))) (.int 0))) (.int 12)) (.bi .sel (.var 2) (.int 12))), true),
  ((.eq (.bi .sel (.fn 21 (.bi .pair (.fn 20 (.bi .pair (.var 2) (.int 0))) (.int 0))) (.int 13)) (.bi .sel (.var 2) (.int 13))), true),
  ((.eq (.bi .sel (.fn 21 (.bi .pair (.fn 20 (.bi .pair (.var 2) (.int 0))) (.int 0))) (.int 14)) (.bi .sel (.var 2) (.int 14))), true),
  ((.eq (.bi .sel (.fn 21 (.bi .pair (.fn 20 (.bi .pair (.var 2) (.int 0))) (.int 0))) (.int 15)) (.bi .sel (.var 2) (.int 15))), true),
  ((.eq (.var 10) (.int 32)), false),
  ((.le (.int 0) (.var 10)), true),
  ((.le (.var 10) (.int 1000)), true),
  ((.eq (.fn 12 (.bi .pair (.var 12) (.int 0))) (.var 10)), true),
  ((.le (.var 10) (.int 32)), true),
  ((.fit .i64 (.bi .add (.var 10) (.int 32))), true),
  ((.le (.var 10) (.bi .add (.var 10) (.int 32))), true)]
set_option maxRecDepth 100000 in
theorem c_y2 : yesOf Tryd.prog (knownV (tellA c_t2) tab specs overs) 8000 80 6 [.agg [.sint .u8 (.bi .sel (.var 2) (.int 0)), .sint .u8 (.bi .sel (.var 2) (.int 1)), .sint .u8 (.bi .sel (.var 2) (.int 2)), .sint .u8 (.bi .sel (.var 2) (.int 3)), .sint .u8 (.bi .sel (.var 2) (.int 4)), .sint .u8 (.bi .sel (.var 2) (.int 5)), .sint .u8 (.bi .sel (.var 2) (.int 6)), .sint .u8 (.bi .sel (.var 2) (.int 7)), .sint .u8 (.bi .sel (.var 2) (.int 8)), .sint .u8 (.bi .sel (.var 2) (.int 9)), .sint .u8 (.bi .sel (.var 2) (.int 10)), .sint .u8 (.bi .sel (.var 2) (.int 11)), .sint .u8 (.bi .sel (.var 2) (.int 12)), .sint .u8 (.bi .sel (.var 2) (.int 13)), .sint .u8 (.bi .sel (.var 2) (.int 14)), .sint .u8 (.bi .sel (.var 2) (.int 15))], .sstr (.var 10) (.var 12)] (globSt g0) = true := by kernel_rfl
def c_t3 : List (Q × Bool) := [((.fit .i64 (.var 10)), true),
  ((.le (.var 10) (.int 100)), true),
  ((.eq (.fn 12 (.bi .pair (.fn 20 (.bi .pair (.var 2) (.int 0))) (.int 0))) (.int 32)), true),
  ((.eq (.bi .sel (.fn 21 (.bi .pair (.fn 20 (.bi .pair (.var 2) (.int 0))) (.int 0))) (.int 0)) (.bi .sel (.var 2) (.int 0))), true),
  ((.eq (.bi .sel (.fn 21 (.bi .pair (.fn 20 (.bi .pair (.var 2) (.int 0))) (.int 0))) (.int 1)) (.bi .sel (.var 2) (.int 1))), true),
  ((.eq (.bi .sel (.fn 21 (.bi .pair (.fn 20 (.bi .pair (.var 2) (.int 0))) (.int 0))) (.int 2)) (.bi .sel (.var 2) (.int 2))), true),
  ((.eq (.bi .sel (.fn 21 (.bi .pair (.fn 20 (.bi .pair (.var 2) (.int 0))) (.int 0))) (.int 3)) (.bi .sel (.var 2) (.int 3))), true),
  ((.eq (.bi .sel (.fn 21 (.bi .pair (.fn 20 (.bi .pair (.var 2) (.int 0))) (.int 0))) (.int 4)) (.bi .sel (.var 2) (.int 4))), true),
  ((.eq (.bi .sel (.fn 21 (.bi .pair (.fn 20 (.bi .pair (.var 2) (.int 0))) (.int 0))) (.int 5)) (.bi .sel (.var 2) (.int 5))), true),
  ((.eq (.bi .sel (.fn 21 (.bi .pair (.fn 20 (.bi .pair (.var 2) (.int 0))) (.int 0))) (.int 6)) (.bi .sel (.var 2) (.int 6))), true),
  ((.eq (.bi .sel (.fn 21 (.bi .pair (.fn 20 (.bi .pair (.var 2) (.int 0))) (.int 0))) (.int 7)) (.bi .sel (.var 2) (.int 7))), true),
  ((.eq (.bi .sel (.fn 21 (.bi .pair (.fn 20 (.bi .pair (.var 2) (.int 0))) (.int 0))) (.int 8)) (.bi .sel (.var 2) (.int 8))), true),
  ((.eq (.bi .sel (.fn 21 (.bi .pair (.fn 20 (.bi .pair (.var 2) (.int 0))) (.int 0))) (.int 9)) (.bi .sel (.var 2) (.int 9))), true),
  ((.eq (.bi .sel (.fn 21 (.bi .pair (.fn 20 (.bi .pair (.var 2) (.int 0))) (.int 0))) (.int 10)) (.bi .sel (.var 2) (.int 10))), true),
  ((.eq (.bi .sel (.fn 21 (.bi .pair (.fn 20 (.bi .pair (.var 2) (.int 0))) (.int 0))) (.int 11)) (.bi .sel (.var 2) (.int 11))), true),
  ((.eq (.bi .sel (.fn 21 (.bi .pair (.fn 20 (.bi .pair (.var 2) (.int 0))) (.int 0))) (.int 12)) (.bi .sel (.var 2) (.int 12))), true),
  ((.eq (.bi .sel (.fn 21 (.bi .pair (.fn 20 (.bi .pair (.var 2) (.int 0))) (.int 0))) (.int 13)) (.bi .sel (.var 2) (.int 13))), true),
  ((.eq (.bi .sel (.fn 21 (.bi .pair (.fn 20 (.bi .pair (.var 2) (.int 0))) (.int 0))) (.int 14)) (.bi .sel (.var 2) (.int 14))), true),
  ((.eq (.bi .sel (.fn 21 (.bi .pair (.fn 20 (.bi .pair (.var 2) (.int 0))) (.int 0))) (.int 15)) (.bi .sel (.var 2) (.int 15))), true),
  ((.eq (.var 10) (.int 32)), true),
  ((.eq (.fn 12 (.bi .pair (.var 12) (.int 0))) (.int 32)), true),
  ((.same (.fn 20 (.bi .pair (.fn 21 (.bi .pair (.var 12) (.int 0))) (.int 0))) (.var 12)), true)]
set_option maxRecDepth 100000 in
theorem c_y3 : yesOf Tryd.prog (knownV (tellA c_t3) tab specs overs) 8000 80 6 [.agg [.sint .u8 (.bi .sel (.var 2) (.int 0)), .sint .u8 (.bi .sel (.var 2) (.int 1)), .sint .u8 (.bi .sel (.var 2) (.int 2)), .sint .u8 (.bi .sel (.var 2) (.int 3)), .sint .u8 (.bi .sel (.var 2) (.int 4)), .sint .u8 (.bi .sel (.var 2) (.int 5)), .sint .u8 (.bi .sel (.var 2) (.int 6)), .sint .u8 (.bi .sel (.var 2) (.int 7)), .sint .u8 (.bi .sel (.var 2) (.int 8)), .sint .u8 (.bi .sel (.var 2) (.int 9)), .sint .u8 (.bi .sel (.var 2) (.int 10)), .sint .u8 (.bi .sel (.var 2) (.int 11)), .sint .u8 (.bi .sel (.var 2) (.int 12)), .sint .u8 (.bi .sel (.var 2) (.int 13)), .sint .u8 (.bi .sel (.var 2) (.int 14)), .sint .u8 (.bi .sel (.var 2) (.int 15))], .sstr (.var 10) (.var 12)] (globSt g0) = true := by kernel_rfl
def c_t4 : List (Q × Bool) := [((.fit .i64 (.var 10)), true),
  ((.le (.var 10) (.int 100)), true),
  ((.eq (.fn 12 (.bi .pair (.fn 20 (.bi .pair (.var 2) (.int 0))) (.int 0))) (.int 32)), true),
  ((.eq (.bi .sel (.fn 21 (.bi .pair (.fn 20 (.bi .pair (.var 2) (.int 0))) (.int 0))) (.int 0)) (.bi .sel (.var 2) (.int 0))), true),
  ((.eq (.bi .sel (.fn 21 (.bi .pair (.fn 20 (.bi .pair (.var 2) (.int 0))) (.int 0))) (.int 1)) (.bi .sel (.var 2) (.int 1))), true),
  ((.eq (.bi .sel (.fn 21 (.bi .pair (.fn 20 (.bi .pair (.var 2) (.int 0))) (.int 0))) (.int 2)) (.bi .sel (.var 2) (.int 2))), true),
  ((.eq (.bi .sel (.fn 21 (.bi .pair (.fn 20 (.bi .pair (.var 2) (.int 0))) (.int 0))) (.int 3)) (.bi .sel (.var 2) (.int 3))), true),
  ((.eq (.bi .sel (.fn 21 (.bi .pair (.fn 20 (.bi .pair (.var 2) (.int 0))) (.int 0))) (.int 4)) (.bi .sel (.var 2) (.int 4))), true),
  ((.eq (.bi .sel (.fn 21 (.bi .pair (.fn 20 (.bi .pair (.var 2) (.int 0))) (.int 0))) (.int 5)) (.bi .sel (.var 2) (.int 5))), true),
  ((.eq (.bi .sel (.fn 21 (.bi .pair (.fn 20 (.bi .pair (.var 2) (.int 0))) (.int 0))) (.int 6)) (.bi .sel (.var 2) (.int 6))), true),
  ((.eq (.bi .sel (.fn 21 (.bi .pair (.fn 20 (.bi .pair (.var 2) (.int 0))) (.int 0))) (.int 7)) (.bi .sel (.var 2) (.int 7))), true),
  ((.eq (.bi .sel (.fn 21 (.bi .pair (.fn 20 (.bi .pair (.var 2) (.int 0))) (.int 0))) (.int 8)) (.bi .sel (.var 2) (.int 8))), true),
  ((.eq (.bi .sel (.fn 21 (.bi .pair (.fn 20 (.bi .pair (.var 2) (.int 0))) (.int 0))) (.int 9)) (.bi .sel (.var 2) (.int 9))), true),
  ((.eq (.bi .sel (.fn 21 (.bi .pair (.fn 20 (.bi .pair (.var 2) (.int 0))) (.int 0))) (.int 10)) (.bi .sel (.var 2) (.int 10))), true),
  ((.eq (.bi .sel (.fn 21 (.bi .pair (.fn 20 (.bi .pair (.var 2) (.int 0))) (.int 0))) (.int 11)) (.bi .sel (.var 2) (.int 11))), true),
  ((.eq (.bi .sel (.fn 21 (.bi .pair (.fn 20 (.bi .pair (.var 2) (.int 0))) (.int 0))) (.int 12)) (.bi .sel (.var 2) (.int 12))), true),
  ((.eq (.bi .sel (.fn 21 (.bi .pair (.fn 20 (.bi .pair (.var 2) (.int 0))) (.int 0))) (.int 13)) (.bi .sel (.var 2) (.int 13))), true),
  ((.eq (.bi .sel (.fn 21 (.bi .pair (.fn 20 (.bi .pair (.var 2) (.int 0))) (.int 0))) (.int 14)) (.bi .sel (.var 2) (.int 14))), true),
  ((.eq (.bi .sel (.fn 21 (.bi .pair (.fn 20 (.bi .pair (.var 2) (.int 0))) (.int 0))) (.int 15)) (.bi .sel (.var 2) (.int 15))), true),
  ((.eq (.var 10) (.int 32)), false),
  ((.le (.int 0) (.var 10)), true),
  ((.le (.var 10) (.int 1000)), true),
  ((.eq (.fn 12 (.bi .pair (.var 12) (.int 0))) (.var 10)), true),
  ((.le (.var 10) (.int 32)), false),
  ((.le (.int 32) (.var 10)), true),
  ((.fit .i64 (.bi .add (.var 10) (.int 32))), true),
  ((.le (.int 32) (.bi .add (.var 10) (.int 32))), true)]
set_option maxRecDepth 100000 in
theorem c_y4 : yesOf Tryd.prog (knownV (tellA c_t4) tab specs overs) 8000 80 6 [.agg [.sint .u8 (.bi .sel (.var 2) (.int 0)), .sint .u8 (.bi .sel (.var 2) (.int 1)), .sint .u8 (.bi .sel (.var 2) (.int 2)), .sint .u8 (.bi .sel (.var 2) (.int 3)), .sint .u8 (.bi .sel (.var 2) (.int 4)), .sint .u8 (.bi .sel (.var 2) (.int 5)), .sint .u8 (.bi .sel (.var 2) (.int 6)), .sint .u8 (.bi .sel (.var 2) (.int 7)), .sint .u8 (.bi .sel (.var 2) (.int 8)), .sint .u8 (.bi .sel (.var 2) (.int 9)), .sint .u8 (.bi .sel (.var 2) (.int 10)), .sint .u8 (.bi .sel (.var 2) (.int 11)), .sint .u8 (.bi .sel (.var 2) (.int 12)), .sint .u8 (.bi .sel (.var 2) (.int 13)), .sint .u8 (.bi .sel (.var 2) (.int 14)), .sint .u8 (.bi .sel (.var 2) (.int 15))], .sstr (.var 10) (.var 12)] (globSt g0) = true := by kernel_rfl
def c_t5 : List (Q × Bool) := [((.fit .i64 (.var 10)), true),
  ((.le (.var 10) (.int 100)), true),
  ((.eq (.fn 12 (.bi .pair (.fn 20 (.bi .pair (.var 2) (.int 0))) (.int 0))) (.int 32)), true),
  ((.eq (.bi .sel (.fn 21 (.bi .pair (.fn 20 (.bi .pair (.var 2) (.int 0))) (.int 0))) (.int 0)) (.bi .sel (.var 2) (.int 0))), true),
  ((.eq (.bi .sel (.fn 21 (.bi .pair (.fn 20 (.bi .pair (.var 2) (.int 0))) (.int 0))) (.int 1)) (.bi .sel (.var 2) (.int 1))), true),
  ((.eq (.bi .sel (.fn 21 (.bi .pair (.fn 20 (.bi .pair (.var 2) (.int 0))) (.int 0))) (.int 2)) (.bi .sel (.var 2) (.int 2))), true),
  ((.eq (.bi .sel (.fn 21 (.bi .pair (.fn 20 (.bi .pair (.var 2) (.int 0))) (.int 0))) (.int 3)) (.bi .sel (.var 2) (.int 3))), true),
  ((.eq (.bi .sel (.fn 21 (.bi .pair (.fn 20 (.bi .pair (.var 2) (.int 0))) (.int 0))) (.int 4)) (.bi .sel (.var 2) (.int 4))), true),
  ((.eq (.bi .sel (.fn 21 (.bi .pair (.fn 20 (.bi .pair (.var 2) (.int 0))) (.int 0))) (.int 5)) (.bi .sel (.var 2) (.int 5))), true),
  ((.eq (.bi .sel (.fn 21 (.bi .pair (.fn 20 (.bi .pair (.var 2) (.int 0))) (.int 0))) (.int 6)) (.bi .sel (.var 2) (.int 6))), true),
  ((.eq (.bi .sel (.fn 21 (.bi .pair (.fn 20 (.bi .pair (.var 2) (.int 0))) (.int 0))) (.int 7)) (.bi .sel (.var 2) (.int 7))), true),
  ((.eq (.bi .sel (.fn 21 (.bi .pair (.fn 20 (.bi .pair (.var 2) (.int 0))) (.int 0))) (.int 8)) (.bi .sel (.var 2) (.int 8))), true),
  ((.eq (.bi .sel (.fn 21 (.bi .pair (.fn 20 (.bi .pair (.var 2) (.int 0))) (.int 0))) (.int 9)) (.bi .sel (.var 2) (.int 9))), true),
  ((.eq (.bi .sel (.fn 21 (.bi .pair (.fn 20 (.bi .pair (.var 2) (.int 0))) (.int 0))) (.int 10)) (.bi .sel (.var 2) (.int 10))), true),
  ((.eq (.bi .sel (.fn 21 (.bi .pair (.fn 20 (.bi .pair (.var 2) (.int 0))) (.int 0))) (.int 11)) (.bi .sel (.var 2) (.int 11))), true),
  ((.eq (.bi .sel (.fn 21 (.bi .pair (.fn 20 (.bi .pair (.var 2) (.int 0))) (.int 0))) (.int 12)) (.bi .sel (.var 2) (.int 12))), true),
  ((.eq (.bi .sel (.fn 21 (.bi .pair (.fn 20 (.bi .pair (.var 2) (.int 0))) (.int 0))) (.int 13)) (.bi .sel (.var 2) (.int 13))), true),
  ((.eq (.bi .sel (.fn 21 (.bi .pair (.fn 20 (.bi .pair (.var 2) (.int 0))) (.int 0))) (.int 14)) (.bi .sel (.var 2) (.int 14))), true),
  ((.eq (.bi .sel (.fn 21 (.bi .pair (.fn 20 (.bi .pair (.var 2) (.int 0))) (.int 0))) (.int 15)) (.bi .sel (.var 2) (.int 15))), true),
  ((.eq (.var 10) (.int 32)), true),
  ((.eq (.fn 12 (.bi .pair (.var 12) (.int 0))) (.int 32)), false),
  ((.le (.int 0) (.var 10)), true),
  ((.le (.var 10) (.int 1000)), true),
  ((.eq (.fn 12 (.bi .pair (.var 12) (.int 0))) (.var 10)), false),
  ((.le (.int 0) (.fn 12 (.bi .pair (.var 12) (.int 0)))), true),
  ((.le (.var 10) (.fn 12 (.bi .pair (.var 12) (.int 0)))), false),
  ((.le (.fn 12 (.bi .pair (.var 12) (.int 0))) (.var 10)), true),
  ((.fit .i64 (.bi .add (.var 10) (.int 32))), true),
  ((.le (.fn 12 (.bi .pair (.var 12) (.int 0))) (.bi .add (.var 10) (.int 32))), true)]
set_option maxRecDepth 100000 in
theorem c_y5 : yesOf Tryd.prog (knownV (tellA c_t5) tab specs overs) 8000 80 6 [.agg [.sint .u8 (.bi .sel (.var 2) (.int 0)), .sint .u8 (.bi .sel (.var 2) (.int 1)), .sint .u8 (.bi .sel (.var 2) (.int 2)), .sint .u8 (.bi .sel (.var 2) (.int 3)), .sint .u8 (.bi .sel (.var 2) (.int 4)), .sint .u8 (.bi .sel (.var 2) (.int 5)), .sint .u8 (.bi .sel (.var 2) (.int 6)), .sint .u8 (.bi .sel (.var 2) (.int 7)), .sint .u8 (.bi .sel (.var 2) (.int 8)), .sint .u8 (.bi .sel (.var 2) (.int 9)), .sint .u8 (.bi .sel (.var 2) (.int 10)), .sint .u8 (.bi .sel (.var 2) (.int 11)), .sint .u8 (.bi .sel (.var 2) (.int 12)), .sint .u8 (.bi .sel (.var 2) (.int 13)), .sint .u8 (.bi .sel (.var 2) (.int 14)), .sint .u8 (.bi .sel (.var 2) (.int 15))], .sstr (.var 10) (.var 12)] (globSt g0) = true := by kernel_rfl
set_option maxHeartbeats 6000000 in
theorem c_walk {W : World} {zs0 : List Int} (zl0 : zs0.length = 16) (rng0 : ∀ c ∈ zs0, inK .u8 c) {s1 : ByteArray} (max1 : s1.size ≤ 9223372036854775807) (hG : GlobsR (om zs0 s1) W g0) : Calls Tryd.prog 6 #[.agg (zs0.map (Value.int .u8)).toArray, .string s1] W fun e w' => e = .returned (.bool true) ∧ Below W.heap.size W w' := by
  have r0 := Rel.globs (om zs0 s1) W g0 hG
  have hargs : VRs (Env.none (om zs0 s1)) [.agg [.sint .u8 (.bi .sel (.var 2) (.int 0)), .sint .u8 (.bi .sel (.var 2) (.int 1)), .sint .u8 (.bi .sel (.var 2) (.int 2)), .sint .u8 (.bi .sel (.var 2) (.int 3)), .sint .u8 (.bi .sel (.var 2) (.int 4)), .sint .u8 (.bi .sel (.var 2) (.int 5)), .sint .u8 (.bi .sel (.var 2) (.int 6)), .sint .u8 (.bi .sel (.var 2) (.int 7)), .sint .u8 (.bi .sel (.var 2) (.int 8)), .sint .u8 (.bi .sel (.var 2) (.int 9)), .sint .u8 (.bi .sel (.var 2) (.int 10)), .sint .u8 (.bi .sel (.var 2) (.int 11)), .sint .u8 (.bi .sel (.var 2) (.int 12)), .sint .u8 (.bi .sel (.var 2) (.int 13)), .sint .u8 (.bi .sel (.var 2) (.int 14)), .sint .u8 (.bi .sel (.var 2) (.int 15))], .sstr (.var 10) (.var 12)] [.agg (zs0.map (Value.int .u8)).toArray, .string s1] := VRs_cons (vr_arr (x := 2) (n := 16) (by rw [r0.opq]; rfl) rng0 zl0) (VRs_cons (vr_str (l := 10) (x := 12) (by rw [r0.opq]; rfl) (by rw [r0.opq]; rfl)) (VRs_nil))
  have zl1 := strE_length s1
  have rng1 := strE_in s1
  by_cases h : 100 < s1.size
  · refine calls_of_yesV sound tab_ok specs_ok overs_ok c_y0 rfl (tellA_ok (allTold'_iff.1 ?_)) r0 hargs
    simp only [c_t0, om_2, om_10, om_12, om_f, allTold', dutiesTold, factsA, factsC, factsP, factsR, AV.facts, RW.facts, inK, and_true, Q.holds', E.i, E.s, E.n, D.nat, E.den, BO.den, UO.den, TO.den, D.toInt_int, D.toList_list, D.ints_ofInts, i64min, i64max, u8min, u8max, u16min, u16max, u32min, u32max, u64min, u64max, i32min, i32max, Om.sub, selI, ints_app, ints_cut, ints_upd, ints_rep, ints_splice, ints_seg, len_ints]
    omega
  · have rb : ∀ c ∈ zs0, 0 ≤ c ∧ c ≤ 255 := fun c hc => rng0 c hc
    have rs : ∀ c ∈ strE s1, 0 ≤ c ∧ c ≤ 255 := fun c hc => rng1 c hc
    have pt : ∀ j : Int, 0 ≤ j ∧ j < 16 → ((parseI (textI zs0))[j.toNat]?).getD 0 = (zs0[j.toNat]?).getD 0 := fun j hj => parse_text rb j.toNat (by omega)
    have ltx : (leadI (textI zs0) : Int) = 32 := by rw [lead_text rb]; rfl
    have ll := lead_le (strE s1)
    by_cases hb : leadI (strE s1) < s1.size
    · by_cases h32 : s1.size = 32
      · refine calls_of_yesV sound tab_ok specs_ok overs_ok c_y5 rfl (tellA_ok (allTold'_iff.1 ?_)) r0 hargs
        simp only [c_t5, om_2, om_10, om_12, om_f, F12, F20, F21, allTold', dutiesTold, factsA, factsC, factsP, factsR, AV.facts, RW.facts, inK, and_true, Q.holds', E.i, E.s, E.n, D.nat, E.den, BO.den, UO.den, TO.den, D.toInt_int, D.toList_list, D.ints_ofInts, i64min, i64max, u8min, u8max, u16min, u16max, u32min, u32max, u64min, u64max, i32min, i32max, Om.sub, selI, ints_app, ints_cut, ints_upd, ints_rep, ints_splice, ints_seg, len_ints]
        and_intros <;> first | omega | exact pt _ (by decide) | exact ltx | rfl | trivial
      · refine calls_of_yesV sound tab_ok specs_ok overs_ok c_y1 rfl (tellA_ok (allTold'_iff.1 ?_)) r0 hargs
        simp only [c_t1, om_2, om_10, om_12, om_f, F12, F20, F21, allTold', dutiesTold, factsA, factsC, factsP, factsR, AV.facts, RW.facts, inK, and_true, Q.holds', E.i, E.s, E.n, D.nat, E.den, BO.den, UO.den, TO.den, D.toInt_int, D.toList_list, D.ints_ofInts, i64min, i64max, u8min, u8max, u16min, u16max, u32min, u32max, u64min, u64max, i32min, i32max, Om.sub, selI, ints_app, ints_cut, ints_upd, ints_rep, ints_splice, ints_seg, len_ints]
        and_intros <;> first | omega | exact pt _ (by decide) | exact ltx | rfl | trivial
    · by_cases h32 : s1.size = 32
      · have tp := text_parse (l := strE s1) (by omega) rs (by omega)
        refine calls_of_yesV sound tab_ok specs_ok overs_ok c_y3 rfl (tellA_ok (allTold'_iff.1 ?_)) r0 hargs
        simp only [c_t3, om_2, om_10, om_12, om_f, F12, F20, F21, allTold', dutiesTold, factsA, factsC, factsP, factsR, AV.facts, RW.facts, inK, and_true, Q.holds', E.i, E.s, E.n, D.nat, E.den, BO.den, UO.den, TO.den, D.toInt_int, D.toList_list, D.ints_ofInts, i64min, i64max, u8min, u8max, u16min, u16max, u32min, u32max, u64min, u64max, i32min, i32max, Om.sub, selI, ints_app, ints_cut, ints_upd, ints_rep, ints_splice, ints_seg, len_ints]
        and_intros <;> first | exact tp | omega | exact pt _ (by decide) | exact ltx | rfl | trivial
      · by_cases h33 : s1.size < 32
        · refine calls_of_yesV sound tab_ok specs_ok overs_ok c_y2 rfl (tellA_ok (allTold'_iff.1 ?_)) r0 hargs
          simp only [c_t2, om_2, om_10, om_12, om_f, F12, F20, F21, allTold', dutiesTold, factsA, factsC, factsP, factsR, AV.facts, RW.facts, inK, and_true, Q.holds', E.i, E.s, E.n, D.nat, E.den, BO.den, UO.den, TO.den, D.toInt_int, D.toList_list, D.ints_ofInts, i64min, i64max, u8min, u8max, u16min, u16max, u32min, u32max, u64min, u64max, i32min, i32max, Om.sub, selI, ints_app, ints_cut, ints_upd, ints_rep, ints_splice, ints_seg, len_ints]
          and_intros <;> first | omega | exact pt _ (by decide) | exact ltx | rfl | trivial
        · refine calls_of_yesV sound tab_ok specs_ok overs_ok c_y4 rfl (tellA_ok (allTold'_iff.1 ?_)) r0 hargs
          simp only [c_t4, om_2, om_10, om_12, om_f, F12, F20, F21, allTold', dutiesTold, factsA, factsC, factsP, factsR, AV.facts, RW.facts, inK, and_true, Q.holds', E.i, E.s, E.n, D.nat, E.den, BO.den, UO.den, TO.den, D.toInt_int, D.toList_list, D.ints_ofInts, i64min, i64max, u8min, u8max, u16min, u16max, u32min, u32max, u64min, u64max, i32min, i32max, Om.sub, selI, ints_app, ints_cut, ints_upd, ints_rep, ints_splice, ints_seg, len_ints]
          and_intros <;> first | omega | exact pt _ (by decide) | exact ltx | rfl | trivial

theorem underStr9 : Tryd.prog.underlying 9 = some .string := by kernel_rfl
theorem underA27 : Tryd.prog.underlying 27 = some (.array 16 5) := by kernel_rfl
theorem cellsA27 : Tryd.prog.cellsOf 27 = 16 := by kernel_rfl
theorem underAE5 : Tryd.prog.underlying 5 = some (.int .u8) := by kernel_rfl
theorem cellsAE5 : Tryd.prog.cellsOf 5 = 1 := by kernel_rfl

set_option maxRecDepth 100000 in
theorem lifted (os : Os) (started : os.Started) (H : Type) (enc : TypeId × Value → H) :
    ReturnsInHanded {} Tryd.checked os 6 .any (fun w args => (Rows.digestBackSpec.pre enc Tryd.prog Tryd.f6 [] false w args ∧ laidMetH Tryd.prog laidL w) ∧ sizedMet enc Tryd.prog Tryd.f6 (OpenSpec.ofChange Rows.digestBackSpec) false w args)
      (Rows.digestBackSpec.post enc Tryd.prog Tryd.f6 false true false false) := by
  refine returnsInHanded_of_change_and (C := Tryd.checked) (X := fun w _ => laidMetH Tryd.prog laidL w) (fun _ _ _ hh h => h.of_heap hh) own started (by kernel_rfl) Tryd.func6
    (ChangeSpec.witness_shaped (enc := enc) (C := Tryd.checked) (os := os) (X := fun w _ => laidMetH Tryd.prog laidL w) false (World.doorLaid Tryd.prog 400 os) #[.agg #[.int .u8 0, .int .u8 0, .int .u8 0, .int .u8 0, .int .u8 0, .int .u8 0, .int .u8 0, .int .u8 0, .int .u8 0, .int .u8 0, .int .u8 0, .int .u8 0, .int .u8 0, .int .u8 0, .int .u8 0, .int .u8 0], .string ByteArray.empty] 8 rfl (World.shaped_of_RefB (by kernel_rfl) (by kernel_rfl)) (by kernel_rfl) (by kernel_rfl) (by kernel_rfl) (door_met os _)) ?_
  intro W base args ds gs before hval0 hW _ _ hL _
  have hval : ∀ (j : Nat) t v, Tryd.f6.params[j]? = some t → args[j]? = some v → Value.okWide Tryd.prog W .any base t v := hval0
  have hW' := hW
  have hlt := hW.lt
  obtain ⟨p, q, hA0, hV, rfl, hfz, hnd⟩ := hW
  have hA : DataW.TrodAll enc Tryd.prog W 0 (fun _ => true) true Tryd.f6.params.toList args.toList ds p := hA0
  have hAll := hA
  rw [Tryd.params6] at hA hval hAll
  obtain ⟨rfl, rfl⟩ := trodVars_none hV
  obtain ⟨v0, v1, d0, d1, p0, p1, rfl, rfl, rfl, h0, h1⟩ := trodAll_two hA
  obtain ⟨zs0, rfl, zl0, rng0, rfl⟩ := in_arr underA27 underAE5 cellsAE5 cellsA27 (hval 0 27 _ rfl rfl) h0
  obtain ⟨s1, rfl, rfl, max1⟩ := in_str underStr9 (hval 1 9 _ rfl rfl) h1
  clear hA0 hval0
  have hcall : Calls Tryd.prog 6 #[.agg (zs0.map (Value.int .u8)).toArray, .string s1] W fun e w' => e = .returned (.bool true) ∧ Below W.heap.size W w' := by
    exact c_walk zl0 rng0 max1 (globs0 _ hL)
  refine hcall.mono fun e W' ⟨he, hg⟩ => ?_
  subst he
  exact ⟨_, rfl, _, [], _, [], _, [], hW', trodAll_cons_mk (shut_bool Tryd.underlying4 _) trodAll_mk0, trodAll_stays laid hg _ _ _ _ hAll (fun x hx => hlt x (by simp at hx)) (by kernel_rfl), rfl, hg.frame _, fun h => by cases h⟩

theorem over : Rows.digestBackRow.holds Tryd.pinned (OpenSpec.ofChange Rows.digestBackSpec) :=
  OpenClaim.holds_of_wide 6 Tryd.f6 rfl rfl rfl rfl rfl rfl rfl ⟨rfl, rfl, rfl, rfl, rfl⟩ rfl rfl rfl rfl rfl (by kernel_rfl) Tryd.func6 (by kernel_rfl)
    (of_decide_eq_true (by kernel_rfl)) (by unfold Func.isWrapper; first | (rw [if_pos (by decide +kernel)]; kernel_rfl) | (rw [if_neg (by decide +kernel)]; exact ⟨rfl, rfl⟩))
    (fun os started H enc _ => lifted os started H enc)

/-- The statement: the tied card. -/
theorem proved : Rows.DigestBackCardSaid :=
  Claim7.holds_tied_plain_at .later [] [.data] true (true, "d524dcb82881dea4761056c88e775112b1b2b4869df0e8ae2567391e01c47999") false
    over (fun _ h => by cases h) (by kernel_rfl) (fun _ h => by cases h) digestBack_row_tie rfl ⟨rfl, rfl⟩ (by kernel_rfl) rfl
    (fun f fn hf hfn => by
      obtain rfl : f = 6 := Option.some.inj ((show Tryd.prog.funcNamed "satchel/satchellaw03.DigestBack" = some 6 by kernel_rfl).symm.trans hf) |>.symm
      obtain rfl : fn = Tryd.f6 := (Option.some.inj (Tryd.func6.symm.trans hfn)).symm
      exact ⟨by kernel_rfl, fun j t ht => by
        rw [Tryd.params6] at ht
        have hm : t ∈ ([27, 9] : List TypeId) := by simpa using Array.mem_of_getElem? ht
        have hall : (([27, 9] : List TypeId).all fun u => !Tryd.prog.wantsStandIn u) = true := by kernel_rfl
        exact (show Tryd.prog.wantsStandIn t = false by simpa using List.all_eq_true.1 hall t hm)⟩)
    (by kernel_rfl)
#print axioms proved
end Go.Proofs.YtbfooleghoadiaaDoor.digestBack
