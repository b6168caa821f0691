/-
  The law FieldOrder of the layer field holds of the code: for every two numbers the call returns true. No condition.
-/
import Derived.Test.YtioeihajajacdaaFOb
import Derived.Test.YtioeihajajacdaaFOc
import Derived.Test.YtioeihajajacdaaRows
import Derived.WalkKit
import Derived.ProofKit
import Derived.OpenShut
namespace Go.Proofs.Ytioeihajajacdaa.fieldOrder
open Go.ChangeShapes Go.WideShapes Go.ChangeAt Go.RowKit Go.Ev Go.Ev.Dig

theorem own : ownKnob Try.prog.godebug = none := by kernel_rfl
theorem laid : laidOutB Try.prog = true := by kernel_rfl
theorem sound : Sound Try.prog where
  mixed := by kernel_rfl
  names f fn c hf hb := by
    have hall : Try.prog.funcs.all (fun fn => fn.body.isNone || !(fn.name == "runtime.NumGoroutine")) = true := by kernel_rfl
    have := Array.all_eq_true_iff_forall_mem.1 hall fn (Array.mem_of_getElem? hf)
    simpa [hb] using this

/-- The class of a number. -/
def classOf (n : Int) : Bool × Bool × Nat := if n < 0 then (true, false, 0) else if 2147483647 < n then (false, true, 0) else (false, false, size n)
def orderOf (n m : Int) : Bool × Bool := if n < m then (true, false) else if n = m then (false, true) else (false, false)

theorem classOf_mem (n : Int) : classOf n ∈ classes := by
  unfold classOf
  split
  · decide
  · split
    · decide
    · have := size_pos n
      have h5 : size n = 1 ∨ size n = 2 ∨ size n = 3 ∨ size n = 4 ∨ size n = 5 := by omega
      rcases h5 with h | h | h | h | h <;> rw [h] <;> decide
theorem orderOf_mem (n m : Int) : orderOf n m ∈ orders := by
  unfold orderOf
  split
  · decide
  · split <;> decide

theorem maybe_of (n m : Int) : maybe (classOf n) (classOf m) (orderOf n m) = true := by
  unfold orderOf
  by_cases h : n < m
  · rw [if_pos h]
    unfold maybe
    simp only [Bool.or_eq_true]
    by_cases h2 : m < 0
    · left; unfold classOf; rw [if_pos h2]; rfl
    · by_cases h3 : 2147483647 < m
      · left; unfold classOf; rw [if_neg h2, if_pos h3]; rfl
      · right
        by_cases h4 : n < 0
        · unfold classOf; rw [if_pos h4]; exact Nat.ble_eq_true_of_le (Nat.zero_le _)
        · unfold classOf
          rw [if_neg h4, if_neg (by omega), if_neg h2, if_neg h3]
          exact Nat.ble_eq_true_of_le (size_mono h)
  · rw [if_neg h]
    by_cases he : n = m
    · rw [if_pos he, he]
      have := classOf_mem m
      revert this
      generalize classOf m = x
      intro hx
      have : (classes.all fun x => maybe x x (false, true)) = true := by decide
      exact List.all_eq_true.1 this x hx
    · rw [if_neg he]; rfl

def cfgOf (n m : Int) : Cfg := ⟨(classOf n).1, (classOf n).2.1, (classOf n).2.2, (classOf m).1, (classOf m).2.1, (classOf m).2.2, (orderOf n m).1, (orderOf n m).2⟩

theorem classOf_fits (n : Int) : (classOf n).1 = decide (n < 0) ∧ (classOf n).2.1 = decide (2147483647 < n) ∧ (0 < (classOf n).2.2 → 0 ≤ n ∧ n ≤ 2147483647 ∧ (classOf n).2.2 = size n) := by
  unfold classOf
  by_cases h1 : n < 0
  · rw [if_pos h1]
    exact ⟨(decide_eq_true h1).symm, (decide_eq_false (by omega)).symm, fun h => absurd h (by simp)⟩
  · rw [if_neg h1]
    by_cases h2 : 2147483647 < n
    · rw [if_pos h2]
      exact ⟨(decide_eq_false h1).symm, (decide_eq_true h2).symm, fun h => absurd h (by simp)⟩
    · rw [if_neg h2]
      exact ⟨(decide_eq_false h1).symm, (decide_eq_false h2).symm, fun _ => ⟨by omega, by omega, rfl⟩⟩

theorem orderOf_fits (n m : Int) : (orderOf n m).1 = decide (n < m) ∧ (orderOf n m).2 = decide (n = m) := by
  unfold orderOf
  by_cases h : n < m
  · rw [if_pos h]; exact ⟨(decide_eq_true h).symm, (decide_eq_false (by omega)).symm⟩
  · rw [if_neg h]
    by_cases he : n = m
    · rw [if_pos he]; exact ⟨(decide_eq_false h).symm, (decide_eq_true he).symm⟩
    · rw [if_neg he]; exact ⟨(decide_eq_false h).symm, (decide_eq_false he).symm⟩

theorem cfgOf_fits (n m : Int) : Fits (cfgOf n m) n m :=
  ⟨(classOf_fits n).1, (classOf_fits n).2.1, (classOf_fits m).1, (classOf_fits m).2.1, (classOf_fits n).2.2, (classOf_fits m).2.2, (orderOf_fits n m).1, (orderOf_fits n m).2⟩

theorem goes_of (n m : Int) : goes (cfgOf n m) = true := by
  have h1 := List.all_eq_true.1 (all_from (classOf n) (classOf_mem n)) (classOf m) (classOf_mem m)
  have h2 := List.all_eq_true.1 h1 (orderOf n m) (orderOf_mem n m)
  rw [maybe_of n m] at h2
  exact h2

theorem walk (n m : Int) (W : World) : Calls Try.prog 8 #[.int .i64 n, .int .i64 m] W fun e w' => e = .returned (.bool true) ∧ Below W.heap.size W w' :=
  calls_of_yesOf sound (goes_of n m) (vals_one n m) (known_ok (cfgOf_fits n m) W Try.prog Try.underlying3 Try.underlying5)
    (VRs_cons (by simp only [VR]; rfl) (VRs_cons (by simp only [VR]; rfl) VRs_nil))

set_option maxRecDepth 100000 in
theorem lifted (os : Os) (started : os.Started) (H : Type) (enc : TypeId × Value → H) :
    ReturnsInHanded {} Try.checked os 8 .any (Rows.fieldOrderSpec.pre6 enc Try.prog Try.f8 Rows.fieldOrderRow.domain false) (Rows.fieldOrderSpec.post enc Try.prog Try.f8 false true false false) := by
  refine returnsInHanded_of_change (C := Try.checked) own started (by kernel_rfl) Try.func8
    (ChangeSpec.witness6 (enc := enc) (C := Try.checked) false ⟨#[], #[.int .i64 0, .int .i64 0], []⟩ 8 (by kernel_rfl) (by kernel_rfl) (by kernel_rfl) (by kernel_rfl)) ?_
  intro W base args ds gs before hval0 hW hcnd _
  have hval : ∀ (j : Nat) t v, Try.f8.params[j]? = some t → args[j]? = some v → Value.okWide Try.prog W .any base t v := hval0
  have hW' := hW
  obtain ⟨p, q, hA0, hV, rfl, hfz, hnd⟩ := hW
  have hA : DataW.TrodAll enc Try.prog W 0 (fun _ => true) true Try.f8.params.toList args.toList ds p := hA0
  have hAll := hA
  rw [Try.params8] at hA hval hAll
  obtain ⟨v0, v1, d0, d1, p0, p1, rfl, rfl, rfl, h0, h1⟩ := trodAll_two hA
  obtain ⟨rfl, rfl⟩ := trodVars_none hV
  obtain ⟨n, rfl, rfl, rfl, wn⟩ := open_int Try.underlying3 (hval 0 3 _ rfl rfl) h0
  obtain ⟨m, rfl, rfl, rfl, wm⟩ := open_int Try.underlying3 (hval 1 3 _ rfl rfl) h1
  clear hA0 hval0
  refine (walk n m W).mono fun e W' ⟨he, hg⟩ => ?_
  subst he
  exact ⟨_, rfl, _, [], _, [], _, [], hW', trodAll_cons_mk (shut_bool Try.underlying4 _) trodAll_mk0, trodAll_stays laid hg _ _ _ _ hAll (fun x hx => by simp at hx) (by kernel_rfl), rfl, hg.frame _, fun h => by cases h⟩

theorem over : Rows.fieldOrderRow.holds Try.pinned (OpenSpec.ofChange Rows.fieldOrderSpec) :=
  OpenClaim.holds_of_wide 8 Try.f8 rfl rfl rfl rfl rfl rfl rfl ⟨rfl, rfl, rfl, rfl, rfl⟩ rfl rfl rfl rfl rfl (by kernel_rfl) Try.func8 (by kernel_rfl)
    (of_decide_eq_true (by kernel_rfl)) (by unfold Func.isWrapper; first | (rw [if_pos (by decide +kernel)]; kernel_rfl) | (rw [if_neg (by decide +kernel)]; exact ⟨rfl, rfl⟩))
    (fun os started H enc _ => lifted os started H enc)

/-- The statement. -/
theorem proved : Rows.FieldOrderSaid :=
  over
#print axioms proved
end Go.Proofs.Ytioeihajajacdaa.fieldOrder
