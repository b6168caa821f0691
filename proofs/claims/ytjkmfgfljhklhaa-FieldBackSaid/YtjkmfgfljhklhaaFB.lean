/-
  The law FieldBack of the layer field holds of the code: for all inputs the call returns true, and the arguments read as they did. No condition.
-/
import Derived.Test.YtjkmfgfljhklhaaCo
import Derived.Test.YtjkmfgfljhklhaaFBh
import Derived.Test.YtjkmfgfljhklhaaFBa
import Derived.Test.YtjkmfgfljhklhaaFBb
import Derived.Test.YtjkmfgfljhklhaaFBc
import Derived.Test.YtjkmfgfljhklhaaFBd
import Derived.Test.YtjkmfgfljhklhaaSycp
import Derived.Test.YtjkmfgfljhklhaaFa
import Derived.WalkKit
import Derived.ProofKit
import Derived.OpenShut
set_option linter.unusedSimpArgs false
set_option linter.unusedVariables false
namespace Go.Proofs.Ytjkmfgfljhklhaa.fieldBack
open Go.ChangeShapes Go.WideShapes Go.ChangeAt Go.RowKit Go.Ev Go.Proofs.Ytjkmfgfljhklhaa.Co Go.Proofs.Ytjkmfgfljhklhaa.Fa

theorem underS28 : Try.prog.underlying 28 = some (.slice 5) := by kernel_rfl
theorem underE5 : Try.prog.underlying 5 = some (.int .u8) := by kernel_rfl
theorem cellsE5 : Try.prog.cellsOf 5 = 1 := by kernel_rfl
theorem underI3 : Try.prog.underlying 3 = some (.int .i64) := by kernel_rfl
theorem underStr9 : Try.prog.underlying 9 = some .string := by kernel_rfl
theorem underA33 : Try.prog.underlying 33 = some (.array 16 5) := by kernel_rfl
theorem cellsA33 : Try.prog.cellsOf 33 = 16 := by kernel_rfl
theorem underAE5 : Try.prog.underlying 5 = some (.int .u8) := by kernel_rfl
theorem cellsAE5 : Try.prog.cellsOf 5 = 1 := by kernel_rfl

set_option maxRecDepth 100000 in
theorem lifted (os : Os) (started : os.Started) (H : Type) (enc : TypeId × Value → H) :
    ReturnsInHanded {} Try.checked os 5 .any (Rows.fieldBackSpec.pre6 enc Try.prog Try.f5 Rows.fieldBackRow.domain false) (Rows.fieldBackSpec.post enc Try.prog Try.f5 false true false false) := by
  refine returnsInHanded_of_change (C := Try.checked) own started (by kernel_rfl) Try.func5
    (ChangeSpec.witness6 (enc := enc) (C := Try.checked) false ⟨#[], #[.int .i64 0, .slice none 0 0, .string ByteArray.empty, .agg #[.int .u8 0, .int .u8 0, .int .u8 0, .int .u8 0, .int .u8 0, .int .u8 0, .int .u8 0, .int .u8 0, .int .u8 0, .int .u8 0, .int .u8 0, .int .u8 0, .int .u8 0, .int .u8 0, .int .u8 0, .int .u8 0], .slice none 0 0, .slice none 0 0], []⟩ 8 (by kernel_rfl) (by kernel_rfl) (by kernel_rfl) (by kernel_rfl)) ?_
  intro W base args ds gs before hval0 hW hcnd _
  have hval : ∀ (j : Nat) t v, Try.f5.params[j]? = some t → args[j]? = some v → Value.okWide Try.prog W .any base t v := hval0
  have hW' := hW
  have hlt := hW.lt
  obtain ⟨p, q, hA0, hV, rfl, hfz, hnd⟩ := hW
  have hA : DataW.TrodAll enc Try.prog W 0 (fun _ => true) true Try.f5.params.toList args.toList ds p := hA0
  have hAll := hA
  rw [Try.params5] at hA hval hAll
  obtain ⟨rfl, rfl⟩ := trodVars_none hV
  obtain ⟨v0, v1, v2, v3, v4, v5, d0, d1, d2, d3, d4, d5, p0, p1, p2, p3, p4, p5, rfl, rfl, rfl, h0, h1, h2, h3, h4, h5⟩ := trodAll_six hA
  obtain ⟨n0, rfl, rfl, rfl, wn0⟩ := open_int underI3 (hval 0 3 _ rfl rfl) h0
  have wn0 := wf_inK wn0
  have s1 := in_slice (k := .u8) underS28 underE5 cellsE5 (hval 1 28 _ rfl rfl) h1
  obtain ⟨s2, rfl, rfl, max2⟩ := in_str underStr9 (hval 2 9 _ rfl rfl) h2
  obtain ⟨zs3, rfl, zl3, rng3, rfl⟩ := in_arr underA33 underAE5 cellsAE5 cellsA33 (hval 3 33 _ rfl rfl) h3
  have s4 := in_slice (k := .u8) underS28 underE5 cellsE5 (hval 4 28 _ rfl rfl) h4
  have s5 := in_slice (k := .u8) underS28 underE5 cellsE5 (hval 5 28 _ rfl rfl) h5
  clear hA0 hval0
  have hcall : Calls Try.prog 5 #[.int .i64 n0, v1, .string s2, .agg (zs3.map (Value.int .u8)).toArray, v4, v5] W fun e w' => e = .returned (.bool true) ∧ Below W.heap.size W w' := by
    rcases s1 with rfl | ⟨a1, c1, rfl⟩ | ⟨_, _, _, _, _, s1⟩
    · rcases s4 with rfl | ⟨a4, c4, rfl⟩ | ⟨_, _, _, _, _, s4⟩
      · rcases s5 with rfl | ⟨a5, c5, rfl⟩ | ⟨_, _, _, _, _, s5⟩
        · exact c_emp_emp_nil_walk wn0 (fun _ => vr_emptyN) max2 zl3 rng3 (fun _ => vr_emptyN) (globs0 _ W)
        · exact c_emp_emp_hol_walk wn0 (fun _ => vr_emptyN) max2 zl3 rng3 (fun _ => vr_emptyN) a5 c5 (globs0 _ W)
        · exact c_emp_emp_in_walk wn0 (fun _ => vr_emptyN) max2 zl3 rng3 (fun _ => vr_emptyN) s5 (globs0 _ W)
      · rcases s5 with rfl | ⟨a5, c5, rfl⟩ | ⟨_, _, _, _, _, s5⟩
        · exact c_emp_emp_nil_walk wn0 (fun _ => vr_emptyN) max2 zl3 rng3 (fun _ => vr_emptyH a4 c4) (globs0 _ W)
        · exact c_emp_emp_hol_walk wn0 (fun _ => vr_emptyN) max2 zl3 rng3 (fun _ => vr_emptyH a4 c4) a5 c5 (globs0 _ W)
        · exact c_emp_emp_in_walk wn0 (fun _ => vr_emptyN) max2 zl3 rng3 (fun _ => vr_emptyH a4 c4) s5 (globs0 _ W)
      · rcases s5 with rfl | ⟨a5, c5, rfl⟩ | ⟨_, _, _, _, _, s5⟩
        · exact c_emp_in_nil_walk wn0 (fun _ => vr_emptyN) max2 zl3 rng3 s4 (globs0 _ W)
        · exact c_emp_in_hol_walk wn0 (fun _ => vr_emptyN) max2 zl3 rng3 s4 a5 c5 (globs0 _ W)
        · exact c_emp_in_in_walk wn0 (fun _ => vr_emptyN) max2 zl3 rng3 s4 s5 (globs0 _ W)
    · rcases s4 with rfl | ⟨a4, c4, rfl⟩ | ⟨_, _, _, _, _, s4⟩
      · rcases s5 with rfl | ⟨a5, c5, rfl⟩ | ⟨_, _, _, _, _, s5⟩
        · exact c_emp_emp_nil_walk wn0 (fun _ => vr_emptyH a1 c1) max2 zl3 rng3 (fun _ => vr_emptyN) (globs0 _ W)
        · exact c_emp_emp_hol_walk wn0 (fun _ => vr_emptyH a1 c1) max2 zl3 rng3 (fun _ => vr_emptyN) a5 c5 (globs0 _ W)
        · exact c_emp_emp_in_walk wn0 (fun _ => vr_emptyH a1 c1) max2 zl3 rng3 (fun _ => vr_emptyN) s5 (globs0 _ W)
      · rcases s5 with rfl | ⟨a5, c5, rfl⟩ | ⟨_, _, _, _, _, s5⟩
        · exact c_emp_emp_nil_walk wn0 (fun _ => vr_emptyH a1 c1) max2 zl3 rng3 (fun _ => vr_emptyH a4 c4) (globs0 _ W)
        · exact c_emp_emp_hol_walk wn0 (fun _ => vr_emptyH a1 c1) max2 zl3 rng3 (fun _ => vr_emptyH a4 c4) a5 c5 (globs0 _ W)
        · exact c_emp_emp_in_walk wn0 (fun _ => vr_emptyH a1 c1) max2 zl3 rng3 (fun _ => vr_emptyH a4 c4) s5 (globs0 _ W)
      · rcases s5 with rfl | ⟨a5, c5, rfl⟩ | ⟨_, _, _, _, _, s5⟩
        · exact c_emp_in_nil_walk wn0 (fun _ => vr_emptyH a1 c1) max2 zl3 rng3 s4 (globs0 _ W)
        · exact c_emp_in_hol_walk wn0 (fun _ => vr_emptyH a1 c1) max2 zl3 rng3 s4 a5 c5 (globs0 _ W)
        · exact c_emp_in_in_walk wn0 (fun _ => vr_emptyH a1 c1) max2 zl3 rng3 s4 s5 (globs0 _ W)
    · rcases s4 with rfl | ⟨a4, c4, rfl⟩ | ⟨_, _, _, _, _, s4⟩
      · rcases s5 with rfl | ⟨a5, c5, rfl⟩ | ⟨_, _, _, _, _, s5⟩
        · exact c_in_emp_nil_walk wn0 s1 max2 zl3 rng3 (fun _ => vr_emptyN) (globs0 _ W)
        · exact c_in_emp_hol_walk wn0 s1 max2 zl3 rng3 (fun _ => vr_emptyN) a5 c5 (globs0 _ W)
        · exact c_in_emp_in_walk wn0 s1 max2 zl3 rng3 (fun _ => vr_emptyN) s5 (globs0 _ W)
      · rcases s5 with rfl | ⟨a5, c5, rfl⟩ | ⟨_, _, _, _, _, s5⟩
        · exact c_in_emp_nil_walk wn0 s1 max2 zl3 rng3 (fun _ => vr_emptyH a4 c4) (globs0 _ W)
        · exact c_in_emp_hol_walk wn0 s1 max2 zl3 rng3 (fun _ => vr_emptyH a4 c4) a5 c5 (globs0 _ W)
        · exact c_in_emp_in_walk wn0 s1 max2 zl3 rng3 (fun _ => vr_emptyH a4 c4) s5 (globs0 _ W)
      · rcases s5 with rfl | ⟨a5, c5, rfl⟩ | ⟨_, _, _, _, _, s5⟩
        · exact c_in_in_nil_walk wn0 s1 max2 zl3 rng3 s4 (globs0 _ W)
        · exact c_in_in_hol_walk wn0 s1 max2 zl3 rng3 s4 a5 c5 (globs0 _ W)
        · exact c_in_in_in_walk wn0 s1 max2 zl3 rng3 s4 s5 (globs0 _ W)
  refine hcall.mono fun e W' ⟨he, hg⟩ => ?_
  subst he
  exact ⟨_, rfl, _, [], _, [], _, [], hW', trodAll_cons_mk (shut_bool Try.underlying4 _) trodAll_mk0, trodAll_stays laid hg _ _ _ _ hAll (fun x hx => hlt x (by simpa using hx)) (by kernel_rfl), rfl, hg.frame _, fun h => by cases h⟩

theorem over : Rows.fieldBackRow.holds Try.pinned (OpenSpec.ofChange Rows.fieldBackSpec) :=
  OpenClaim.holds_of_wide 5 Try.f5 rfl rfl rfl rfl rfl rfl rfl ⟨rfl, rfl, rfl, rfl, rfl⟩ rfl rfl rfl rfl rfl (by kernel_rfl) Try.func5 (by kernel_rfl)
    (of_decide_eq_true (by kernel_rfl)) (by unfold Func.isWrapper; first | (rw [if_pos (by decide +kernel)]; kernel_rfl) | (rw [if_neg (by decide +kernel)]; exact ⟨rfl, rfl⟩))
    (fun os started H enc _ => lifted os started H enc)

/-- The statement. -/
theorem proved : Rows.FieldBackSaid :=
  over
#print axioms proved
end Go.Proofs.Ytjkmfgfljhklhaa.fieldBack
