/-
  The law FieldNone of the layer field holds of the code: for every number and every byte string the call returns true, and the argument reads as it did. No condition.
-/
import Derived.Test.YtioeihajajacdaaEvl
import Derived.Test.YtioeihajajacdaaRows
import Derived.WalkKit
import Derived.ProofKit
import Derived.OpenShut
namespace Go.Proofs.Ytioeihajajacdaa.fieldNone
open Go.ChangeShapes Go.WideShapes Go.ChangeAt Go.RowKit Go.Ev

theorem own : ownKnob Try.prog.godebug = none := by kernel_rfl
theorem laid : laidOutB Try.prog = true := by kernel_rfl
theorem sound : Sound Try.prog where
  mixed := by kernel_rfl
  names f fn c hf hb := by
    have hall : Try.prog.funcs.all (fun fn => fn.body.isNone || !(fn.name == "runtime.NumGoroutine")) = true := by kernel_rfl
    have := Array.all_eq_true_iff_forall_mem.1 hall fn (Array.mem_of_getElem? hf)
    simpa [hb] using this
theorem under28 : Try.prog.underlying 28 = some (.slice 5) := by kernel_rfl
theorem under5 : Try.prog.underlying 5 = some (.int .u8) := by kernel_rfl
theorem under9 : Try.prog.underlying 9 = some .string := by kernel_rfl
theorem cells5 : Try.prog.cellsOf 5 = 1 := by kernel_rfl

/-- What is known besides: the byte string's length, whether it is above 100, its text. -/
def known (big : Bool) : Op → List AV → Option AV
  | .call { callee := .builtin .len, argTypes := tys, .. }, [.opq 1] => match tys.toList with
    | [28] => some (.opq 2)
    | _ => none
  | .binOp .gtr _ _ _ _, [.opq 2, .int .i64 100] => some (.bool big)
  | .convert 28 9 _, [.opq 1] => some (.text 3)
  | _, _ => none

def vals (n : Int) (v : Value) (len : Nat) (t : ByteArray) : Nat → Value
  | 0 => .int .i64 n
  | 1 => v
  | 2 => .int .i64 len
  | 3 => .string t
  | _ => .bool false

theorem known_ok (n : Int) {b : Option Addr} {len c : Nat} {t : ByteArray} {W : World} (hb : BytesIn W (.slice b len c) t) : FactsOK Try.prog (vals n (.slice b len c) len t) W (some (known (decide ((100 : Int) < len)))) := by
  intro G hG e he o a avs v hv hx
  simp only [Option.some.injEq] at hG
  subst hG
  unfold known at hv
  split at hv
  · rename_i args tys hop
    split at hv
    · rename_i htys
      simp only [Option.some.injEq] at hv
      subst hv
      have hops : o.op.operands.toList = args.toList := by rw [hop]; simp [Op.operands, Call.operands]
      rw [hops] at hx
      simp only [VRs, VR, he, vals] at hx
      obtain ⟨x, r, h1, rfl, rfl⟩ := hx
      exact ⟨.int .i64 len, by simp only [VR, he, vals], fun w _ => run_len_of hop htys under28 h1 w⟩
    · cases hv
  · rename_i t1 x y t2 hopp
    simp only [Option.some.injEq] at hv
    subst hv
    have hops : o.op.operands.toList = [x, y] := by rw [hopp]; simp [Op.operands]
    rw [hops] at hx
    obtain ⟨z0, hz0, hv0⟩ := hx.at 0 _ rfl
    obtain ⟨z1, hz1, hv1⟩ := hx.at 1 _ rfl
    simp only [List.map_cons, List.map_nil, List.getElem?_cons_zero, List.getElem?_cons_succ, Option.some.injEq] at hz0 hz1
    simp only [VR, he, vals] at hv0 hv1
    exact ⟨.bool (decide ((100 : Int) < len)), by simp only [VR], fun w _ => run_gtr_of hopp (hz0.trans hv0) (hz1.trans hv1) w⟩
  · rename_i x hopp
    simp only [Option.some.injEq] at hv
    subst hv
    have hops : o.op.operands.toList = [x] := by rw [hopp]; simp [Op.operands]
    rw [hops] at hx
    obtain ⟨z0, hz0, hv0⟩ := hx.at 0 _ rfl
    simp only [List.map_cons, List.map_nil, List.getElem?_cons_zero, Option.some.injEq] at hz0
    simp only [VR, he, vals] at hv0
    exact ⟨.string t, by simp only [VR, he, vals]; exact ⟨t, rfl, rfl⟩, fun w hw => run_str_of hopp under28 under5 under9 hb (hz0.trans hv0) hw⟩
  · cases hv

theorem yes_big : yesOf Try.prog (some (known true)) 2000 30 5 [.opq 0, .opq 1] = true := by kernel_rfl
theorem yes_small : yesOf Try.prog (some (known false)) 2000 30 5 [.opq 0, .opq 1] = true := by kernel_rfl

theorem walk (n : Int) {b : Option Addr} {len c : Nat} {t : ByteArray} {W : World} (hb : BytesIn W (.slice b len c) t) :
    Calls Try.prog 5 #[.int .i64 n, .slice b len c] W fun e w' => e = .returned (.bool true) ∧ Below W.heap.size W w' := by
  have hy : yesOf Try.prog (some (known (decide ((100 : Int) < len)))) 2000 30 5 [.opq 0, .opq 1] = true := by
    cases decide ((100 : Int) < len)
    · exact yes_small
    · exact yes_big
  have h1 : ∀ i, (vals n (.slice b len c) len t i).oneCell' = true := fun i => by
    match i with
    | 0 => rfl
    | 1 => rfl
    | 2 => rfl
    | 3 => rfl
    | _ + 4 => rfl
  exact calls_of_yesOf sound hy h1 (known_ok n hb) (VRs_cons (by simp only [VR]; rfl) (VRs_cons (by simp only [VR]; rfl) VRs_nil))

set_option maxRecDepth 100000 in
theorem lifted (os : Os) (started : os.Started) (H : Type) (enc : TypeId × Value → H) :
    ReturnsInHanded {} Try.checked os 5 .any (Rows.fieldNoneSpec.pre6 enc Try.prog Try.f5 Rows.fieldNoneRow.domain false) (Rows.fieldNoneSpec.post enc Try.prog Try.f5 false true false false) := by
  refine returnsInHanded_of_change (C := Try.checked) own started (by kernel_rfl) Try.func5
    (ChangeSpec.witness6 (enc := enc) (C := Try.checked) false ⟨#[], #[.int .i64 0, .slice none 0 0], []⟩ 8 (by kernel_rfl) (by kernel_rfl) (by kernel_rfl) (by kernel_rfl)) ?_
  intro W base args ds gs before hval0 hW hcnd _
  have hval : ∀ (j : Nat) t v, Try.f5.params[j]? = some t → args[j]? = some v → Value.okWide Try.prog W .any base t v := hval0
  have hW' := hW
  have hlt := hW.lt
  obtain ⟨p, q, hA0, hV, rfl, hfz, hnd⟩ := hW
  have hA : DataW.TrodAll enc Try.prog W 0 (fun _ => true) true Try.f5.params.toList args.toList ds p := hA0
  have hAll := hA
  rw [Try.params5] at hA hval hAll
  obtain ⟨v0, v1, d0, d1, p0, p1, rfl, rfl, rfl, h0, h1⟩ := trodAll_two hA
  obtain ⟨rfl, rfl⟩ := trodVars_none hV
  obtain ⟨n, rfl, rfl, rfl, wn⟩ := open_int Try.underlying3 (hval 0 3 _ rfl rfl) h0
  have hv1 := hval 1 28 _ rfl rfl
  obtain ⟨t, hb⟩ := bytesIn_of_trod (el := 5) under28 under5 cells5 hv1 h1
  obtain ⟨b, len, c, rfl, hr⟩ := hb
  clear hA0 hval0
  refine (walk n ⟨b, len, c, rfl, hr⟩).mono fun e W' ⟨he, hg⟩ => ?_
  subst he
  exact ⟨_, rfl, _, [], _, [], _, [], hW', trodAll_cons_mk (shut_bool Try.underlying4 _) trodAll_mk0, trodAll_stays laid hg _ _ _ _ hAll (fun x hx => hlt x (by simpa using hx)) (by kernel_rfl), rfl, hg.frame _, fun h => by cases h⟩

theorem over : Rows.fieldNoneRow.holds Try.pinned (OpenSpec.ofChange Rows.fieldNoneSpec) :=
  OpenClaim.holds_of_wide 5 Try.f5 rfl rfl rfl rfl rfl rfl rfl ⟨rfl, rfl, rfl, rfl, rfl⟩ rfl rfl rfl rfl rfl (by kernel_rfl) Try.func5 (by kernel_rfl)
    (of_decide_eq_true (by kernel_rfl)) (by unfold Func.isWrapper; first | (rw [if_pos (by decide +kernel)]; kernel_rfl) | (rw [if_neg (by decide +kernel)]; exact ⟨rfl, rfl⟩))
    (fun os started H enc _ => lifted os started H enc)

/-- The statement. -/
theorem proved : Rows.FieldNoneSaid :=
  over
#print axioms proved
end Go.Proofs.Ytioeihajajacdaa.fieldNone
