/-
  strings.Repeat on known arguments, by the library's contract, as a call that the evaluator knows. No condition.
-/
import Derived.Test.YtckphemfgofnmaaSycp
import Derived.Test.YtckphemfgofnmaaCo
import Derived.Test.YtckphemfgofnmaaShelf
set_option linter.unusedSimpArgs false
set_option linter.unusedVariables false
namespace Go.Proofs.Ytckphemfgofnmaa.Rp
open Go.RowKit Go.Ev Go.Proofs.Ytckphemfgofnmaa.Co

def repCall : Caller := fun f args s => match Nat.beq f 28 with
  | true => match args with
    | [.str b, .int .i64 n] => match n with
      | .ofNat c => match decide (c ≤ 1000000 ∧ b.size * c ≤ 1000000) with
        | true => some (.ret (.str ⟨(Lib.repeatL b.data.toList c).toArray⟩), s)
        | false => none
      | _ => none
    | _ => none
  | false => none

theorem repCall_ok {Ω : Om} {w0 : Base} : CallOK Try.prog Ω w0 repCall := by
  intro f args s en s' k e w al hr ha
  unfold repCall at k
  split at k
  · rename_i hf
    have hf := Nat.eq_of_beq_eq_true hf
    subst hf
    split at k
    · split at k
      · split at k
        · rename_i hc
          have hc := of_decide_eq_true hc
          simp only [Option.some.injEq, Prod.mk.injEq] at k
          obtain ⟨rfl, rfl⟩ := k
          simp only [VRs, VR] at ha
          obtain ⟨_, _, rfl, rfl, _, _, rfl, rfl, rfl⟩ := ha
          refine Calls.mono (Try.strings_Repeat _ _ w (Nat.le_trans hc.1 (by decide)) (Nat.le_trans hc.2 (by decide))) fun E w' ⟨he, hb⟩ => ⟨e, Env.le_refl e, hr.below_later hb, ?_⟩
          subst he
          simp only [EnR, VR]
        · cases k
      · cases k
    · cases k
  · cases k
end Go.Proofs.Ytckphemfgofnmaa.Rp
