/- Calls on values without addresses, each gone through once, with loops that are known: what they come to is reckoned. No condition. -/
import Derived.Test.YtidjfojcifjdjaaDoorSyy
namespace Go.Ev
open Go.RowKit

def E.shut : E → Bool
 | .var _ => false
 | .int _ => true
 | .lits _ => true
 | .fn _ x => x.shut
 | .un _ x => x.shut
 | .bi _ x y => x.shut && y.shut
 | .tr _ x y z => x.shut && y.shut && z.shut

theorem den_shut {Ω Ω' : Om} (hf : Ω.f = Ω'.f) : ∀ x : E, x.shut = true → x.den Ω = x.den Ω'
 | .var i, k => by cases k
 | .int _, _ => rfl
 | .lits _, _ => rfl
 | .fn g x, k => by simp only [E.den, hf, den_shut hf x k]
 | .un o x, k => by simp only [E.den, den_shut hf x k]
 | .bi o x y, k => by
  simp only [E.shut, bae] at k;simp only [E.den, den_shut hf x k.1, den_shut hf y k.2]
 | .tr o x y z, k => by
  simp only [E.shut, bae] at k;simp only [E.den, den_shut hf x k.1.1, den_shut hf y k.1.2, den_shut hf z k.2]

def omOf (f : Nat → D → D) : Om := ⟨fun _ => .bool false, fun _ => .int 0, f⟩
def metB (f : Nat → D → D) : Duty → Bool
 | (true, x, y) => x.shut && y.shut && decide (x.i (omOf f) = y.i (omOf f))
 | (false, x, y) => x.shut && y.shut && eqInts (x.s (omOf f)) (y.s (omOf f))
theorem metB_ok {f : Nat → D → D} {Ω : Om} (hf : Ω.f = f) : ∀ {p : Duty}, metB f p = true → Duty.met Ω p
 | (true, x, y), h => by
  simp only [metB, bae, decide_eq_true_eq] at h;show x.i Ω = y.i Ω;unfold E.i at h ⊢;rw [den_shut (Ω' := omOf f) hf x h.1.1, den_shut (Ω' := omOf f) hf y h.1.2];exact h.2
 | (false, x, y), h => by
  simp only [metB, bae] at h;show x.s Ω = y.s Ω;have h2 := eqInts_eq h.2;unfold E.s at h2 ⊢;rw [den_shut (Ω' := omOf f) hf x h.1.1, den_shut (Ω' := omOf f) hf y h.1.2];exact h2

def noAsk : Ask := fun _ => none
theorem noAsk_ok (Ω : Om) : AskOK Ω noAsk := fun _ _ h => by cases h

def metAll (f : Nat → D → D) : Option (List Duty) → Bool
 | some ds => ds.all (metB f)
 | none => false

def memoYesL (P : Program) (tab : List LEntry) (f : Nat → D → D) (l : List Memo) (g : List (Nat × List AV)) (fuel depth : Nat) (m : Memo) : Bool :=
 (toVals m.args).isSome && (toVal m.res).isSome && match callN P (knownOf noAsk tab (memoCall l)) fuel depth m.f m.args (globSt g) with
  | some (.ret v, _) => metAll f (seeA [] v m.res)
  | _ => false

theorem memoL_ok {P : Program} (S : Sound P) {g : List (Nat × List AV)} {tab : List LEntry} {f : Nat → D → D} (htab : TableOK P tab f) : ∀ {l l0 : List Memo} {Ω : Om} {W : World}, Ω.f = f → GlobsR Ω W g → CallOK P Ω (Base.all W) (memoCall l) →
  ∀ m fuel depth, (∀ (Ω : Om) (W : World), Ω.f = f → GlobsR Ω W g → CallOK P Ω (Base.all W) (memoCall l0)) → memoYesL P tab f l0 g fuel depth m = true → CallOK P Ω (Base.all W) (memoCall (m :: l)) := by
 intro l l0 Ω W hΩ hg hl m fuel depth hl0 hm;intro f' args s en s' k e w as hr ha;simp only [memoCall] at k;split at k
 ·rename_i hc;simp only [bae] at hc;have h1 := beq_t hc.1;have h2 := AV.sames_eq hc.2;simp only [sme, pme] at k;obtain ⟨rfl, rfl⟩ := k;subst h1 h2;unfold memoYesL at hm;simp only [bae] at hm;obtain ⟨⟨m1, m2⟩, m3⟩ := hm;obtain ⟨xs, hxs⟩ := Option.isSome_iff_exists.1 m1;obtain ⟨x, hx⟩ := Option.isSome_iff_exists.1 m2;have e1 := VRs.toVals _ _ _ ha hxs;subst e1;split at m3
  ·rename_i v s2 hcall;unfold metAll at m3;split at m3
   ·rename_i ds hds;have hgw := hg.later hr.below;have hK : KnownOK P Ω (Base.all w) (knownOf noAsk tab (memoCall l0)) := knownOf_ok htab hΩ (noAsk_ok Ω) (hl0 Ω w hΩ hgw);refine (callN_ok S hK fuel depth m.f m.args _ _ _ hcall (Env.none Ω w) w as (Rel.globs Ω w g hgw) (toVals_vr _ _ hxs)).mono fun E w' ⟨e', g1, g2, g3⟩ => ?_
    refine ⟨e, Env.le_refl e, hr.later g2.below.os g2.below.tape g2.below.output g2.below.size (fun j hj => g2.below.block j hj rfl), ?_⟩;cases E with
    | returned y =>
     simp only [EnR] at g3 ⊢;have hd : Duties e'.opq ds := fun p hp => by
      rw [g2.opq]; exact metB_ok hΩ (List.all_eq_true.1 m3 p hp)
     have := seeA_vr (Env.pull_ok e' []) v m.res ds hds hd y g3;have := VR.toVal _ _ _ this hx;subst this;exact toVal_vr _ _ hx
    | panicked l => exact g3.elim
    | outgrown => exact g3.elim
   ·cases m3
  ·cases m3
 ·exact hl f' args s en s' k e w as hr ha

end Go.Ev
