/- Calls on values without addresses, each gone through once, for itself: what they come to is known from then on. No condition. -/
import Derived.Test.YtidjfojcifjdjaaDoorSym
namespace Go.Ev
open Go.RowKit

mutual
def AV.same : AV → AV → Bool
 | .bool a, .bool b => a == b
 | .int k a, .int l b => decide (k = l) && decide (a = b)
 | .float k a, .float l b => decide (k = l) && Nat.beq a b
 | .str a, .str b => decide (a.data.toList = b.data.toList)
 | .nilptr, .nilptr => true
 | .nilslice, .nilslice => true
 | .nilmap, .nilmap => true
 | .nilfunc, .nilfunc => true
 | .niliface, .niliface => true
 | .iface t v, .iface u w => Nat.beq t u && AV.same v w
 | .agg l, .agg m => AV.sames l m
 | .tuple l, .tuple m => AV.sames l m
 | _, _ => false
def AV.sames : List AV → List AV → Bool
 | [], [] => true
 | a :: l, b :: m => AV.same a b && AV.sames l m
 | _, _ => false
end

mutual
theorem AV.same_eq : ∀ {v u : AV}, AV.same v u = true → v = u
 | v, u, h => by
  cases v <;> cases u <;> simp only [AV.same, Bool.false_eq_true, bae, decide_eq_true_eq, beq_iff_eq] at h
  ·rw [h]
  ·rw [h.1, h.2]
  ·rw [h.1, beq_t h.2]
  ·rename_i a b;have : a = b := by
    cases a; cases b;simp only at h;rw [Array.toList_inj.1 h]
   rw [this]
  ·rfl
  ·rfl
  ·rfl
  ·rfl
  ·rw [beq_t h.1, AV.same_eq h.2]
  ·rfl
  ·rw [AV.sames_eq h]
  ·rw [AV.sames_eq h]
theorem AV.sames_eq : ∀ {l m : List AV}, AV.sames l m = true → l = m
 | [], m, h => by
  cases m
  ·rfl
  ·simp [AV.sames] at h
 | a :: l, m, h => by
  cases m with
  | nil => simp [AV.sames] at h
  | cons b m =>
   simp only [AV.sames, bae] at h;rw [AV.same_eq h.1, AV.sames_eq h.2]
end

mutual
theorem toVal_vr {e : Env} : ∀ (v : AV) (x : Value), toVal v = some x → VR e v x
 | v, x, h => by
  cases v <;> simp only [toVal, reduceCtorEq, sme] at h
  all_goals first
   | (subst h; simp only [VR]; done)
   | skip
  ·simp only [Option.map_eq_some_iff] at h;obtain ⟨y, hy, rfl⟩ := h;simp only [VR];exact ⟨y, rfl, toVal_vr _ _ hy⟩
  ·simp only [Option.map_eq_some_iff] at h;obtain ⟨y, hy, rfl⟩ := h;simp only [VR];exact ⟨_, rfl, toVals_vr _ _ hy⟩
  ·simp only [Option.map_eq_some_iff] at h;obtain ⟨y, hy, rfl⟩ := h;simp only [VR];exact ⟨_, rfl, toVals_vr _ _ hy⟩
theorem toVals_vr {e : Env} : ∀ (v : List AV) (x : List Value), toVals v = some x → VRs e v x
 | [], x, h => by simp only [toVals, sme] at h; subst h; exact VRs_nil
 | c :: cs, x, h => by
  simp only [toVals] at h;split at h
  ·rename_i y r hy hr;simp only [sme] at h;subst h;exact VRs_cons (toVal_vr _ _ hy) (toVals_vr _ _ hr)
  ·cases h
end

structure Memo where
 f : FuncId
 args : List AV
 res : AV

def memoCall : List Memo → Caller
 | [], _, _, _ => none
 | m :: r, f, args, s => match Nat.beq m.f f && AV.sames m.args args with
  | true => some (.ret m.res, s)
  | false => memoCall r f args s

def memoYes (P : Program) (l : List Memo) (g : List (Nat × List AV)) (fuel depth : Nat) (m : Memo) : Bool :=
 (toVals m.args).isSome && (toVal m.res).isSome && match callN P ⟨noFacts, fun _ => noLoops, memoCall l⟩ fuel depth m.f m.args (globSt g) with
  | some (.ret v, _) => AV.same v m.res
  | _ => false

def GlobsR (Ω : Om) (W : World) (g : List (Nat × List AV)) : Prop := ∀ p ∈ g, ∃ vs, GlobR W p.1 vs ∧ VRs (Env.none Ω W) p.2 vs

theorem poolW_later {W w : World} (hb : Und (Base.all W) w) : Pool.le (poolW W) (poolW w) := fun k arr h => by
 obtain ⟨el, fz, g⟩ := poolW_cells h;exact poolW_of (by rw [hb.block k (Array.getElem?_eq_some_iff.1 g).1 rfl]; exact g)

theorem GlobsR.later {Ω : Om} {W w : World} {g : List (Nat × List AV)} (h : GlobsR Ω W g) (hb : Und (Base.all W) w) : GlobsR Ω w g := fun p hp => by
 obtain ⟨vs, h1, h2⟩ := h p hp;refine ⟨vs, ⟨fun i => ?_, h1.some⟩, VRs.mono (show (Env.none Ω W).le (Env.none Ω w) from ⟨fun _ _ h => ⟨h, rfl, rfl⟩, rfl, poolW_later hb⟩) _ _ h2⟩;have h0 := h1.cell 0;obtain ⟨v0, hv0⟩ : ∃ v, vs[0]? = some v := by
  cases hvs : vs with
  | nil => exact absurd hvs h1.some
  | cons a l => exact ⟨a, rfl⟩
 rw [hv0] at h0;have hlt := World.block_lt_of_cell? W _ h0;rw [← h1.cell i];exact World.cell?_of_block (w := W) (hb.block p.1 hlt rfl)

theorem memo_ok {P : Program} (S : Sound P) {g : List (Nat × List AV)} : ∀ {l l0 : List Memo} {Ω : Om} {W : World}, GlobsR Ω W g → CallOK P Ω (Base.all W) (memoCall l) →
  ∀ m fuel depth, (∀ (Ω : Om) (W : World), GlobsR Ω W g → CallOK P Ω (Base.all W) (memoCall l0)) → memoYes P l0 g fuel depth m = true → CallOK P Ω (Base.all W) (memoCall (m :: l)) := by
 intro l l0 Ω W hg hl m fuel depth hl0 hm;intro f args s en s' k e w as hr ha;simp only [memoCall] at k;split at k
 ·rename_i hc;simp only [bae] at hc;have h1 := beq_t hc.1;have h2 := AV.sames_eq hc.2;simp only [sme, pme] at k;obtain ⟨rfl, rfl⟩ := k;subst h1 h2;unfold memoYes at hm;simp only [bae] at hm;obtain ⟨⟨m1, m2⟩, m3⟩ := hm;obtain ⟨xs, hxs⟩ := Option.isSome_iff_exists.1 m1;obtain ⟨x, hx⟩ := Option.isSome_iff_exists.1 m2;have e1 := VRs.toVals _ _ _ ha hxs;subst e1;split at m3
  ·rename_i v s2 hcall;have e2 := AV.same_eq m3;subst e2;have hgw := hg.later hr.below;have hK : KnownOK P Ω (Base.all w) ⟨noFacts, fun _ => noLoops, memoCall l0⟩ := ⟨noFacts_ok _ _ _, fun _ _ _ _ _ => noLoops_ok _ _ _ _, hl0 Ω w hgw⟩
   refine (callN_ok S hK fuel depth m.f m.args _ _ _ hcall (Env.none Ω w) w as (Rel.globs Ω w g hgw) (toVals_vr _ _ hxs)).mono fun E w' ⟨e', g1, g2, g3⟩ => ?_
   refine ⟨e, Env.le_refl e, hr.later g2.below.os g2.below.tape g2.below.output g2.below.size (fun j hj => g2.below.block j hj rfl), ?_⟩;cases E with
   | returned y =>
    simp only [EnR] at g3 ⊢;have := VR.toVal _ _ _ g3 hx;subst this;exact toVal_vr _ _ hx
   | panicked l => exact g3.elim
   | outgrown => exact g3.elim
  ·cases m3
 ·exact hl f args s en s' k e w as hr ha

theorem memoNil_ok (P : Program) (Ω : Om) (w0 : Base) : CallOK P Ω w0 (memoCall []) := fun _ _ _ _ _ k => by cases k

def withMemos (F : Facts) (l : List Memo) : Known := ⟨F, fun _ => noLoops, memoCall l⟩
theorem withMemos_ok {P : Program} {Ω : Om} {w0 : Base} {F : Facts} {l : List Memo} (h : FactsOK P Ω w0 F) (hl : CallOK P Ω w0 (memoCall l)) : KnownOK P Ω w0 (withMemos F l) := ⟨h, fun _ _ _ _ _ => noLoops_ok _ _ _ _, hl⟩

end Go.Ev
