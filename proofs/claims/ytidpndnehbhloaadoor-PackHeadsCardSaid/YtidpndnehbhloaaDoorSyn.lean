/- Calls on values without addresses, each gone through once, for itself: what they come to is known from then on. No condition. -/
import Derived.Test.YtidpndnehbhloaaDoorSym
namespace Go.Ev
open Go.RowKit

mutual
def AV.same : AV → AV → Bool
 | .bool a, .bool b => a == b
 | .int k a, .int l b => decide (k = l) && decide (a = b)
 | .float k a, .float l b => decide (k = l) && Nat.beq a b
 | .str a, .str b => decide (a.data.toList = b.data.toList)
 | .nilptr, .nilptr => true
 | .nilslice, .nilslice => true
 | .nilmap, .nilmap => true
 | .nilfunc, .nilfunc => true
 | .niliface, .niliface => true
 | .iface t v, .iface u w => Nat.beq t u && AV.same v w
 | .agg l, .agg m => AV.sames l m
 | .tuple l, .tuple m => AV.sames l m
 | _, _ => false
def AV.sames : List AV → List AV → Bool
 | [], [] => true
 | a :: l, b :: m => AV.same a b && AV.sames l m
 | _, _ => false
end

mutual
theorem AV.same_eq : ∀ {v u : AV}, AV.same v u = true → v = u
 | v, u, h => by
  cases v <;> cases u <;> simp only [AV.same, Bool.false_eq_true, bae, decide_eq_true_eq, beq_iff_eq] at h
  ·rw [h]
  ·rw [h.1, h.2]
  ·rw [h.1, beq_t h.2]
  ·rename_i a b;have : a = b := by
    cases a; cases b;simp only at h;rw [Array.toList_inj.1 h]
   rw [this]
  ·rfl
  ·rfl
  ·rfl
  ·rfl
  ·rw [beq_t h.1, AV.same_eq h.2]
  ·rfl
  ·rw [AV.sames_eq h]
  ·rw [AV.sames_eq h]
theorem AV.sames_eq : ∀ {l m : List AV}, AV.sames l m = true → l = m
 | [], m, h => by
  cases m
  ·rfl
  ·simp [AV.sames] at h
 | a :: l, m, h => by
  cases m with
  | nil => simp [AV.sames] at h
  | cons b m =>
   simp only [AV.sames, bae] at h;rw [AV.same_eq h.1, AV.sames_eq h.2]
end

mutual
theorem toVal_vr {e : Env} : ∀ (v : AV) (x : Value), toVal v = some x → VR e v x
 | v, x, h => by
  cases v <;> simp only [toVal, reduceCtorEq, sme] at h
  all_goals first
   | (subst h; simp only [VR]; done)
   | skip
  ·simp only [Option.map_eq_some_iff] at h;obtain ⟨y, hy, rfl⟩ := h;simp only [VR];exact ⟨y, rfl, toVal_vr _ _ hy⟩
  ·simp only [Option.map_eq_some_iff] at h;obtain ⟨y, hy, rfl⟩ := h;simp only [VR];exact ⟨_, rfl, toVals_vr _ _ hy⟩
  ·simp only [Option.map_eq_some_iff] at h;obtain ⟨y, hy, rfl⟩ := h;simp only [VR];exact ⟨_, rfl, toVals_vr _ _ hy⟩
theorem toVals_vr {e : Env} : ∀ (v : List AV) (x : List Value), toVals v = some x → VRs e v x
 | [], x, h => by simp only [toVals, sme] at h; subst h; exact VRs_nil
 | c :: cs, x, h => by
  simp only [toVals] at h;split at h
  ·rename_i y r hy hr;simp only [sme] at h;subst h;exact VRs_cons (toVal_vr _ _ hy) (toVals_vr _ _ hr)
  ·cases h
end

structure Memo where
 f : FuncId
 args : List AV
 res : AV

def GlobsR (Ω : Om) (W : World) (g : List (Nat × List AV)) : Prop := ∀ p ∈ g, ∃ vs, GlobR W p.1 vs ∧ VRs (Env.none Ω W) p.2 vs

theorem poolW_later {W w : World} (hb : Und (Base.all W) w) : Pool.le (poolW W) (poolW w) := fun k arr h => by
 obtain ⟨el, fz, g⟩ := poolW_cells h;exact poolW_of (by rw [hb.block k (Array.getElem?_eq_some_iff.1 g).1 rfl]; exact g)

theorem GlobsR.later {Ω : Om} {W w : World} {g : List (Nat × List AV)} (h : GlobsR Ω W g) (hb : Und (Base.all W) w) : GlobsR Ω w g := fun p hp => by
 obtain ⟨vs, h1, h2⟩ := h p hp;refine ⟨vs, ⟨fun i => ?_, h1.some⟩, VRs.mono (show (Env.none Ω W).le (Env.none Ω w) from ⟨fun _ _ h => ⟨h, rfl, rfl⟩, rfl, poolW_later hb⟩) _ _ h2⟩;have h0 := h1.cell 0;obtain ⟨v0, hv0⟩ : ∃ v, vs[0]? = some v := by
  cases hvs : vs with
  | nil => exact absurd hvs h1.some
  | cons a l => exact ⟨a, rfl⟩
 rw [hv0] at h0;have hlt := World.block_lt_of_cell? W _ h0;rw [← h1.cell i];exact World.cell?_of_block (w := W) (hb.block p.1 hlt rfl)

end Go.Ev
