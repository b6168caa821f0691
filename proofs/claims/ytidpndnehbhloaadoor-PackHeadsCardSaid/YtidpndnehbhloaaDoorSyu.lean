/- One state of what is known, seen as another: names of rows, terms that are equal, what is put in for variables. No condition. -/
import Derived.Test.YtidpndnehbhloaaDoorSyce
namespace Go.Ev
open Go.RowKit

mutual
def AV.sub (θ : Nat → E) : AV → AV
 | .sint k x => .sint k (x.subst θ)
 | .sstr n x => .sstr (n.subst θ) (x.subst θ)
 | .sptr i x => .sptr i (x.subst θ)
 | .sslice i o l c b => .sslice i (o.subst θ) (l.subst θ) (c.subst θ) b
 | .func f cs => .func f (AV.subs θ cs)
 | .bound f cs => .bound f (AV.subs θ cs)
 | .sflt x => .sflt (x.subst θ)
 | .sbits x => .sbits (x.subst θ)
 | .pv s x => .pv s (x.subst θ)
 | .pw i s x => .pw i s (x.subst θ)
 | .pp s x => .pp s (x.subst θ)
 | .vslice i z o l c b => .vslice i z (o.subst θ) (l.subst θ) (c.subst θ) b
 | .vptr i z j f => .vptr i z (j.subst θ) f
 | .iface t v => .iface t (v.sub θ)
 | .agg cs => .agg (AV.subs θ cs)
 | .tuple cs => .tuple (AV.subs θ cs)
 | .lit cs => .lit (AV.subs θ cs)
 | v => v
def AV.subs (θ : Nat → E) : List AV → List AV
 | [] => []
 | c :: cs => c.sub θ :: AV.subs θ cs
end

theorem sub_i (Ω : Om) (θ : Nat → E) (x : E) : (x.subst θ).i Ω = x.i (Ω.sub θ) := by simp only [E.i, E.den_subst]
theorem sub_s (Ω : Om) (θ : Nat → E) (x : E) : (x.subst θ).s Ω = x.s (Ω.sub θ) := by simp only [E.s, E.den_subst]
theorem sub_n' (Ω : Om) (θ : Nat → E) (x : E) : (x.subst θ).n Ω = x.n (Ω.sub θ) := by simp only [E.n, E.den_subst]

def Env.at (e : Env) (Ω : Om) : Env := { e with opq := Ω }

mutual
theorem VR.sub {e : Env} {θ : Nat → E} : ∀ (v : AV) (a : Value), VR e (v.sub θ) a ↔ VR (e.at (e.opq.sub θ)) v a
 | .bool _, _ | .int _ _, _ | .float _ _, _ | .str _, _ | .nilptr, _ | .nilslice, _ | .hollow, _ | .empty, _ | .nilmap, _ | .nilfunc, _ | .niliface, _ | .any, _ | .nan _, _ | .vfn _, _ => by simp only [AV.sub, VR]
 | .ptr i o, _ => by simp only [AV.sub, VR]; rfl
 | .slice i o l c opn, _ => by simp only [AV.sub, VR]; rfl
 | .mapv i, _ => by simp only [AV.sub, VR]; rfl
 | .yieldf i, _ => by simp only [AV.sub, VR]; rfl
 | .text i, _ => by simp only [AV.sub, VR]; rfl
 | .byte i, _ => by simp only [AV.sub, VR]; rfl
 | .opq i, _ => by simp only [AV.sub, VR]; rfl
 | .keep i, _ => by simp only [AV.sub, VR]; rfl
 | .sint k x, _ => by simp only [AV.sub, VR, sub_i]; rfl
 | .sflt x, _ => by simp only [AV.sub, VR, sub_i]; rfl
 | .sbits x, _ => by simp only [AV.sub, VR, sub_i, sub_n']; rfl
 | .pv s x, _ => by simp only [AV.sub, VR, E.den_subst]; rfl
 | .pw i s x, _ => by simp only [AV.sub, VR, E.den_subst]; rfl
 | .pp s x, _ => by simp only [AV.sub, VR, E.den_subst]; rfl
 | .vslice i z o l c opn, _ => by simp only [AV.sub, VR, sub_n', sub_i]; rfl
 | .vptr i z j f, _ => by simp only [AV.sub, VR, sub_n']; rfl
 | .sstr n x, _ => by simp only [AV.sub, VR, sub_i, sub_s]; rfl
 | .sptr i x, _ => by simp only [AV.sub, VR, sub_n']; rfl
 | .sslice i o l c opn, _ => by simp only [AV.sub, VR, sub_n', sub_i]; rfl
 | .func f cs, a => by simp only [AV.sub, VR]; exact ⟨fun ⟨as, h1, h2⟩ => ⟨as, h1, (VRs.sub cs _).1 h2⟩, fun ⟨as, h1, h2⟩ => ⟨as, h1, (VRs.sub cs _).2 h2⟩⟩
 | .bound f cs, a => by simp only [AV.sub, VR]; exact ⟨fun ⟨as, h1, h2⟩ => ⟨as, h1, (VRs.sub cs _).1 h2⟩, fun ⟨as, h1, h2⟩ => ⟨as, h1, (VRs.sub cs _).2 h2⟩⟩
 | .iface t v, a => by simp only [AV.sub, VR]; exact ⟨fun ⟨as, h1, h2⟩ => ⟨as, h1, (VR.sub v _).1 h2⟩, fun ⟨as, h1, h2⟩ => ⟨as, h1, (VR.sub v _).2 h2⟩⟩
 | .agg cs, a => by simp only [AV.sub, VR]; exact ⟨fun ⟨as, h1, h2⟩ => ⟨as, h1, (VRs.sub cs _).1 h2⟩, fun ⟨as, h1, h2⟩ => ⟨as, h1, (VRs.sub cs _).2 h2⟩⟩
 | .tuple cs, a => by simp only [AV.sub, VR]; exact ⟨fun ⟨as, h1, h2⟩ => ⟨as, h1, (VRs.sub cs _).1 h2⟩, fun ⟨as, h1, h2⟩ => ⟨as, h1, (VRs.sub cs _).2 h2⟩⟩
 | .lit cs, a => by simp only [AV.sub, VR]; exact ⟨fun ⟨as, h1, h2⟩ => ⟨as, h1, (VRs.sub cs _).1 h2⟩, fun ⟨as, h1, h2⟩ => ⟨as, h1, (VRs.sub cs _).2 h2⟩⟩
theorem VRs.sub {e : Env} {θ : Nat → E} : ∀ (v : List AV) (a : List Value), VRs e (AV.subs θ v) a ↔ VRs (e.at (e.opq.sub θ)) v a
 | [], _ => by simp only [AV.subs, VRs]
 | c :: cs, _ => by
  simp only [AV.subs, VRs];exact ⟨fun ⟨x, r, h1, h2, h3⟩ => ⟨x, r, h1, (VR.sub c _).1 h2, (VRs.sub cs _).1 h3⟩, fun ⟨x, r, h1, h2, h3⟩ => ⟨x, r, h1, (VR.sub c _).2 h2, (VRs.sub cs _).2 h3⟩⟩
end

abbrev Duty := Bool × E × E
def Duty.met (Ω : Om) : Duty → Prop
 | (true, x, y) => x.i Ω = y.i Ω
 | (false, x, y) => x.s Ω = y.s Ω
def Duties (Ω : Om) (l : List Duty) : Prop := ∀ p ∈ l, Duty.met Ω p

def selNow : E → E → Bool
 | .int n, .bi .sel (.lits l) (.int j) => match decide (0 ≤ j), l[j.toNat]? with
  | true, some c => decide (c = n)
  | _, _ => false
 | _, _ => false
theorem selNow_den (Ω : Om) {x y : E} (h : selNow x y = true) : x.den Ω = y.den Ω := by
 unfold selNow at h;split at h
 ·split at h
  ·rename_i n l j c h1 h2;have h := of_decide_eq_true h;subst h;simp only [E.den, BO.den, D.ofInts, D.toList_list, D.nat, D.toInt_int, List.getElem?_map, h2];rfl
  ·cases h
 ·cases h
def duty (b : Bool) (x y : E) : List Duty := match x.beq y with
 | true => []
 | false => match selNow x y with
  | true => []
  | false => [(b, x, y)]
theorem duty_i {Ω : Om} {x y : E} (h : Duties Ω (duty true x y)) : x.i Ω = y.i Ω := by
 unfold duty at h;split at h
 ·rename_i hb; rw [E.beq_eq hb]
 ·split at h
  ·rename_i hb; simp only [E.i]; rw [selNow_den Ω hb]
  ·exact h _ (List.mem_singleton.2 rfl)
theorem duty_s {Ω : Om} {x y : E} (h : Duties Ω (duty false x y)) : x.s Ω = y.s Ω := by
 unfold duty at h;split at h
 ·rename_i hb; rw [E.beq_eq hb]
 ·split at h
  ·rename_i hb; simp only [E.s]; rw [selNow_den Ω hb]
  ·exact h _ (List.mem_singleton.2 rfl)
def dutyD (x y : E) : List Duty := match x.beq y with
 | true => []
 | false => [(false, .un .code x, .un .code y)]
theorem dutyD_eq {Ω : Om} {x y : E} (h : Duties Ω (dutyD x y)) : x.den Ω = y.den Ω := by
 unfold dutyD at h;split at h
 ·rename_i hb; rw [E.beq_eq hb]
 ·have := h _ (List.mem_singleton.2 rfl);simp only [Duty.met, E.s, E.den, UO.den, D.ints_ofInts] at this;exact D.code_eq this
theorem Duties.app {Ω : Om} {l m : List Duty} (h : Duties Ω (l ++ m)) : Duties Ω l ∧ Duties Ω m :=
 ⟨fun p hp => h p (List.mem_append_left _ hp), fun p hp => h p (List.mem_append_right _ hp)⟩

abbrev Ren := List (Nat × Nat)
def Ren.get : Ren → Nat → Option Nat
 | [], _ => none
 | (i, j) :: r, k => match Nat.beq i k with
  | true => some j
  | false => Ren.get r k

def Ren.is (ρ : Ren) (i j : Nat) : Bool := match Nat.beq (i % 2) 0 with
 | true => Nat.beq i j
 | false => match ρ.get i with
  | some k => Nat.beq k j
  | none => false

mutual
def seeA (ρ : Ren) : AV → AV → Option (List Duty)
 | u, .any => match u.one with
  | true => some []
  | false => none
 | .slice _ _ l _ _, .empty => match Nat.beq l 0 with
  | true => some []
  | false => none
 | .ptr i o, .ptr j p => match ρ.is j i && Nat.beq o p with
  | true => some []
  | false => none
 | .slice i o l c b, .slice i' o' l' c' b' => match ρ.is i' i && Nat.beq o o' && Nat.beq l l' && Nat.beq c c' && (b == b') with
  | true => some []
  | false => none
 | .sptr i x, .sptr j y => match ρ.is j i with
  | true => some (duty true x y)
  | false => none
 | .sslice i o l c b, .sslice i' o' l' c' b' => match ρ.is i' i && (b == b') with
  | true => some (duty true o o' ++ (duty true l l' ++ duty true c c'))
  | false => none
 | u, .sint k y => match toE u with
  | some (l, x) => match decide (k = l) with
   | true => some (duty true x y)
   | false => none
  | none => none
 | u, .sstr n y => match toS u with
  | some (m, x) => some (duty true m n ++ duty false x y)
  | none => none
 | .sint l x, .int k n => match decide (k = l) with
  | true => some (duty true x (.int n))
  | false => none
 | .sbits x, .sbits y => some (duty true x y)
 | .pv s x, .pv u y => match s.beq u with
  | true => some (dutyD x y)
  | false => none
 | .pp s x, .pp u y => match s.beq u with
  | true => some (dutyD x y)
  | false => none
 | .pw _ s x, .pv u y => match s.beq u with
  | true => some (dutyD x y)
  | false => none
 | .vslice i z o l c b, .vslice i' z' o' l' c' b' => match ρ.is i' i && Nat.beq z z' && (b == b') with
  | true => some (duty true o o' ++ (duty true l l' ++ duty true c c'))
  | false => none
 | .vptr i z j f, .vptr i' z' j' f' => match ρ.is i' i && Nat.beq z z' && Nat.beq f f' with
  | true => some (duty true j j')
  | false => none
 | .ptr i o, .vptr i' z' j' f' => match ρ.is i' i && Nat.beq (o % z') f' with
  | true => some (duty true (.int ((o / z' : Nat) : Int)) j')
  | false => none
 | u, .sflt y => match toF u with
  | some x => some (duty true x y)
  | none => none
 | .opq i, .opq j => match Nat.beq i j with
  | true => some []
  | false => none
 | .keep i, .keep j => match Nat.beq i j with
  | true => some []
  | false => none
 | .func f cs, .func g ds => match Nat.beq f g with
  | true => seeL ρ cs ds
  | false => none
 | .iface t v, .iface u w => match Nat.beq t u with
  | true => seeA ρ v w
  | false => none
 | .agg cs, .agg ds => seeL ρ cs ds
 | .tuple cs, .tuple ds => seeL ρ cs ds
 | .mapv i, .mapv j => match ρ.is j i with
  | true => some []
  | false => none
 | .yieldf i, .yieldf j => match ρ.is j i with
  | true => some []
  | false => none
 | .hollow, .hollow => some []
 | .empty, .empty => some []
 | .nilslice, .empty => some []
 | .hollow, .empty => some []
 | u, v => match AV.same u v with
  | true => some []
  | false => none
def seeL (ρ : Ren) : List AV → List AV → Option (List Duty)
 | [], [] => some []
 | u :: us, v :: vs => match seeA ρ u v, seeL ρ us vs with
  | some l, some m => some (l ++ m)
  | _, _ => none
 | _, _ => none
end

def RenR (ρ : Ren) (e e' : Env) : Prop := ∀ i j, ρ.get i = some j → i % 2 = 1 → e'.loc i = e.loc j ∧ e'.spare i = e.spare j ∧ e'.base i = e.base j
structure RenOK (ρ : Ren) (e e' : Env) : Prop where
 opq : e'.opq = e.opq
 h : e'.h = e.h
 odd : RenR ρ e e'
 even : ∀ g, e'.spare (2 * g) = e.spare (2 * g) ∧ e'.base (2 * g) = e.base (2 * g)

theorem RenOK.is {ρ : Ren} {e e' : Env} (h : RenOK ρ e e') {i j : Nat} (k : ρ.is i j = true) : e'.loc i = e.loc j ∧ e'.spare i = e.spare j ∧ e'.base i = e.base j := by
 unfold Ren.is at k;split at k
 ·rename_i h0;have h0 := beq_t h0;obtain rfl := beq_t k;obtain ⟨g, rfl⟩ : ∃ g, i = 2 * g := ⟨i / 2, by omega⟩
  exact ⟨by rw [e.glob, e'.glob], (h.even g).1, (h.even g).2⟩
 ·rename_i h0;have h0 := beq_f h0;split at k
  ·rename_i x hx;obtain rfl := beq_t k;exact h.odd i x hx (by omega)
  ·cases k

mutual
theorem same_plain : ∀ u : AV, AV.same u u = true → (toVal u).isSome = true
 | .bool _, _ | .int _ _, _ | .float _ _, _ | .str _, _ | .nilptr, _ | .nilslice, _ | .nilmap, _ | .nilfunc, _ | .niliface, _ => by simp [toVal]
 | .iface t v, h => by
  simp only [AV.same, bae] at h;have := same_plain v h.2;simp only [toVal, Option.isSome_map]; exact this
 | .agg cs, h => by
  simp only [AV.same] at h;simp only [toVal, Option.isSome_map]; exact sames_plain cs h
 | .tuple cs, h => by
  simp only [AV.same] at h;simp only [toVal, Option.isSome_map]; exact sames_plain cs h
 | .ptr _ _, h | .slice _ _ _ _ _, h | .hollow, h | .empty, h | .mapv _, h | .func _ _, h | .opq _, h | .text _, h | .any, h | .byte _, h | .lit _, h | .nan _, h | .sint _ _, h | .sstr _ _, h | .sptr _ _, h | .sslice _ _ _ _ _, h | .keep _, h | .bound _ _, h | .yieldf _, h | .sflt _, h | .sbits _, h | .pv _ _, h | .pw _ _ _, h | .pp _ _, h | .vslice _ _ _ _ _ _, h | .vptr _ _ _ _, h | .vfn _, h => by simp [AV.same] at h
theorem sames_plain : ∀ l : List AV, AV.sames l l = true → (toVals l).isSome = true
 | [], _ => by simp [toVals]
 | c :: cs, h => by
  simp only [AV.sames, bae] at h;obtain ⟨x, hx⟩ := Option.isSome_iff_exists.1 (same_plain c h.1);obtain ⟨y, hy⟩ := Option.isSome_iff_exists.1 (sames_plain cs h.2);simp [toVals, hx, hy]
end

theorem same_vr {e e' : Env} {u : AV} (h : AV.same u u = true) {a : Value} (ha : VR e u a) : VR e' u a := by
 obtain ⟨x, hx⟩ := Option.isSome_iff_exists.1 (same_plain u h);have := VR.toVal u a x ha hx;subst this;exact toVal_vr _ _ hx

mutual
theorem seeA_vr {ρ : Ren} {e e' : Env} (H : RenOK ρ e e') : ∀ (u v : AV) (l : List Duty), seeA ρ u v = some l → Duties e.opq l → ∀ a, VR e u a → VR e' v a
 | u, v, l, k, hd, a, ha => by
  unfold seeA at k;split at k
  ·split at k
   ·rename_i ho;simp only [VR];exact ha.one ho
   ·cases k
  ·split at k
   ·rename_i hc;obtain rfl := beq_t hc;simp only [VR] at ha ⊢;obtain ⟨b, _, rfl⟩ := ha;exact .inr ⟨_, _, rfl⟩
   ·cases k
  ·split at k
   ·rename_i hc;simp only [bae] at hc;obtain ⟨h1, _⟩ := H.is hc.1;obtain rfl := beq_t hc.2;simp only [VR] at ha ⊢;rw [h1]; exact ha
   ·cases k
  ·split at k
   ·rename_i hc;simp only [bae, beq_iff_eq] at hc;obtain ⟨⟨⟨⟨c1, c2⟩, c3⟩, c4⟩, rfl⟩ := hc;obtain ⟨h1, h2, _⟩ := H.is c1;obtain rfl := beq_t c2;obtain rfl := beq_t c3;obtain rfl := beq_t c4;simp only [VR] at ha ⊢;rw [h1, h2]; exact ha
   ·cases k
  ·split at k
   ·rename_i hc;obtain ⟨h1, h2, h3⟩ := H.is hc;simp only [sme] at k;subst k;have := duty_i hd;simp only [VR] at ha ⊢;rw [h1, h3, H.opq];simp only [E.n, D.nat];simp only [E.i] at this;rw [← this]; exact ha
   ·cases k
  ·split at k
   ·rename_i hc;simp only [bae, beq_iff_eq] at hc;obtain ⟨c1, rfl⟩ := hc;obtain ⟨h1, h2, h3⟩ := H.is c1;simp only [sme] at k;subst k;obtain ⟨d1, d2⟩ := hd.app;obtain ⟨d2, d3⟩ := d2.app;have d1 := duty_i d1;have d2 := duty_i d2;have d3 := duty_i d3;simp only [VR, E.n, D.nat] at ha ⊢;rw [h1, h2, h3, H.opq];simp only [E.i] at d1 d2 d3 ha ⊢;rw [← d1, ← d2, ← d3]; exact ha
   ·cases k
  ·split at k
   ·rename_i kk y _ l' x hx;split at k
    ·rename_i hk;obtain rfl := of_decide_eq_true hk;simp only [sme] at k;subst k;obtain ⟨rfl, r⟩ := toE_val hx ha;have := duty_i hd;simp only [VR];rw [H.opq, ← this]; exact ⟨rfl, r⟩
    ·cases k
   ·cases k
  ·split at k
   ·rename_i n y _ m x hx;simp only [sme] at k;subst k;obtain ⟨d1, d2⟩ := hd.app;have d1 := duty_i d1;have d2 := duty_s d2;obtain ⟨rfl, r1, r2⟩ := toS_val hx ha;simp only [VR];rw [H.opq, ← d1, ← d2]; exact ⟨rfl, r1, r2⟩
   ·cases k
  ·split at k
   ·rename_i hk;obtain rfl := of_decide_eq_true hk;simp only [sme] at k;subst k;have := duty_i hd;simp only [VR] at ha ⊢;rw [ha.1, this]; rfl
   ·cases k
  ·simp only [sme] at k;subst k;have := duty_i hd;simp only [VR, E.n, D.nat] at ha ⊢;rw [H.opq];simp only [E.i] at this ha ⊢;rw [← this]; exact ha
  ·split at k
   ·rename_i hc;obtain rfl := Sh.beq_eq hc;simp only [sme] at k;subst k;have := dutyD_eq hd;simp only [VR] at ha ⊢;rw [H.opq, H.h, ← this]; exact ha
   ·cases k
  ·split at k
   ·rename_i hc;obtain rfl := Sh.beq_eq hc;simp only [sme] at k;subst k;have := dutyD_eq hd;simp only [VR] at ha ⊢;rw [H.opq, H.h, ← this]; exact ha
   ·cases k
  ·split at k
   ·rename_i hc;obtain rfl := Sh.beq_eq hc;simp only [sme] at k;subst k;have := dutyD_eq hd;simp only [VR] at ha ⊢;rw [H.opq, H.h, ← this]; exact ha.2
   ·cases k
  ·split at k
   ·rename_i hc;simp only [bae, beq_iff_eq] at hc;obtain ⟨⟨c1, c2⟩, rfl⟩ := hc;obtain rfl := beq_t c2;obtain ⟨h1, h2, h3⟩ := H.is c1;simp only [sme] at k;subst k;obtain ⟨d1, d2⟩ := hd.app;obtain ⟨d2, d3⟩ := d2.app;have d1 := duty_i d1;have d2 := duty_i d2;have d3 := duty_i d3;simp only [VR, E.n, D.nat] at ha ⊢;rw [h1, h2, H.opq];simp only [E.i] at d1 d2 d3 ha ⊢;rw [← d1, ← d2, ← d3]; exact ha
   ·cases k
  ·split at k
   ·rename_i hc;simp only [bae] at hc;obtain ⟨⟨c1, c2⟩, c3⟩ := hc;obtain rfl := beq_t c2;obtain rfl := beq_t c3;obtain ⟨h1, h2, h3⟩ := H.is c1;simp only [sme] at k;subst k;have := duty_i hd;simp only [VR, E.n, D.nat] at ha ⊢;rw [h1, H.opq];simp only [E.i] at this;rw [← this]; exact ha
   ·cases k
  ·split at k
   ·rename_i i o i' z' j' f' _ hc;simp only [bae] at hc;obtain ⟨c1, c2⟩ := hc;obtain ⟨h1, _⟩ := H.is c1;have c2 := beq_t c2;simp only [sme] at k;subst k;have d := duty_i hd;simp only [VR] at ha ⊢;obtain ⟨b, hb, rfl⟩ := ha;refine ⟨b, by rw [h1]; exact hb, ?_⟩;rw [H.opq];have d : ((o / z' : Nat) : Int) = j'.i e.opq := d;have hn : j'.n e.opq = o / z' := by
     show (j'.i e.opq).toNat = _;rw [← d];rfl
    rw [hn, ← c2, Nat.mul_comm, Nat.div_add_mod]
   ·cases k
  ·split at k
   ·rename_i y _ x hx;simp only [sme] at k;subst k;have := duty_i hd;obtain ⟨b, rfl, r1, r2⟩ := toF_val hx ha;simp only [VR];rw [H.opq, ← this]; exact ⟨b, rfl, r1, r2⟩
   ·cases k
  ·split at k
   ·rename_i hc;obtain rfl := beq_t hc;simp only [VR] at ha ⊢;rw [H.opq]; exact ha
   ·cases k
  ·split at k
   ·rename_i hc;obtain rfl := beq_t hc;simp only [VR] at ha ⊢;rw [H.opq]; exact ha
   ·cases k
  ·split at k
   ·rename_i f cs g ds _ hc;obtain rfl := beq_t hc;simp only [VR] at ha ⊢;obtain ⟨as, rfl, h2⟩ := ha;exact ⟨as, rfl, seeL_vr H cs ds l k hd _ h2⟩
   ·cases k
  ·split at k
   ·rename_i t v' u' w' _ hc;obtain rfl := beq_t hc;simp only [VR] at ha ⊢;obtain ⟨x, rfl, h2⟩ := ha;exact ⟨x, rfl, seeA_vr H v' w' l k hd _ h2⟩
   ·cases k
  ·rename_i cs ds;simp only [VR] at ha ⊢;obtain ⟨as, rfl, h2⟩ := ha;exact ⟨as, rfl, seeL_vr H cs ds l k hd _ h2⟩
  ·rename_i cs ds;simp only [VR] at ha ⊢;obtain ⟨as, rfl, h2⟩ := ha;exact ⟨as, rfl, seeL_vr H cs ds l k hd _ h2⟩
  ·split at k
   ·rename_i hc;obtain ⟨h1, _⟩ := H.is hc;simp only [VR] at ha ⊢;rw [h1]; exact ha
   ·cases k
  ·split at k
   ·rename_i hc;obtain ⟨h1, _⟩ := H.is hc;simp only [VR] at ha ⊢;rw [h1]; exact ha
   ·cases k
  ·simp only [VR] at ha ⊢; exact ha
  ·simp only [VR] at ha ⊢; exact ha
  ·simp only [VR] at ha ⊢; exact .inl ha
  ·simp only [VR] at ha ⊢; exact .inr ha
  ·split at k
   ·rename_i hs;have := AV.same_eq hs;subst this;exact same_vr hs ha
   ·cases k
theorem seeL_vr {ρ : Ren} {e e' : Env} (H : RenOK ρ e e') : ∀ (u v : List AV) (l : List Duty), seeL ρ u v = some l → Duties e.opq l → ∀ a, VRs e u a → VRs e' v a
 | [], [], _, _, _, a, ha => by simpa only [VRs] using ha
 | u :: us, v :: vs, l, k, hd, a, ha => by
  simp only [seeL] at k;split at k
  ·rename_i l1 m1 h1 h2;simp only [sme] at k;subst k;obtain ⟨d1, d2⟩ := hd.app;simp only [VRs] at ha ⊢;obtain ⟨x, r, rfl, h3, h4⟩ := ha;exact ⟨x, r, rfl, seeA_vr H u v l1 h1 d1 _ h3, seeL_vr H us vs m1 h2 d2 _ h4⟩
  ·cases k
 | [], _ :: _, _, k, _, _, _ => by simp [seeL] at k
 | _ :: _, [], _, k, _, _, _ => by simp [seeL] at k
end

def AObj.sub (θ : Nat → E) : AObj → AObj
 | .cells b => .cells { b with pat := AV.subs θ b.pat, cells := .nil }
 | .ext b => .ext b
 | .seq q => .seq { q with n := q.n.subst θ, x := q.x.subst θ }
 | .eseq q => .eseq { q with n := q.n.subst θ, x := q.x.subst θ }
 | o => o

def AB.listed (b : AB) : Bool := match b.cells with
 | .nil => Nat.beq b.pat.length b.size
 | _ => false

def ABL (el : TypeId) (esz : Nat) (opn str : Bool) (l : List AV) : AB := ⟨el, l.length, esz, opn, str, l, .nil, none⟩
theorem ABL_at (el : TypeId) (esz : Nat) (opn str : Bool) (l : List AV) (i : Nat) : (ABL el esz opn str l).at i = l[i]? := by
 unfold AB.at ABL;simp only [T.get_nil];cases h : Nat.blt i l.length
 ·have : ¬ i < l.length := fun x => by rw [show Nat.blt i l.length = true from by simpa [Nat.blt_eq] using x] at h; cases h
  simp [List.getElem?_eq_none (Nat.le_of_not_lt this)]
 ·have h : i < l.length := by simpa [Nat.blt_eq] using h
  simp [Nat.mod_eq_of_lt h]

def tabT : List (Nat × AV) → T AV
 | [] => .nil
 | (i, v) :: l => (tabT l).put i (some v)
theorem tabT_mem : ∀ {l : List (Nat × AV)} {i : Nat} {v : AV}, (tabT l).get i = some v → (i, v) ∈ l
 | [], i, v, h => by simp [tabT, T.get_nil] at h
 | (j, u) :: l, i, v, h => by
  simp only [tabT, T.get_put] at h;split at h
  ·rename_i e1;subst e1;simp only [sme] at h;subst h
   simp
  ·exact List.mem_cons_of_mem _ (tabT_mem h)
def regSub (θ : Nat → E) (l : List (Nat × AV)) : List (Nat × AV) := l.map fun p => (p.1, p.2.sub θ)
theorem tabT_sub (θ : Nat → E) : ∀ (l : List (Nat × AV)) (i : Nat), (tabT (regSub θ l)).get i = ((tabT l).get i).map (AV.sub θ)
 | [], i => by simp [regSub, tabT, T.get_nil]
 | (j, u) :: l, i => by
  have ih := tabT_sub θ l i;simp only [regSub, List.map_cons, tabT, T.get_put] at ih ⊢;split
  ·rfl
  ·exact ih
def rangeAt (P : Program) (g : FuncId) (p : List Nat) : Array Tmp × Code × Code :=
 match P.funcs[g]? with
 | some fn => match fn.body with
  | some root => match codeAt root p with
   | some (.rangeFunc _ ps a b) => (ps, a, b)
   | _ => (#[], .skip, .skip)
  | none => (#[], .skip, .skip)
 | none => (#[], .skip, .skip)
inductive RW where
 | cells (el : TypeId) (esz : Nat) (opn str : Bool) (l : List AV)
 | seq (q : SB)
 | eseq (q : SQ)
 | ext (l : List AV)
 | map (es : List ME) (clock : Nat)
 | vseq (q : VB)
 | loop (k : Nat) (l : List (Nat × AV)) (n : Nat) (q : Array Tmp × Code × Code)

def stOf : Nat → LoopState
 | 0 => .ready
 | _ => .done
def pendOf : Nat → Option Code
 | 0 => none
 | 1 => some .ret
 | i + 2 => some (.exit i)
def samOpt : Option Code → Option Code → Bool
 | none, none => true
 | some a, some b => codeSam a b
 | _, _ => false
theorem samOpt_eq {a b : Option Code} (h : samOpt a b = true) : a = b := by
 cases a <;> cases b <;> simp only [samOpt, Bool.false_eq_true] at h
 ·rfl
 ·rw [codeSam_eq h]
def VB.sub (θ : Nat → E) (q : VB) : VB := { q with n := q.n.subst θ, x := q.x.subst θ }
def ME.sub (θ : Nat → E) (m : ME) : ME := ⟨m.key.sub θ, m.val.sub θ, m.born⟩
theorem MR.sub {e : Env} {θ : Nat → E} : ∀ {l : List ME} {m : List MapEntry}, MR e (l.map (ME.sub θ)) m ↔ MR (e.at (e.opq.sub θ)) l m
 | [], _ => Iff.rfl
 | c :: l, m => by
  simp only [List.map_cons, MR, ME.sub];constructor
  ·rintro ⟨x, rest, h1, h2, h3, h4, h5⟩
   exact ⟨x, rest, h1, (VR.sub _ _).1 h2, (VR.sub _ _).1 h3, h4, MR.sub.1 h5⟩
  ·rintro ⟨x, rest, h1, h2, h3, h4, h5⟩
   exact ⟨x, rest, h1, (VR.sub _ _).2 h2, (VR.sub _ _).2 h3, h4, MR.sub.2 h5⟩

def RW.obj : RW → AObj
 | .cells el esz opn str l => .cells (ABL el esz opn str l)
 | .seq q => .seq q
 | .eseq q => .eseq q
 | .ext l => .ext (ABL 0 0 false false l)
 | .map es c => .map es c
 | .vseq q => .vseq q
 | .loop k l n q => .loop ⟨stOf k, pendOf k, tabT l, n, q.1, q.2.1, q.2.2⟩
def RW.sub (θ : Nat → E) : RW → RW
 | .cells el esz opn str l => .cells el esz opn str (AV.subs θ l)
 | .seq q => .seq { q with n := q.n.subst θ, x := q.x.subst θ }
 | .eseq q => .eseq { q with n := q.n.subst θ, x := q.x.subst θ }
 | .ext l => .ext (AV.subs θ l)
 | .map es c => .map (es.map (ME.sub θ)) c
 | .vseq q => .vseq (q.sub θ)
 | .loop k l n q => .loop k (regSub θ l) n q
def RW.own : RW → Bool
 | .cells .. => true
 | .seq _ => true
 | .map .. => true
 | .vseq _ => true
 | .loop .. => true
 | _ => false

theorem AV.subs_get (θ : Nat → E) : ∀ (l : List AV) (i : Nat), (AV.subs θ l)[i]? = (l[i]?).map (AV.sub θ)
 | [], i => by simp [AV.subs]
 | c :: l, 0 => by simp [AV.subs]
 | c :: l, i + 1 => by simp [AV.subs, AV.subs_get θ l i]
theorem AV.subs_length (θ : Nat → E) : ∀ (l : List AV), (AV.subs θ l).length = l.length
 | [] => rfl
 | c :: l => by simp [AV.subs, AV.subs_length θ l]

theorem RW.sub_ok {w0 : Base} {e : Env} {θ : Nat → E} {id k : Nat} {w : World} {r : RW} : ObjR w0 e id k w (r.sub θ).obj ↔ ObjR w0 (e.at (e.opq.sub θ)) id k w r.obj := by
 cases r with
 | cells el esz opn str l =>
  simp only [RW.sub, RW.obj, ObjR];refine and_congr Iff.rfl (and_congr Iff.rfl (exists_congr fun arr => exists_congr fun fz => and_congr Iff.rfl ?_));constructor
  ·intro R;refine ⟨by have h := R.size; simp only [ABL, AV.subs_length] at h ⊢; exact h, fun i v hv => ?_, R.frozen, R.plain, R.mark, fun _ hk => by cases hk⟩;rw [ABL_at] at hv;obtain ⟨x, h1, h2⟩ := R.cell i (v.sub θ) (by rw [ABL_at, AV.subs_get, hv]; rfl);exact ⟨x, h1, (VR.sub v x).1 h2⟩
  ·intro R;refine ⟨by have h := R.size; simp only [ABL, AV.subs_length] at h ⊢; exact h, fun i v hv => ?_, R.frozen, R.plain, R.mark, fun _ hk => by cases hk⟩;rw [ABL_at, AV.subs_get, Option.map_eq_some_iff] at hv;obtain ⟨v', hv', rfl⟩ := hv;obtain ⟨x, h1, h2⟩ := R.cell i v' (by rw [ABL_at, hv']);exact ⟨x, h1, (VR.sub v' x).2 h2⟩
 | seq q =>
  simp only [RW.sub, RW.obj, ObjR];refine and_congr Iff.rfl (and_congr Iff.rfl (exists_congr fun arr => exists_congr fun fz => and_congr Iff.rfl ?_));constructor
  ·intro R;exact ⟨by have := R.n; simpa only [sub_i, sub_s, Env.at] using this, by have := R.rng; simpa only [sub_s, Env.at] using this, by have := R.cells; simpa only [sub_s, Env.at] using this, R.frozen, R.plain, R.mark⟩
  ·intro R;exact ⟨by have := R.n; simpa only [sub_i, sub_s, Env.at] using this, by have := R.rng; simpa only [sub_s, Env.at] using this, by have := R.cells; simpa only [sub_s, Env.at] using this, R.frozen, R.plain, R.mark⟩
 | eseq q =>
  simp only [RW.sub, RW.obj, ObjR, sub_i, sub_s];exact Iff.rfl
 | ext l =>
  simp only [RW.sub, RW.obj, ObjR];refine and_congr Iff.rfl (and_congr Iff.rfl (exists_congr fun arr => exists_congr fun el => exists_congr fun fz => and_congr Iff.rfl ?_));constructor
  ·intro R i v hv;rw [ABL_at] at hv;obtain ⟨x, h1, h2⟩ := R i (v.sub θ) (by rw [ABL_at, AV.subs_get, hv]; rfl);exact ⟨x, h1, (VR.sub v x).1 h2⟩
  ·intro R i v hv;rw [ABL_at, AV.subs_get, Option.map_eq_some_iff] at hv;obtain ⟨v', hv', rfl⟩ := hv;obtain ⟨x, h1, h2⟩ := R i v' (by rw [ABL_at, hv']);exact ⟨x, h1, (VR.sub v' x).2 h2⟩
 | map es c =>
  simp only [RW.sub, RW.obj, ObjR];exact and_congr Iff.rfl (and_congr Iff.rfl (exists_congr fun arr => and_congr Iff.rfl MR.sub))
 | vseq q =>
  simp only [RW.sub, RW.obj, ObjR, VB.sub];refine and_congr Iff.rfl (and_congr Iff.rfl (exists_congr fun arr => and_congr Iff.rfl ?_));constructor
  ·intro R;exact ⟨by have := R.n; simpa only [sub_i, E.den_subst, Env.at] using this, by have := R.size; simpa only [E.den_subst, Env.at] using this, by have := R.cell; simpa only [E.den_subst, Env.at] using this⟩
  ·intro R;exact ⟨by have := R.n; simpa only [sub_i, E.den_subst, Env.at] using this, by have := R.size; simpa only [E.den_subst, Env.at] using this, by have := R.cell; simpa only [E.den_subst, Env.at] using this⟩
 | loop k0 l n q =>
  simp only [RW.sub, RW.obj, ObjR];refine and_congr Iff.rfl (and_congr Iff.rfl (exists_congr fun f => exists_congr fun tmps => exists_congr fun d => and_congr Iff.rfl (and_congr Iff.rfl ?_)));constructor
  ·intro R i v hv;obtain ⟨x, h1, h2⟩ := R i (v.sub θ) (by rw [tabT_sub, hv]; rfl);exact ⟨x, h1, (VR.sub v x).1 h2⟩
  ·intro R i v hv;rw [tabT_sub, Option.map_eq_some_iff] at hv;obtain ⟨v', hv', rfl⟩ := hv;obtain ⟨x, h1, h2⟩ := R i v' hv';exact ⟨x, h1, (VR.sub v' x).2 h2⟩

def seeTab (ρ : Ren) (t : T AV) : List (Nat × AV) → Option (List Duty)
 | [] => some []
 | (i, v) :: l => match t.get i with
  | some u => match seeA ρ u v, seeTab ρ t l with
   | some d, some m => some (d ++ m)
   | _, _ => none
  | none => none
theorem seeTab_mem {ρ : Ren} {t : T AV} {Ω : Om} : ∀ {l : List (Nat × AV)} {ds : List Duty}, seeTab ρ t l = some ds → Duties Ω ds → ∀ i v, (i, v) ∈ l → ∃ u d, t.get i = some u ∧ seeA ρ u v = some d ∧ Duties Ω d
 | [], _, _, _, i, v, hm => by simp at hm
 | (j, u) :: l, ds, k, hd, i, v, hm => by
  simp only [seeTab] at k;split at k
  ·rename_i u' hu;split at k
   ·rename_i d m h1 h2;simp only [sme] at k;subst k;obtain ⟨d1, d2⟩ := hd.app;rcases List.mem_cons.1 hm with hm | hm
    ·simp only [pme] at hm;obtain ⟨rfl, rfl⟩ := hm;exact ⟨u', d, hu, h1, d1⟩
    ·exact seeTab_mem h2 d2 i v hm
   ·cases k
  ·cases k

def seeCells (ρ : Ren) (b : AB) : Nat → List AV → Option (List Duty)
 | _, [] => some []
 | i, v :: r => match b.at i with
  | some u => match seeA ρ u v, seeCells ρ b (i + 1) r with
   | some l, some m => some (l ++ m)
   | _, _ => none
  | none => none

theorem seeCells_ok {ρ : Ren} {e e' : Env} (H : RenOK ρ e e') {b : AB} : ∀ (l : List AV) (i : Nat) (ds : List Duty), seeCells ρ b i l = some ds → Duties e.opq ds → ∀ {arr : Array Value}, (∀ i v, b.at i = some v → ∃ x, arr[i]? = some x ∧ VR e v x) → ∀ (j : Nat) (v : AV), l[j]? = some v → ∃ x : Value, arr[i + j]? = some x ∧ VR e' v x
 | [], _, _, _, _, _, _, j, v, hj => by simp at hj
 | c :: l, i, ds, k, hd, arr, R, j, v, hj => by
  simp only [seeCells] at k;split at k
  ·rename_i u hu;split at k
   ·rename_i l1 m1 h1 h2;simp only [sme] at k;subst k;obtain ⟨d1, d2⟩ := hd.app;cases j with
    | zero =>
     simp only [List.getElem?_cons_zero, sme] at hj;subst hj;obtain ⟨x, g1, g2⟩ := R i u hu;exact ⟨x, g1, seeA_vr H u c l1 h1 d1 _ g2⟩
    | succ j =>
     obtain ⟨x, g1, g2⟩ := seeCells_ok H l (i + 1) m1 h2 d2 R j v (by simpa using hj);exact ⟨x, by rw [← g1]; congr 1; omega, g2⟩
   ·cases k
  ·cases k

def seeME (ρ : Ren) : List ME → List ME → Option (List Duty)
 | [], [] => some []
 | a :: l, b :: m => match Nat.beq a.born b.born with
  | true => match seeA ρ a.key b.key, seeA ρ a.val b.val, seeME ρ l m with
   | some x, some y, some z => some (x ++ (y ++ z))
   | _, _, _ => none
  | false => none
 | _, _ => none
theorem seeME_ok {ρ : Ren} {e e' : Env} (H : RenOK ρ e e') : ∀ {l m : List ME} {ds : List Duty}, seeME ρ l m = some ds → Duties e.opq ds → ∀ {es : List MapEntry}, MR e l es → MR e' m es
 | [], [], _, _, _, _, h => h
 | a :: l, b :: m, ds, k, hd, es, h => by
  simp only [seeME] at k;split at k
  ·rename_i hb;split at k
   ·rename_i x y z h1 h2 h3;simp only [sme] at k;subst k;obtain ⟨d1, d2⟩ := hd.app;obtain ⟨d2, d3⟩ := d2.app;obtain ⟨q, rest, g1, g2, g3, g4, g5⟩ := h;exact ⟨q, rest, g1, seeA_vr H _ _ _ h1 d1 _ g2, seeA_vr H _ _ _ h2 d2 _ g3, g4.trans (beq_t hb), seeME_ok H h3 d3 g5⟩
   ·cases k
  ·cases k
 | [], _ :: _, _, k, _, _, _ => by simp [seeME] at k
 | _ :: _, [], _, k, _, _, _ => by simp [seeME] at k

def seeO (ρ : Ren) : AObj → RW → Option (List Duty)
 | .seq q, .seq q' => match Nat.beq q.elem q'.elem && decide (q.k = q'.k) && (q.opn == q'.opn) && (q.str == q'.str) with
  | true => some (duty true q.n q'.n ++ duty false q.x q'.x)
  | false => none
 | .eseq q, .eseq q' => match decide (q.k = q'.k) with
  | true => some (duty true q.n q'.n ++ duty false q.x q'.x)
  | false => none
 | .cells b, .seq q' => match Nat.beq b.elem q'.elem && ((!b.opn && !q'.opn) || (b.opn && q'.opn && Nat.beq b.esz 1 && (match b.tk with | some k => decide (k = q'.k) | none => false))) && (b.str == q'.str), b.from 0 b.size with
  | true, some l => match seqOfL q'.k l with
   | some x => some (duty true (.int b.size) q'.n ++ duty false x q'.x)
   | none => none
  | _, _ => none
 | .cells b, .cells el esz opn str l => match Nat.beq b.elem el && Nat.beq b.esz esz && (b.opn == opn) && (b.str == str) && Nat.beq b.size l.length with
  | true => seeCells ρ b 0 l
  | false => none
 | .ext b, .ext l => seeCells ρ b 0 l
 | .map es c, .map es' c' => match Nat.beq c c' with
  | true => seeME ρ es es'
  | false => none
 | .vseq q, .vseq q' => match Nat.beq q.elem q'.elem && q.s.beq q'.s && (q.opn == q'.opn) with
  | true => some (duty true q.n q'.n ++ dutyD q.x q'.x)
  | false => none
 | .cells b, .vseq q' => match cellsV b q' with
  | some es => some (duty true (.int es.length) q'.n ++ dutyD (recE es (.lits [])) q'.x)
  | none => none
 | .loop r, .loop k l n q => match decide (r.st = stOf k) && samOpt r.pending (pendOf k) && Nat.beq r.n n && decide (r.params = q.1) && codeSam r.assign q.2.1 && codeSam r.body q.2.2 with
  | true => seeTab ρ r.t l
  | false => none
 | _, _ => none

theorem seeO_ok {ρ : Ren} {w0 : Base} {e e' : Env} (H : RenOK ρ e e') {o : AObj} {r : RW} {ds : List Duty} (h : seeO ρ o r = some ds) (hd : Duties e.opq ds) {i j k : Nat} {w : World} (hs : e'.spare j = e.spare i) (hb : e'.base j = e.base i) (R : ObjR w0 e i k w o) : ObjR w0 e' j k w r.obj := by
 unfold seeO at h;split at h
 ·rename_i q q';split at h
  ·rename_i hc;simp only [bae, beq_iff_eq, decide_eq_true_eq] at hc;obtain ⟨⟨⟨c1, c2⟩, c3⟩, c4⟩ := hc;have c1 := beq_t c1;simp only [sme] at h;subst h;obtain ⟨d1, d2⟩ := hd.app;have d1 := duty_i d1;have d2 := duty_s d2;obtain ⟨h1, h2, arr, fz, h3, h4⟩ := R;refine ⟨h1, by rw [hb]; exact h2, arr, fz, by rw [← c1]; exact h3, ⟨by rw [H.opq, ← d1, ← d2]; exact h4.n, by rw [H.opq, ← d2, ← c2]; exact h4.rng, by rw [H.opq, ← d2, ← c2, ← c3, hs]; exact h4.cells, h4.frozen, by rw [← c4]; exact h4.plain, by rw [← c4]; exact h4.mark⟩⟩
  ·cases h
 ·rename_i q q';split at h
  ·rename_i hc;have hc := of_decide_eq_true hc;simp only [sme] at h;subst h;obtain ⟨d1, d2⟩ := hd.app;have d1 := duty_i d1;have d2 := duty_s d2;obtain ⟨h1, ⟨h2, h2'⟩, arr, el, fz, h3, h4⟩ := R;exact ⟨h1, ⟨by rw [H.opq, ← d1, ← d2]; exact h2, by rw [H.opq, ← d2, ← hc]; exact h2'⟩, arr, el, fz, h3, by rw [H.opq, ← d2, ← hc, hb]; exact h4⟩
  ·cases h
 ·rename_i b q';split at h
  ·rename_i l hc hl;simp only [bae, beq_iff_eq, Bool.not_eq_true', Bool.or_eq_true] at hc;obtain ⟨⟨c1, c23⟩, c4⟩ := hc;have c1 := beq_t c1;split at h
   ·rename_i x hx;simp only [sme] at h;subst h;obtain ⟨d1, d2⟩ := hd.app;have d1 := duty_i d1;have d2 := duty_s d2;obtain ⟨h1, h2, arr, fz, h3, h4⟩ := R;have hv := AB.from_vrs h4 b.size 0 l hl;rw [List.drop_zero] at hv;obtain ⟨e1, e2⟩ := seqOfL_val hx hv;have hge : b.size ≤ arr.size := by rw [h4.size]; omega
    have e3 : (x.s e.opq).length = b.size := by have := congrArg List.length e1; simp at this; omega
    refine ⟨h1, by rw [hb]; exact h2, arr, fz, by rw [← c1]; exact h3, ⟨?_, by rw [H.opq, ← d2]; exact e2, ⟨arr.toList.drop b.size, by rw [H.opq, ← d2, ← e1, List.take_append_drop], ?_⟩, h4.frozen, by rw [← c4]; exact h4.plain, by rw [← c4]; exact h4.mark⟩⟩
    ·rw [H.opq, ← d1, ← d2, e3]; rfl
    ·rcases c23 with ⟨c2, c3⟩ | ⟨⟨⟨c2, c3⟩, c5⟩, c6⟩
     ·have hsz : arr.size = b.size := by have := h4.size; rw [c2] at this; simpa using this
      rw [List.drop_eq_nil_of_le (by simp; omega), c3];exact ⟨by simp, typed_nil, fun h => by cases h⟩
     ·split at c6
      ·rename_i k2 hk2;have c6 := of_decide_eq_true c6;subst c6;obtain ⟨t1, t2⟩ := h4.tail _ hk2 c2;have hsz := h4.size;rw [c2, if_pos rfl, beq_t c5, Nat.mul_one] at hsz;exact ⟨by rw [c3, hs]; simp; omega, t1, fun _ => t2⟩
      ·cases c6
   ·cases h
  ·cases h
 ·rename_i b el esz opn str l;split at h
  ·rename_i hc;simp only [bae, beq_iff_eq] at hc;obtain ⟨⟨⟨⟨c1, c2⟩, c3⟩, c4⟩, c5⟩ := hc;have c1 := beq_t c1;have c2 := beq_t c2;have c5 := beq_t c5;obtain ⟨h1, h2, arr, fz, h3, h4⟩ := R;refine ⟨h1, by rw [hb]; exact h2, arr, fz, by show _ = some (Obj.cells arr el fz); rw [← c1]; exact h3, ⟨?_, fun p v hv => ?_, h4.frozen, by show str = false → _; rw [← c4]; exact h4.plain, by show str = true → _; rw [← c4]; exact h4.mark, fun _ hk => by cases hk⟩⟩
   ·show arr.size = l.length + if opn = true then e'.spare j * esz else 0
    rw [← c5, ← c3, ← c2, hs]; exact h4.size
   ·rw [ABL_at] at hv;have := seeCells_ok H l 0 ds h hd h4.cell p v hv;simpa using this
  ·cases h
 ·rename_i b l;obtain ⟨h1, h2, arr, el, fz, h3, h4⟩ := R;refine ⟨h1, by rw [hb]; exact h2, arr, el, fz, h3, fun p v hv => ?_⟩;rw [ABL_at] at hv;have := seeCells_ok H l 0 ds h hd h4 p v hv;simpa using this
 ·split at h
  ·rename_i hc;obtain ⟨h1, h2, arr, h3, h4⟩ := R;exact ⟨h1, by rw [hb]; exact h2, arr, by rw [← beq_t hc]; exact h3, seeME_ok H h hd h4⟩
  ·cases h
 ·rename_i q q';split at h
  ·rename_i hc;simp only [bae, beq_iff_eq] at hc;obtain ⟨⟨c1, c2⟩, c3⟩ := hc;have c1 := beq_t c1;have c2 := Sh.beq_eq c2;simp only [sme] at h;subst h;obtain ⟨d1, d2⟩ := hd.app;have d1 := duty_i d1;have d2 := dutyD_eq d2;obtain ⟨h1, h2, arr, h3, h4⟩ := R;exact ⟨h1, by rw [hb]; exact h2, arr, by rw [← c1]; exact h3, ⟨by rw [H.opq, ← d1, ← d2]; exact h4.n, by rw [H.opq, ← d2, ← c2, ← c3, hs]; exact h4.size, by rw [H.opq, ← d2, ← c2, H.h]; exact h4.cell⟩⟩
  ·cases h
 ·rename_i b q';split at h
  ·rename_i es hes;simp only [sme] at h;subst h;obtain ⟨d1, d2⟩ := hd.app;have d1 := duty_i d1;have d2 := dutyD_eq d2;obtain ⟨h1, h2, arr, h3, h4⟩ := cellsV_ok hes R;have h4n := h4.n;have h4s := h4.size;have h4c := h4.cell;simp only at h4n h4s h4c;exact ⟨h1, by rw [hb]; exact h2, arr, h3, ⟨by rw [H.opq, ← d1, ← d2]; exact h4n, by rw [H.opq, ← d2, hs]; exact h4s, by rw [H.opq, ← d2, H.h]; exact h4c⟩⟩
  ·cases h
 ·rename_i r k l n q;split at h
  ·rename_i hc;simp only [bae, decide_eq_true_eq] at hc;obtain ⟨⟨⟨⟨⟨c5, c6⟩, c1⟩, c2⟩, c3⟩, c4⟩ := hc;have c1 := beq_t c1;have c3 := codeSam_eq c3;have c4 := codeSam_eq c4;have c6 := samOpt_eq c6;obtain ⟨h1, h2, f, tmps, d, h3, h4, h5⟩ := R;refine ⟨h1, by rw [hb]; exact h2, f, tmps, d, ?_, by rw [h4]; exact c1, fun i v hv => ?_⟩
   ·rw [h3, c5, c6, c2, c3, c4]
   ·obtain ⟨u, du, g1, g2, g3⟩ := seeTab_mem h hd i v (tabT_mem hv);obtain ⟨x, g4, g5⟩ := h5 i u g1;exact ⟨x, g4, seeA_vr H u v du g2 g3 x g5⟩
  ·cases h
 ·cases h

theorem seeO_own {ρ : Ren} {oi : AObj} {r : RW} {d : List Duty} (h1 : seeO ρ oi r = some d) (h2 : r.obj.own = true) : oi.own = true := by
 cases oi <;> cases r <;> first | rfl | (simp [seeO] at h1; done) | (simp [RW.obj, AObj.own] at h2; done)

def rowsT : List (Nat × RW) → T AObj
 | [] => .nil
 | (i, r) :: l => (rowsT l).put i (some r.obj)
def rowsSt (l : List (Nat × RW)) (next : Nat) : St := ⟨rowsT l, next⟩
def RW.subs (θ : Nat → E) (l : List (Nat × RW)) : List (Nat × RW) := l.map fun p => (p.1, p.2.sub θ)

theorem rowsT_mem : ∀ {l : List (Nat × RW)} {i : Nat} {o : AObj}, (rowsT l).get i = some o → ∃ r, (i, r) ∈ l ∧ o = r.obj
 | [], i, o, h => by simp [rowsT, T.get_nil] at h
 | (j, r) :: l, i, o, h => by
  simp only [rowsT, T.get_put] at h;split at h
  ·rename_i e1;subst e1;simp only [sme] at h;exact ⟨r, by simp, h.symm⟩
  ·obtain ⟨r', h1, h2⟩ := rowsT_mem h;exact ⟨r', by simp [h1], h2⟩

def Ren.src (ρ : Ren) (j : Nat) : Option Nat := match Nat.beq (j % 2) 0 with
 | true => some j
 | false => ρ.get j

def seeRows (ρ : Ren) (s : St) : List (Nat × RW) → Option (List Duty)
 | [] => some []
 | (j, r) :: l => match ρ.src j with
  | some i => match s.heap.get i with
   | some o => match seeO ρ o r, seeRows ρ s l with
    | some d, some m => some (d ++ m)
    | _, _ => none
   | none => none
  | none => none

theorem seeRows_mem {ρ : Ren} {s : St} {Ω : Om} : ∀ {l : List (Nat × RW)} {ds : List Duty}, seeRows ρ s l = some ds → Duties Ω ds → ∀ j r, (j, r) ∈ l → ∃ i o d, ρ.src j = some i ∧ s.heap.get i = some o ∧ seeO ρ o r = some d ∧ Duties Ω d
 | [], _, _, _, j, r, hm => by simp at hm
 | (j', r') :: l, ds, k, hd, j, r, hm => by
  simp only [seeRows] at k;split at k
  ·rename_i i hi;split at k
   ·rename_i o ho;split at k
    ·rename_i d m h1 h2;simp only [sme] at k;subst k;obtain ⟨d1, d2⟩ := hd.app;rcases List.mem_cons.1 hm with hm | hm
     ·simp only [pme] at hm;obtain ⟨rfl, rfl⟩ := hm;exact ⟨i, o, d, hi, ho, h1, d1⟩
     ·exact seeRows_mem h2 d2 j r hm
    ·cases k
   ·cases k
  ·cases k

def distinctB : List Nat → Bool
 | [] => true
 | i :: l => !isNum i l && distinctB l
theorem distinctB_nodup : ∀ {l : List Nat}, distinctB l = true → l.Nodup
 | [], _ => List.nodup_nil
 | i :: l, h => by
  simp only [distinctB, bae, Bool.not_eq_true'] at h;refine List.nodup_cons.2 ⟨fun hm => ?_, distinctB_nodup h.2⟩;have : ∀ {l : List Nat}, i ∈ l → isNum i l = true := by
   intro l;induction l with
   | nil => intro h; simp at h
   | cons a l ih =>
    intro h;simp only [isNum, Bool.or_eq_true];rcases List.mem_cons.1 h with rfl | h
    ·left; simp
    ·right; exact ih h
  rw [this hm] at h;cases h.1

theorem Ren.get_mem : ∀ {ρ : Ren} {i j : Nat}, ρ.get i = some j → (i, j) ∈ ρ
 | [], _, _, h => by simp [Ren.get] at h
 | (a, b) :: r, i, j, h => by
  simp only [Ren.get] at h;split at h
  ·rename_i hb;obtain rfl := beq_t hb;simp only [sme] at h;subst h; simp
  ·exact List.mem_cons_of_mem _ (Ren.get_mem h)

theorem pairs_inj {ρ : List (Nat × Nat)} (h : (ρ.map (·.2)).Nodup) {a b c : Nat} (h1 : (a, c) ∈ ρ) (h2 : (b, c) ∈ ρ) : a = b := by
 induction ρ with
 | nil => simp at h1
 | cons p r ih =>
  simp only [List.map_cons, List.nodup_cons, List.mem_map, not_exists, not_and] at h;rcases List.mem_cons.1 h1 with e1 | h1 <;> rcases List.mem_cons.1 h2 with e2 | h2
  ·rw [← e1] at e2; simp only [pme] at e2; exact e2.1.symm
  ·exact absurd (by rw [← e1]) (h.1 _ h2)
  ·exact absurd (by rw [← e2]) (h.1 _ h1)
  ·exact ih h.2 h1 h2

def Env.pull (e : Env) (ρ : Ren) : Env where
 loc j := if j % 2 = 0 then some (j / 2) else match ρ.get j with
  | .some i => e.loc i
  | .none => Option.none
 spare j := if j % 2 = 0 then e.spare j else match ρ.get j with
  | .some i => e.spare i
  | .none => 0
 base j := if j % 2 = 0 then e.base j else match ρ.get j with
  | .some i => e.base i
  | .none => 0
 opq := e.opq
 glob g := by simp
 h := e.h

theorem Env.pull_ok (e : Env) (ρ : Ren) : RenOK ρ e (e.pull ρ) where
 opq := rfl
 h := rfl
 odd i j h ho := by
  simp only [Env.pull, h];rw [if_neg (by omega), if_neg (by omega), if_neg (by omega)];exact ⟨rfl, rfl, rfl⟩
 even g := by simp [Env.pull]

theorem Ren.src_is {ρ : Ren} {i j : Nat} (h : ρ.src j = some i) : ρ.is j i = true := by
 unfold Ren.src at h;unfold Ren.is;split at h
 ·rename_i h0;simp only [sme] at h;subst h;simp [h0]
 ·rename_i h0;simp [h0, h]

def keysUnder (ρ : Ren) (next : Nat) : Bool := ρ.all fun p => Nat.blt p.1 (2 * next + 1)

theorem Rel.see {Ω : Om} {w0 : Base} {e : Env} {s : St} {w : World} (h : Rel Ω w0 e s w) {ρ : Ren} {rows : List (Nat × RW)} {next : Nat} {ds : List Duty} (k : seeRows ρ s rows = some ds) (hd : Duties Ω ds) (hk : keysUnder ρ next = true) (hv : distinctB (ρ.map (·.2)) = true) (ho : (ρ.all fun p => !Nat.beq (p.2 % 2) 0) = true) :
  Rel Ω w0 (e.pull ρ) (rowsSt rows next) w := by
 obtain rfl := h.opq;have H := Env.pull_ok e ρ;have nd := distinctB_nodup hv;refine ⟨rfl, h.below, fun n hn => ?_, fun i j o o' b hi hj oi oj li lj => ?_, fun j o hj => ?_, h.pool, fun j o b hj oo lj => ?_, h.grow, h.hold⟩
 ·simp only [Env.pull];rw [if_neg (by omega)];split
  ·rename_i i hi;have := List.all_eq_true.1 hk _ (Ren.get_mem hi);simp only [Nat.blt_eq, rowsSt] at this hn;omega
  ·rfl
 ·obtain ⟨r, h1, rfl⟩ := rowsT_mem hi;obtain ⟨r', h2, rfl⟩ := rowsT_mem hj;obtain ⟨p, op, _, hp1, hp2, hp3, _⟩ := seeRows_mem k hd i r h1;obtain ⟨q, oq, _, hq1, hq2, hq3, _⟩ := seeRows_mem k hd j r' h2;obtain ⟨gi, _⟩ := H.is (Ren.src_is hp1);obtain ⟨gj, _⟩ := H.is (Ren.src_is hq1);rw [gi] at li;rw [gj] at lj;have := h.inj p q _ _ b hp2 hq2 (seeO_own hp3 oi) (seeO_own hq3 oj) li lj;subst this;unfold Ren.src at hp1 hq1;split at hp1 <;> split at hq1
  ·simp only [sme] at hp1 hq1; rw [hp1, hq1]
  ·rename_i _ e1 _ _;simp only [sme] at hp1;have e1 := beq_t e1;have := List.all_eq_true.1 ho _ (Ren.get_mem hq1);simp only [Bool.not_eq_true'] at this;have := beq_f this;omega
  ·rename_i _ _ _ e2;simp only [sme] at hq1;have e2 := beq_t e2;have := List.all_eq_true.1 ho _ (Ren.get_mem hp1);simp only [Bool.not_eq_true'] at this;have := beq_f this;omega
  ·exact pairs_inj nd (Ren.get_mem hp1) (Ren.get_mem hq1)
 ·obtain ⟨r, h1, rfl⟩ := rowsT_mem hj;obtain ⟨i, oi, d, hs, hh, hse, hdu⟩ := seeRows_mem k hd j r h1;obtain ⟨g1, g2, g3⟩ := H.is (Ren.src_is hs);obtain ⟨kk, hl, hO⟩ := h.obj i oi hh;exact ⟨kk, by rw [g1]; exact hl, seeO_ok H hse hdu g2 g3 hO⟩
 ·obtain ⟨r, h1, rfl⟩ := rowsT_mem hj;obtain ⟨i, oi, d, hs, hh, hse, hdu⟩ := seeRows_mem k hd j r h1;obtain ⟨g1, _⟩ := H.is (Ren.src_is hs);rw [g1] at lj;exact h.apart i oi b hh (seeO_own hse oo) lj

theorem Rel.subst {Ω : Om} {θ : Nat → E} {w0 : Base} {e : Env} {rows : List (Nat × RW)} {next : Nat} {w : World} (h : Rel Ω w0 e (rowsSt (RW.subs θ rows) next) w) : Rel (Ω.sub θ) w0 (e.at (Ω.sub θ)) (rowsSt rows next) w := by
 obtain rfl := h.opq;have key : ∀ (l : List (Nat × RW)) (i : Nat) (o : AObj), (rowsT l).get i = some o → ∃ r : RW, o = r.obj ∧ (rowsT (RW.subs θ l)).get i = some (r.sub θ).obj := by
  intro l;induction l with
  | nil => intro i o hi; simp [rowsT, T.get_nil] at hi
  | cons p l ih =>
   intro i o hi;simp only [rowsT, T.get_put] at hi;simp only [RW.subs, List.map_cons, rowsT, T.get_put];split at hi
   ·rename_i e1;simp only [sme] at hi;rw [if_pos e1];exact ⟨p.2, hi.symm, rfl⟩
   ·rename_i e1;rw [if_neg e1];exact ih i o hi
 refine ⟨rfl, h.below, h.fresh, fun i j o o' b hi hj oi oj li lj => ?_, fun i o hi => ?_, h.pool, fun i o b hi oo li => ?_, h.grow, h.hold⟩
 ·obtain ⟨r, rfl, h1⟩ := key rows i o hi;obtain ⟨r', rfl, h2⟩ := key rows j o' hj;exact h.inj i j _ _ b h1 h2 (by cases r <;> first | rfl | cases oi) (by cases r' <;> first | rfl | cases oj) li lj
 ·obtain ⟨r, rfl, h1⟩ := key rows i o hi;obtain ⟨k, h2, h3⟩ := h.obj i _ h1;exact ⟨k, h2, RW.sub_ok.1 h3⟩
 ·obtain ⟨r, rfl, h1⟩ := key rows i o hi;exact h.apart i _ b h1 (by cases r <;> first | rfl | cases oo) li

end Go.Ev
