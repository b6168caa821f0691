/- Loops that are known: from one pattern to another, within any state that shows the pattern. No condition. -/
import Derived.Test.YtidpndnehbhloaaDoorSyu
namespace Go.Ev
open Go.RowKit

mutual
def AV.clear : AV → Bool
 | .opq _ => false
 | .pw _ _ _ => false
 | .keep _ => false
 | .text _ => false
 | .byte _ => false
 | .func _ cs => AV.clears cs
 | .bound _ cs => AV.clears cs
 | .iface _ v => v.clear
 | .agg cs => AV.clears cs
 | .tuple cs => AV.clears cs
 | .lit cs => AV.clears cs
 | _ => true
def AV.clears : List AV → Bool
 | [] => true
 | c :: cs => c.clear && AV.clears cs
end

theorem den_newV (v v' : Nat → Value) (d : Nat → D) (f : Nat → D → D) : ∀ x : E, x.den ⟨v, d, f⟩ = x.den ⟨v', d, f⟩
 | .var _ | .int _ | .lits _ => rfl
 | .fn g x => by simp only [E.den, den_newV v v' d f x]
 | .un o x => by simp only [E.den, den_newV v v' d f x]
 | .bi o x y => by simp only [E.den, den_newV v v' d f x, den_newV v v' d f y]
 | .tr o x y z => by simp only [E.den, den_newV v v' d f x, den_newV v v' d f y, den_newV v v' d f z]

theorem den_same {Ω Ω' : Om} (hd : Ω'.d = Ω.d) (hf : Ω'.f = Ω.f) (x : E) : x.den Ω' = x.den Ω := by
 cases Ω; cases Ω';simp only at hd hf;subst hd hf;exact den_newV _ _ _ _ x

theorem val_same {Ω Ω' : Om} (hd : Ω'.d = Ω.d) (hf : Ω'.f = Ω.f) (q : Q) : q.val Ω' = q.val Ω := by
 cases q <;> simp only [Q.val] <;> first
  | (rw [decide_eq_decide]; simp only [E.i, E.s, den_same hd hf])
  | simp only [E.s, den_same hd hf]

mutual
theorem VR.newV {e : Env} {Ω : Om} (hd : Ω.d = e.opq.d) (hf : Ω.f = e.opq.f) : ∀ (v : AV), v.clear = true → ∀ {a : Value}, VR e v a → VR (e.at Ω) v a
 | .bool _, _, _, h | .int _ _, _, _, h | .float _ _, _, _, h | .str _, _, _, h | .nilptr, _, _, h | .nilslice, _, _, h | .hollow, _, _, h | .empty, _, _, h | .nilmap, _, _, h | .nilfunc, _, _, h | .niliface, _, _, h | .any, _, _, h | .nan _, _, _, h | .vfn _, _, _, h => by simpa only [VR] using h
 | .ptr i o, _, _, h => by simp only [VR] at h ⊢; exact h
 | .slice i o l c opn, _, _, h => by simp only [VR] at h ⊢; exact h
 | .mapv i, _, _, h => by simp only [VR] at h ⊢; exact h
 | .yieldf i, _, _, h => by simp only [VR] at h ⊢; exact h
 | .sint k x, _, _, h => by simp only [VR, E.i, Env.at, den_same hd hf] at h ⊢; exact h
 | .sflt x, _, _, h => by simp only [VR, E.i, Env.at, den_same hd hf] at h ⊢; exact h
 | .sbits x, _, _, h => by simp only [VR, E.i, E.n, Env.at, den_same hd hf] at h ⊢; exact h
 | .sstr n x, _, _, h => by simp only [VR, E.i, E.s, Env.at, den_same hd hf] at h ⊢; exact h
 | .pv s x, _, _, h => by simp only [VR, Env.at, den_same hd hf] at h ⊢; exact h
 | .pp s x, _, _, h => by simp only [VR, Env.at, den_same hd hf] at h ⊢; exact h
 | .vslice i z o l c opn, _, _, h => by simp only [VR, E.n, E.i, Env.at, den_same hd hf] at h ⊢; exact h
 | .vptr i z j f, _, _, h => by simp only [VR, E.n, Env.at, den_same hd hf] at h ⊢; exact h
 | .sptr i x, _, _, h => by simp only [VR, E.n, Env.at, den_same hd hf] at h ⊢; exact h
 | .sslice i o l c opn, _, _, h => by simp only [VR, E.n, E.i, Env.at, den_same hd hf] at h ⊢; exact h
 | .func f cs, hc, _, h => by simp only [AV.clear] at hc; simp only [VR] at h ⊢; obtain ⟨as, h1, h2⟩ := h; exact ⟨as, h1, VRs.newV hd hf cs hc h2⟩
 | .bound f cs, hc, _, h => by simp only [AV.clear] at hc; simp only [VR] at h ⊢; obtain ⟨as, h1, h2⟩ := h; exact ⟨as, h1, VRs.newV hd hf cs hc h2⟩
 | .iface t v, hc, _, h => by simp only [AV.clear] at hc; simp only [VR] at h ⊢; obtain ⟨as, h1, h2⟩ := h; exact ⟨as, h1, VR.newV hd hf v hc h2⟩
 | .agg cs, hc, _, h => by simp only [AV.clear] at hc; simp only [VR] at h ⊢; obtain ⟨as, h1, h2⟩ := h; exact ⟨as, h1, VRs.newV hd hf cs hc h2⟩
 | .tuple cs, hc, _, h => by simp only [AV.clear] at hc; simp only [VR] at h ⊢; obtain ⟨as, h1, h2⟩ := h; exact ⟨as, h1, VRs.newV hd hf cs hc h2⟩
 | .lit cs, hc, _, h => by simp only [AV.clear] at hc; simp only [VR] at h ⊢; obtain ⟨as, h1, h2⟩ := h; exact ⟨as, h1, VRs.newV hd hf cs hc h2⟩
 | .opq _, hc, _, _ => by cases hc
 | .pw _ _ _, hc, _, _ => by cases hc
 | .keep _, hc, _, _ => by cases hc
 | .text _, hc, _, _ => by cases hc
 | .byte _, hc, _, _ => by cases hc
theorem VRs.newV {e : Env} {Ω : Om} (hd : Ω.d = e.opq.d) (hf : Ω.f = e.opq.f) : ∀ (v : List AV), AV.clears v = true → ∀ {a : List Value}, VRs e v a → VRs (e.at Ω) v a
 | [], _, _, h => by simpa only [VRs] using h
 | c :: cs, hc, _, h => by
  simp only [AV.clears, bae] at hc;simp only [VRs] at h ⊢;obtain ⟨x, r, h1, h2, h3⟩ := h;exact ⟨x, r, h1, VR.newV hd hf c hc.1 h2, VRs.newV hd hf cs hc.2 h3⟩
end

def RW.clear : RW → Bool
 | .cells _ _ _ _ l => AV.clears l
 | .ext l => AV.clears l
 | .map es _ => es.all fun m => m.key.clear && m.val.clear
 | .loop _ l _ _ => l.all fun p => p.2.clear
 | _ => true
theorem MR.newV {e : Env} {Ω : Om} (hd : Ω.d = e.opq.d) (hf : Ω.f = e.opq.f) : ∀ {l : List ME}, (l.all fun m => m.key.clear && m.val.clear) = true → ∀ {m : List MapEntry}, MR e l m → MR (e.at Ω) l m
 | [], _, _, h => h
 | c :: l, hc, _, ⟨x, rest, h1, h2, h3, h4, h5⟩ => by
  simp only [List.all_cons, bae] at hc;exact ⟨x, rest, h1, h2.newV hd hf _ hc.1.1, h3.newV hd hf _ hc.1.2, h4, MR.newV hd hf hc.2 h5⟩

theorem clears_get : ∀ {l : List AV}, AV.clears l = true → ∀ {i : Nat} {v : AV}, l[i]? = some v → v.clear = true
 | [], _, i, v, h => by simp at h
 | c :: l, hc, 0, v, h => by
  simp only [AV.clears, bae] at hc;simp only [List.getElem?_cons_zero, sme] at h;subst h; exact hc.1
 | c :: l, hc, i + 1, v, h => by
  simp only [AV.clears, bae] at hc;exact clears_get hc.2 (by simpa using h)

theorem ObjR.newV {w0 : Base} {e : Env} {Ω : Om} (hd : Ω.d = e.opq.d) (hf : Ω.f = e.opq.f) {id k : Nat} {w : World} {r : RW} (hc : r.clear = true) (h : ObjR w0 e id k w r.obj) : ObjR w0 (e.at Ω) id k w r.obj := by
 cases r with
 | cells el esz opn str l =>
  obtain ⟨h1, h2, arr, fz, h3, h4⟩ := h;exact ⟨h1, h2, arr, fz, h3, ⟨h4.size, fun i v hv => by
   obtain ⟨x, g1, g2⟩ := h4.cell i v hv;rw [ABL_at] at hv;exact ⟨x, g1, g2.newV hd hf v (clears_get hc hv)⟩, h4.frozen, h4.plain, h4.mark, fun _ hk => by cases hk⟩⟩
 | seq q =>
  obtain ⟨h1, h2, arr, fz, h3, h4⟩ := h;exact ⟨h1, h2, arr, fz, h3, ⟨by have := h4.n; simpa only [E.i, E.s, Env.at, den_same hd hf] using this, by have := h4.rng; simpa only [E.s, Env.at, den_same hd hf] using this, by have := h4.cells; simpa only [E.s, Env.at, den_same hd hf] using this, h4.frozen, h4.plain, h4.mark⟩⟩
 | eseq q =>
  obtain ⟨h1, h2, arr, el, fz, h3, h4⟩ := h;refine ⟨h1, ?_, arr, el, fz, h3, ?_⟩
  ·simpa only [E.i, E.s, Env.at, den_same hd hf] using h2
  ·simpa only [E.s, Env.at, den_same hd hf] using h4
 | ext l =>
  obtain ⟨h1, h2, arr, el, fz, h3, h4⟩ := h;refine ⟨h1, h2, arr, el, fz, h3, fun i v hv => ?_⟩;obtain ⟨x, g1, g2⟩ := h4 i v hv;rw [ABL_at] at hv;exact ⟨x, g1, g2.newV hd hf v (clears_get hc hv)⟩
 | map es c =>
  obtain ⟨h1, h2, arr, h3, h4⟩ := h;exact ⟨h1, h2, arr, h3, MR.newV hd hf hc h4⟩
 | vseq q =>
  obtain ⟨h1, h2, arr, h3, h4⟩ := h;exact ⟨h1, h2, arr, h3, ⟨by have := h4.n; simpa only [E.i, Env.at, den_same hd hf] using this, by have := h4.size; simpa only [Env.at, den_same hd hf] using this, by have := h4.cell; simpa only [Env.at, den_same hd hf] using this⟩⟩
 | loop k0 l n q =>
  obtain ⟨h1, h2, f, tmps, d, h3, h4, h5⟩ := h;refine ⟨h1, h2, f, tmps, d, h3, h4, fun i v hv => ?_⟩;obtain ⟨x, g1, g2⟩ := h5 i v hv;have := List.all_eq_true.1 hc _ (tabT_mem hv);exact ⟨x, g1, g2.newV hd hf v this⟩

open Classical in
noncomputable def reBase (e : Env) (s : St) (w : World) : Base := ⟨w, fun k => !decide (∃ id o, s.heap.get id = some o ∧ o.own = true ∧ e.loc id = some k), e.h⟩

theorem reBase_mine {e : Env} {s : St} {w : World} {k : Nat} (h : (reBase e s w).K k = false) : ∃ id o, s.heap.get id = some o ∧ o.own = true ∧ e.loc id = some k := by
 simp only [reBase, Bool.not_eq_false', decide_eq_true_eq] at h;exact h

theorem Rel.rebase {Ω : Om} {w0 : Base} {e : Env} {s : St} {w : World} (h : Rel Ω w0 e s w) : Rel Ω (reBase e s w) e s w := by
 have own : ∀ id o k, s.heap.get id = some o → o.own = true → e.loc id = some k → (reBase e s w).mine k := fun id o k h1 h2 h3 => .inr (by
  simp only [reBase, Bool.not_eq_false', decide_eq_true_eq];exact ⟨id, o, h1, h2, h3⟩)
 have kept : ∀ k, w0.kept k → (reBase e s w).kept k := fun k hk => ⟨by have := hk.1; have := h.below.size; show k < w.heap.size; omega, by
  simp only [reBase, Bool.not_eq_true', decide_eq_false_iff_not];rintro ⟨id, o, h1, h2, h3⟩
  obtain ⟨k', h4, h5⟩ := h.obj id o h1;rw [h3] at h4;cases h4;rcases h5.own with ⟨_, g⟩ | ⟨g, _⟩
  ·exact Base.mine_ne g hk rfl
  ·rw [h2] at g; cases g⟩
 refine ⟨h.opq, Und.refl _, h.fresh, h.inj, fun id o ho => ?_, h.pool, h.apart, fun k arr hk => .inl ⟨arr, hk⟩, fun _ _ h => h⟩;obtain ⟨k, h1, h2⟩ := h.obj id o ho;refine ⟨k, h1, ?_⟩;cases o with
 | loop r => exact ⟨own id _ k ho rfl h1, h2.2⟩
 | defd => exact ⟨own id _ k ho rfl h1, h2.2⟩
 | map es c => exact ⟨own id _ k ho rfl h1, h2.2⟩
 | siter s p => exact ⟨own id _ k ho rfl h1, h2.2⟩
 | miter s p => exact ⟨own id _ k ho rfl h1, h2.2⟩
 | cells b => exact ⟨own id _ k ho rfl h1, h2.2⟩
 | seq q => exact ⟨own id _ k ho rfl h1, h2.2⟩
 | vseq q => exact ⟨own id _ k ho rfl h1, h2.2⟩
 | ext b => exact ⟨kept k h2.1, h2.2⟩
 | eseq q => exact ⟨kept k h2.1, h2.2⟩
 | peq q => exact h2

structure LSpec where
 n : Nat
 next : Nat
 pat : List (Nat × AV)
 rows : List (Nat × RW)
 pre : List (Q × Bool)
 x : Nat
 fin : List (Nat × AV)
 frows : List (Nat × RW)
 same : List Nat
 chg : List Nat

def keepT (n : Nat) : T AV := T.nil.putL 0 ((List.range n).map .keep)
def putAll : T AV → List (Nat × AV) → T AV
 | t, [] => t
 | t, (i, v) :: l => putAll (t.put i (some v)) l
def LSpec.fr (L : LSpec) : Fr := ⟨putAll (keepT L.n) L.pat, L.n, []⟩
def LSpec.st (L : LSpec) : St := rowsSt L.rows L.next

theorem keepT_get {n i : Nat} {v : AV} (h : (keepT n).get i = some v) : i < n ∧ v = .keep i := by
 simp only [keepT, T.get_putL, T.get_nil] at h;split at h
 ·rename_i hc;simp only [Nat.sub_zero, List.getElem?_map, Option.map_eq_some_iff] at h;obtain ⟨j, hj, rfl⟩ := h;have := List.getElem?_eq_some_iff.1 hj;simp at this;exact ⟨by omega, by rw [this.2]⟩
 ·cases h

theorem putAll_get : ∀ {l : List (Nat × AV)} {t : T AV} {i : Nat} {v : AV}, (putAll t l).get i = some v → (i, v) ∈ l ∨ t.get i = some v
 | [], t, i, v, h => .inr h
 | (j, u) :: l, t, i, v, h => by
  have h' : (putAll (t.put j (some u)) l).get i = some v := h;rcases putAll_get h' with g | g
  ·exact .inl (List.mem_cons_of_mem _ g)
  ·rw [T.get_put] at g;split at g
   ·rename_i e1;rw [sme] at g;exact .inl (by rw [e1, ← g]; simp)
   ·exact .inr g

def xOf (n : Nat) : X := match Nat.beq n 999999 with
 | true => .ret
 | false => .exit n
def exOf (n : Nat) : Exit := match Nat.beq n 999999 with
 | true => .ret
 | false => .exit n
theorem XR_xOf {e : Env} {n : Nat} {ex : Exit} (h : XR e (xOf n) ex) : ex = exOf n := by
 unfold xOf at h;unfold exOf;generalize Nat.beq n 999999 = b at h ⊢;cases b with
 | true => cases ex <;> first | exact h.elim | rfl
 | false => cases ex <;> first | exact h.elim | (simp only [XR] at h; rw [h])
theorem xOf_XR (e : Env) (n : Nat) : XR e (xOf n) (exOf n) := by
 unfold xOf exOf;split <;> simp [XR]
theorem FX_xOf {e : Env} {n : Nat} {fr : Fr} {a : Act} (h : FX e (xOf n) fr a) : FrR e fr a := by
 unfold FX at h;split at h
 ·rename_i c hc _;unfold xOf at hc;split at hc <;> cases hc
 ·exact h

structure LPost (L : LSpec) (Ω : Om) (B : Base) (e : Env) (a0 : Act) (ex : Exit) (a : Act) (w : World) (e' : Env) : Prop where
 rel : ∃ N, Rel Ω B e' (rowsSt L.frows N) w
 x : ex = exOf L.x
 size : a.tmps.size = L.n
 df : a.defers = []
 fin : ∀ p ∈ L.fin, ∃ x, a.tmps[p.1]? = some x ∧ VR e' p.2 x
 kept : ∀ i, isNum i L.chg = false → a.tmps[i]? = a0.tmps[i]?
 same : ∀ i ∈ L.same, e'.loc i = e.loc i ∧ e'.spare i = e.spare i ∧ e'.base i = e.base i
 even : ∀ g, e'.spare (2 * g) = e.spare (2 * g) ∧ e'.base (2 * g) = e.base (2 * g)

def LHolds (P : Program) (b : Code) (L : LSpec) (f : Nat → D → D) : Prop := ∀ d, (∀ p ∈ L.pre, p.1.val ⟨fun _ => .bool false, d, f⟩ = p.2) → ∃ m, ∀ (v : Nat → Value) (B : Base) (e : Env) (a : Act) (w : World), Rel ⟨v, d, f⟩ B e L.st w → FrR e L.fr a →
 ∀ Q : Exit → Act → World → Prop, (∀ ex a' w' e', LPost L ⟨v, d, f⟩ B e a ex a' w' e' → Q ex a' w') → Code.rounds P b Q m a w

def seePat (ρ : Ren) (t : T AV) : List (Nat × AV) → Option (List Duty)
 | [] => some []
 | (i, v) :: l => match t.get i with
  | some u => match seeA ρ u v, seePat ρ t l with
   | some d, some m => some (d ++ m)
   | _, _ => none
  | none => none

theorem seePat_ok {ρ : Ren} {e e' : Env} (H : RenOK ρ e e') {t : T AV} {a : Act} (hf : FT e t a) : ∀ {l : List (Nat × AV)} {ds : List Duty}, seePat ρ t l = some ds → Duties e.opq ds → ∀ p ∈ l, ∃ x, a.tmps[p.1]? = some x ∧ VR e' p.2 x
 | [], _, _, _, p, hp => by simp at hp
 | (i, v) :: l, ds, k, hd, p, hp => by
  simp only [seePat] at k;split at k
  ·rename_i u hu;split at k
   ·rename_i d m h1 h2;simp only [sme] at k;subst k;obtain ⟨d1, d2⟩ := hd.app;rcases List.mem_cons.1 hp with rfl | hp
    ·obtain ⟨x, g1, g2⟩ := hf i u hu;exact ⟨x, g1, seeA_vr H u v d h1 d1 _ g2⟩
    ·exact seePat_ok H hf h2 d2 p hp
   ·cases k
  ·cases k

def patSub (θ : Nat → E) (l : List (Nat × AV)) : List (Nat × AV) := l.map fun p => (p.1, p.2.sub θ)
def idRen (l : List (Nat × RW)) : Ren := l.map fun p => (p.1, p.1)

theorem idRen_get {l : List (Nat × RW)} {i j : Nat} (h : (idRen l).get i = some j) : j = i := by
 have := Ren.get_mem h;simp only [idRen, List.mem_map] at this;obtain ⟨p, _, hp⟩ := this;simp only [pme] at hp;rw [← hp.1, ← hp.2]

theorem idRen_ok (l : List (Nat × RW)) (e : Env) : RenOK (idRen l) e e := ⟨rfl, rfl, fun i j h _ => by rw [idRen_get h]; exact ⟨rfl, rfl, rfl⟩, fun _ => ⟨rfl, rfl⟩⟩

def LSpec.finSame (L : LSpec) (θ : Nat → E) : Option (List Duty) :=
 match finP L.fin, finR L.frows with
 | some l, some m => some (l ++ m)
 | _, _ => none
where
 finP : List (Nat × AV) → Option (List Duty)
  | [] => some []
  | (_, v) :: l => match seeA (idRen (L.rows ++ L.frows)) (v.sub θ) v, finP l with
   | some d, some m => some (d ++ m)
   | _, _ => none
 finR : List (Nat × RW) → Option (List Duty)
  | [] => some []
  | (_, r) :: l => match seeO (idRen (L.rows ++ L.frows)) (r.sub θ).obj r, finR l with
   | some d, some m => some (d ++ m)
   | _, _ => none

theorem finP_mem {L : LSpec} {θ : Nat → E} {Ω : Om} : ∀ {l : List (Nat × AV)} {ds : List Duty}, LSpec.finSame.finP L θ l = some ds → Duties Ω ds → ∀ p ∈ l, ∃ d, seeA (idRen (L.rows ++ L.frows)) (p.2.sub θ) p.2 = some d ∧ Duties Ω d
 | [], _, _, _, p, hp => by simp at hp
 | (i, v) :: l, ds, k, hd, p, hp => by
  simp only [LSpec.finSame.finP] at k;split at k
  ·rename_i d m h1 h2;simp only [sme] at k;subst k;obtain ⟨d1, d2⟩ := hd.app;rcases List.mem_cons.1 hp with rfl | hp
   ·exact ⟨d, h1, d1⟩
   ·exact finP_mem h2 d2 p hp
  ·cases k
theorem finR_mem {L : LSpec} {θ : Nat → E} {Ω : Om} : ∀ {l : List (Nat × RW)} {ds : List Duty}, LSpec.finSame.finR L θ l = some ds → Duties Ω ds → ∀ p ∈ l, ∃ d, seeO (idRen (L.rows ++ L.frows)) (p.2.sub θ).obj p.2 = some d ∧ Duties Ω d
 | [], _, _, _, p, hp => by simp at hp
 | (i, v) :: l, ds, k, hd, p, hp => by
  simp only [LSpec.finSame.finR] at k;split at k
  ·rename_i d m h1 h2;simp only [sme] at k;subst k;obtain ⟨d1, d2⟩ := hd.app;rcases List.mem_cons.1 hp with rfl | hp
   ·exact ⟨d, h1, d1⟩
   ·exact finR_mem h2 d2 p hp
  ·cases k

def keptB (t : T AV) (chg : List Nat) : Nat → Bool
 | 0 => true
 | n + 1 => (isNum n chg || match t.get n with
  | some (.keep i) => Nat.beq i n
  | _ => false) && keptB t chg n
theorem keptB_ok {t : T AV} {chg : List Nat} : ∀ {n : Nat}, keptB t chg n = true → ∀ i, i < n → isNum i chg = false → t.get i = some (.keep i)
 | 0, _, i, h, _ => by omega
 | n + 1, k, i, h, hi => by
  simp only [keptB, bae, Bool.or_eq_true] at k;rcases Nat.lt_or_ge i n with hlt | hge
  ·exact keptB_ok k.2 i hlt hi
  ·have e1 : i = n := by omega
   subst e1;rcases k.1 with k1 | k1
   ·rw [hi] at k1; cases k1
   ·split at k1
    ·rename_i j hj;rw [hj, beq_t k1]
    ·cases k1

def sameB (L : LSpec) (ρ : Ren) : Bool := L.same.all fun i => (match ρ.get i with | some j => Nat.beq j i | none => false) && Nat.beq (i % 2) 1 && (L.rows.any fun p => Nat.beq p.1 i)
def renB (ρ : Ren) : Bool := distinctB (ρ.map (·.2)) && ρ.all fun p => !Nat.beq (p.2 % 2) 0
def LSpec.fine (L : LSpec) : Bool := (L.pat.all fun p => isNum p.1 L.chg && p.2.clear && Nat.blt p.1 L.n) && (L.rows.all fun p => p.2.clear) && (L.fin.all fun p => p.2.clear) && (L.frows.all fun p => p.2.clear)

structure LEnd (L : LSpec) (Ω : Om) (fr1 : Fr) (s1 : St) (ρ : Ren) (N : Nat) : Prop where
 n : fr1.n = L.n
 df : fr1.defers = []
 kept : keptB fr1.t L.chg L.n = true
 fin : ∃ ds, seePat ρ fr1.t L.fin = some ds ∧ Duties Ω ds
 rows : ∃ ds, seeRows ρ s1 L.frows = some ds ∧ Duties Ω ds
 keys : keysUnder ρ N = true
 ren : renB ρ = true
 same : sameB L ρ = true

structure LNext (L : LSpec) (Ω : Om) (fr1 : Fr) (s1 : St) (ρ : Ren) (θ : Nat → E) : Prop where
 n : fr1.n = L.n
 df : fr1.defers = []
 kept : keptB fr1.t L.chg L.n = true
 pat : ∃ ds, seePat ρ fr1.t (patSub θ L.pat) = some ds ∧ Duties Ω ds
 rows : ∃ ds, seeRows ρ s1 (RW.subs θ L.rows) = some ds ∧ Duties Ω ds
 keys : keysUnder ρ L.next = true
 ren : renB ρ = true
 same : sameB L ρ = true
 pre : ∀ p ∈ L.pre, p.1.val (Ω.sub θ) = p.2
 fin : ∃ ds, L.finSame θ = some ds ∧ Duties Ω ds

theorem same_loc {L : LSpec} {ρ : Ren} (hs : sameB L ρ = true) {Ω : Om} {B : Base} {e e1 : Env} {w : World} (hr : Rel Ω B e L.st w) (hle : e.le e1) : ∀ i ∈ L.same, (e1.pull ρ).loc i = e.loc i ∧ (e1.pull ρ).spare i = e.spare i ∧ (e1.pull ρ).base i = e.base i := by
 intro i hi;have := List.all_eq_true.1 hs i hi;simp only [bae] at this;obtain ⟨⟨h1, h2⟩, h3⟩ := this;have h2 := beq_t h2;have hget : ρ.get i = some i := by
  split at h1
  ·rename_i j hj; rw [hj, beq_t h1]
  ·cases h1
 obtain ⟨p, hp, hpe⟩ := List.any_eq_true.1 h3;have hpe := beq_t hpe;have live : ∃ o, L.st.heap.get i = some o := by
  have : ∀ l : List (Nat × RW), p ∈ l → ∃ o, (rowsT l).get i = some o := by
   intro l;induction l with
   | nil => intro h; simp at h
   | cons q l ih =>
    intro h;simp only [rowsT, T.get_put];split
    ·exact ⟨_, rfl⟩
    ·rename_i hne;rcases List.mem_cons.1 h with rfl | h
     ·exact absurd hpe.symm hne
     ·exact ih h
  exact this L.rows hp
 obtain ⟨o, ho⟩ := live;obtain ⟨k, hk, _⟩ := hr.obj i o ho;have hl := hle.loc i k hk;simp only [Env.pull, hget];rw [if_neg (by omega), if_neg (by omega), if_neg (by omega)];exact ⟨by rw [hl.1, hk], hl.2.1, hl.2.2⟩

theorem renB_split {ρ : Ren} (h : renB ρ = true) : distinctB (ρ.map (·.2)) = true ∧ (ρ.all fun p => !Nat.beq (p.2 % 2) 0) = true := by
 simpa only [renB, bae] using h

theorem pull_even {e e1 : Env} (h : e.le e1) (ρ : Ren) : ∀ g, (e1.pull ρ).spare (2 * g) = e.spare (2 * g) ∧ (e1.pull ρ).base (2 * g) = e.base (2 * g) := fun g => by
 have := h.loc (2 * g) g (e.glob g);simp [Env.pull, this]

def factsC (Ω : Om) : List AV → Prop
 | [] => True
 | .sint k x :: l => inK k (x.i Ω) ∧ factsC Ω l
 | _ :: l => factsC Ω l
def AV.facts (Ω : Om) : AV → Prop
 | .agg cs => factsC Ω cs
 | .sint k x => inK k (x.i Ω)
 | .sflt x => -1 ≤ x.i Ω ∧ x.i Ω < 18446744073709551616
 | .sbits x => inK .u64 (x.i Ω)
 | .sslice _ o l c _ => 0 ≤ l.i Ω ∧ 0 ≤ o.i Ω ∧ l.i Ω ≤ c.i Ω
 | .sstr n x => n.i Ω = (x.s Ω).length ∧ ∀ c ∈ x.s Ω, inK .u8 c
 | .pv s x => ∀ c ∈ (x.den Ω).toList, s.ok c
 | .pp s x => s.ok (x.den Ω)
 | .vslice _ _ o l c _ => 0 ≤ l.i Ω ∧ 0 ≤ o.i Ω ∧ l.i Ω ≤ c.i Ω
 | _ => True
def RW.facts (Ω : Om) : RW → Prop
 | .seq q => q.n.i Ω = (q.x.s Ω).length ∧ ∀ c ∈ q.x.s Ω, inK q.k c
 | .eseq q => q.n.i Ω = (q.x.s Ω).length ∧ ∀ c ∈ q.x.s Ω, inK q.k c
 | .vseq q => q.n.i Ω = ((q.x.den Ω).toList.length : Int) ∧ ∀ c ∈ (q.x.den Ω).toList, q.s.ok c
 | _ => True
def factsA (Ω : Om) : List AV → Prop
 | [] => True
 | v :: l => v.facts Ω ∧ factsA Ω l
def factsP (Ω : Om) : List (Nat × AV) → Prop
 | [] => True
 | p :: l => p.2.facts Ω ∧ factsP Ω l
def factsR (Ω : Om) : List (Nat × RW) → Prop
 | [] => True
 | p :: l => p.2.facts Ω ∧ factsR Ω l
theorem factsP_of {Ω : Om} : ∀ {l : List (Nat × AV)}, (∀ p ∈ l, p.2.facts Ω) → factsP Ω l
 | [], _ => trivial
 | p :: l, h => ⟨h p (by simp), factsP_of fun q hq => h q (by simp [hq])⟩
theorem factsR_of {Ω : Om} : ∀ {l : List (Nat × RW)}, (∀ p ∈ l, p.2.facts Ω) → factsR Ω l
 | [], _ => trivial
 | p :: l, h => ⟨h p (by simp), factsR_of fun q hq => h q (by simp [hq])⟩

theorem VRs.factsC {e : Env} {Ω : Om} (hd : Ω.d = e.opq.d) (hf : Ω.f = e.opq.f) : ∀ {l : List AV} {a : List Value}, VRs e l a → factsC Ω l
 | [], _, _ => trivial
 | v :: l, _, h => by
  simp only [VRs] at h;obtain ⟨x, r, _, h1, h2⟩ := h;have ih := VRs.factsC hd hf h2;cases v <;> simp only [Go.Ev.factsC] <;> first | exact ih | skip
  case sint k x => simp only [VR] at h1; refine ⟨?_, ih⟩; simp only [E.i, den_same hd hf]; exact h1.2
theorem VR.facts {e : Env} {Ω : Om} (hd : Ω.d = e.opq.d) (hf : Ω.f = e.opq.f) {v : AV} {a : Value} (h : VR e v a) : v.facts Ω := by
 cases v <;> first | trivial | skip
 case sint k x => simp only [VR] at h; simp only [AV.facts, E.i, den_same hd hf]; exact h.2
 case agg cs => simp only [VR] at h; obtain ⟨as, _, h2⟩ := h; exact VRs.factsC hd hf h2
 case sflt x => simp only [VR] at h; simp only [AV.facts, E.i, den_same hd hf]; obtain ⟨b, _, h1, h2⟩ := h; simp only [E.i] at h1 h2; have := nrmI_ge b; omega
 case sbits x => simp only [VR] at h; simp only [AV.facts, E.i, den_same hd hf]; exact h.2
 case sstr n x => simp only [VR] at h; simp only [AV.facts, E.i, E.s, den_same hd hf]; exact h.2
 case pv s x => simp only [VR] at h; have := PC.ok _ _ _ h; simp only [Sh.ok] at this; simpa only [AV.facts, den_same hd hf] using this
 case pp s x => simp only [VR] at h; obtain ⟨_, _, _, _, _, h2⟩ := h; simpa only [AV.facts, den_same hd hf] using PC.ok _ _ _ h2
 case vslice i z o l c b =>
  simp only [VR] at h;obtain ⟨_, _, _, _, _, h1, h2, h3⟩ := h;simp only [AV.facts, E.i, den_same hd hf];exact ⟨h1, h2, h3⟩
 case sslice i o l c b =>
  simp only [VR] at h;obtain ⟨_, _, _, _, _, h1, h2, h3⟩ := h;simp only [AV.facts, E.i, den_same hd hf];exact ⟨h1, h2, h3⟩
theorem VRs.facts {e : Env} {Ω : Om} (hd : Ω.d = e.opq.d) (hf : Ω.f = e.opq.f) : ∀ {l : List AV} {a : List Value}, VRs e l a → factsA Ω l
 | [], _, _ => trivial
 | v :: l, _, h => by
  simp only [VRs] at h;obtain ⟨x, r, _, h1, h2⟩ := h;exact ⟨h1.facts hd hf, VRs.facts hd hf h2⟩
theorem ObjR.facts {w0 : Base} {e : Env} {Ω : Om} (hd : Ω.d = e.opq.d) (hf : Ω.f = e.opq.f) {id k : Nat} {w : World} {r : RW} (h : ObjR w0 e id k w r.obj) : r.facts Ω := by
 cases r <;> first | trivial | skip
 case seq q =>
  obtain ⟨_, _, arr, fz, _, h4⟩ := h;have g1 := h4.n;have g2 := h4.rng;simp only [RW.facts, E.i, E.s, den_same hd hf];exact ⟨g1, g2⟩
 case vseq q =>
  obtain ⟨_, _, arr, _, h4⟩ := h;simp only [RW.facts, E.i, den_same hd hf];refine ⟨h4.n, fun c hc => ?_⟩;obtain ⟨j, hj, rfl⟩ := List.getElem_of_mem hc;exact PC.ok _ _ _ (h4.cell j _ (List.getElem?_eq_getElem hj))
 case eseq q =>
  obtain ⟨_, h2, _⟩ := h;simp only [RW.facts, E.i, E.s, den_same hd hf];exact h2

theorem rowsT_get : ∀ {l : List (Nat × RW)}, (l.map (·.1)).Nodup → ∀ {p : Nat × RW}, p ∈ l → (rowsT l).get p.1 = some p.2.obj
 | [], _, p, h => by cases h
 | q :: l, hn, p, h => by
  simp only [List.map_cons, List.nodup_cons] at hn;simp only [rowsT, T.get_put];rcases List.mem_cons.1 h with rfl | h
  ·simp
  ·have hne : p.1 ≠ q.1 := fun x => hn.1 (by rw [← x]; exact List.mem_map.2 ⟨p, h, rfl⟩)
   rw [if_neg hne];exact rowsT_get hn.2 h
theorem putAll_at : ∀ {l : List (Nat × AV)} {t : T AV}, (l.map (·.1)).Nodup → ∀ {p : Nat × AV}, p ∈ l → (putAll t l).get p.1 = some p.2
 | [], t, _, p, h => by cases h
 | q :: l, t, hn, p, h => by
  simp only [List.map_cons, List.nodup_cons] at hn;rcases List.mem_cons.1 h with rfl | h
  ·have : ∀ (l : List (Nat × AV)) (t : T AV), p.1 ∉ l.map (·.1) → t.get p.1 = some p.2 → (putAll t l).get p.1 = some p.2 := by
    intro l;induction l with
    | nil => intro t _ h; exact h
    | cons a l ih =>
     intro t hm ht;simp only [List.map_cons, List.mem_cons, not_or] at hm;exact ih _ hm.2 (by rw [T.get_put, if_neg hm.1]; exact ht)
   exact this l _ hn.1 (by rw [T.get_put, if_pos rfl])
  ·exact putAll_at (t := t.put q.1 (some q.2)) hn.2 h

def LFacts (L : LSpec) (Ω : Om) : Prop := (L.rows.map (·.1)).Nodup → (L.pat.map (·.1)).Nodup → factsR Ω L.rows ∧ factsP Ω L.pat
theorem lfacts_of {L : LSpec} {v : Nat → Value} {d : Nat → D} {f : Nat → D → D} {B : Base} {e : Env} {a : Act} {w : World} (hr : Rel ⟨v, d, f⟩ B e L.st w) (hf : FrR e L.fr a) : LFacts L ⟨fun _ => .bool false, d, f⟩ := by
 intro h1 h2;have e1 : (⟨fun _ => .bool false, d, f⟩ : Om).d = e.opq.d := by rw [hr.opq]
 have e2 : (⟨fun _ => .bool false, d, f⟩ : Om).f = e.opq.f := by rw [hr.opq]
 refine ⟨factsR_of fun p hp => ?_, factsP_of fun p hp => ?_⟩
 ·obtain ⟨k, _, hO⟩ := hr.obj p.1 _ (rowsT_get h1 hp);exact hO.facts e1 e2
 ·obtain ⟨x, _, hx⟩ := hf.ft p.1 p.2 (putAll_at h2 hp);exact hx.facts e1 e2

theorem loop_ind {P : Program} (S : Sound P) {b : Code} {L : LSpec} {f : Nat → D → D} (fine : L.fine = true)
  (μ : (Nat → D) → Nat)
  (step : ∀ d, (∀ p ∈ L.pre, p.1.val ⟨fun _ => .bool false, d, f⟩ = p.2) → LFacts L ⟨fun _ => .bool false, d, f⟩ → ∃ (A : Ask) (fuel : Nat) (Lp : Loops) (call : Caller) (rnd : Rounder), AskOK ⟨fun _ => .bool false, d, f⟩ A ∧ (∀ (v : Nat → Value) (B : Base), LoopsOK P ⟨v, d, f⟩ B b Lp) ∧ (∀ (v : Nat → Value) (B : Base), CallOK P ⟨v, d, f⟩ B call) ∧ (∀ (v : Nat → Value) (B : Base), RoundOK P ⟨v, d, f⟩ B rnd) ∧
   ((∃ fr1 s1 ρ N, execR P ⟨none, A⟩ Lp call rnd fuel [] b L.fr L.st = some (xOf L.x, fr1, s1) ∧ LEnd L ⟨fun _ => .bool false, d, f⟩ fr1 s1 ρ N) ∨
    (∃ fr1 s1 ρ θ, execR P ⟨none, A⟩ Lp call rnd fuel [] b L.fr L.st = some (.normal, fr1, s1) ∧ LNext L ⟨fun _ => .bool false, d, f⟩ fr1 s1 ρ θ ∧ μ (fun i => (θ i).den ⟨fun _ => .bool false, d, f⟩) < μ d))) : LHolds P b L f := by
 have fine' := fine;simp only [LSpec.fine, bae] at fine';obtain ⟨⟨⟨fn1, fn2⟩, fn3⟩, fn4⟩ := fine';have clearFin : ∀ p ∈ L.fin, p.2.clear = true := fun p hp => List.all_eq_true.1 fn3 p hp
 have clearF : ∀ p ∈ L.frows, p.2.clear = true := fun p hp => List.all_eq_true.1 fn4 p hp
 have patC : ∀ p ∈ L.pat, isNum p.1 L.chg = true ∧ p.2.clear = true ∧ p.1 < L.n := fun p hp => by
  have := List.all_eq_true.1 fn1 p hp;simp only [bae, Nat.blt_eq] at this;exact ⟨this.1.1, this.1.2, this.2⟩
 have main : ∀ (k : Nat) (d : Nat → D), μ d = k → (∀ p ∈ L.pre, p.1.val ⟨fun _ => .bool false, d, f⟩ = p.2) → ∃ m, ∀ (v : Nat → Value) (B : Base) (e : Env) (a : Act) (w : World), Rel ⟨v, d, f⟩ B e L.st w → FrR e L.fr a →
   ∀ Q : Exit → Act → World → Prop, (∀ ex a' w' e', LPost L ⟨v, d, f⟩ B e a ex a' w' e' → Q ex a' w') → Code.rounds P b Q m a w := by
  intro k;induction k using Nat.strongRecOn with
  | _ k ih =>
   intro d hk hpre;by_cases hfc : LFacts L ⟨fun _ => .bool false, d, f⟩
   rotate_left
   ·exact ⟨0, fun v B e a w hr hf Q H => (hfc (lfacts_of hr hf)).elim⟩
   obtain ⟨A, fuel, Lp, call, rnd, hA0, hL, hc, hRR, hstep⟩ := step d hpre hfc;have dutiesV : ∀ (v : Nat → Value) (ds : List Duty), Duties ⟨fun _ => .bool false, d, f⟩ ds → Duties ⟨v, d, f⟩ ds := by
    intro v ds h p hp;have := h p hp;obtain ⟨bb, x, y⟩ := p;cases bb <;> simp only [Duty.met, E.i, E.s, den_newV v (fun _ => .bool false) d f] <;> exact this
   have hA : ∀ v : Nat → Value, AskOK ⟨v, d, f⟩ A := fun v q bb hq => (val_same (Ω := ⟨fun _ => .bool false, d, f⟩) (Ω' := ⟨v, d, f⟩) rfl rfl q).trans (hA0 q bb hq)
   have hF : ∀ (v : Nat → Value) (B : Base), FactsOK P ⟨v, d, f⟩ B ⟨none, A⟩ := fun v B => { op := fun _ h => (by cases h), ask := hA v }
   rcases hstep with ⟨fr1, s1, ρ, N, hex, hend⟩ | ⟨fr1, s1, ρ, θ, hex, hnext, hlt⟩
   ·refine ⟨1, fun v B e a w hr hf Q H => ?_⟩;rw [rounds_succ];refine wp_mono ((execR_ok S (hc v B) (hRR v B) (hF v B) (hL v B) fuel).1 [] b _ _ _ _ _ rfl hex e a w hr hf) fun ex a1 w1 ⟨e1, g1, g2, g3, g4⟩ => ?_
    have hx := XR_xOf g3;subst hx;have g4 : FrR e1 fr1 a1 := FX_xOf g4;have H1 := Env.pull_ok e1 ρ;obtain ⟨nd, od⟩ := renB_split hend.ren;obtain ⟨ds1, hp1, hp2⟩ := hend.fin;obtain ⟨ds2, hp3, hp4⟩ := hend.rows;have ho1 : e1.opq = ⟨v, d, f⟩ := g2.opq;suffices hQ : Q (exOf L.x) a1 w1 by
     revert hQ;unfold exOf;split <;> exact id
    refine H _ a1 w1 (e1.pull ρ) ⟨⟨N, g2.see hp3 (dutiesV v _ hp4) hend.keys nd od⟩, rfl, by rw [g4.size, hend.n], ?_, seePat_ok H1 g4.ft hp1 (by rw [ho1]; exact dutiesV v _ hp2), fun i hi => ?_, same_loc hend.same hr g1, pull_even g1 ρ⟩
    ·have := g4.df;rw [hend.df] at this;exact this
    ·rcases Nat.lt_or_ge i L.n with hin | hin
     ·have hk1 := keptB_ok hend.kept i hin hi;obtain ⟨x, hx1, hx2⟩ := g4.ft i _ hk1;have hk0 : L.fr.t.get i = some (.keep i) := by
       have : ∀ (l : List (Nat × AV)) (t : T AV), (∀ p ∈ l, p.1 ≠ i) → t.get i = some (.keep i) → (putAll t l).get i = some (.keep i) := by
        intro l;induction l with
        | nil => intro t _ h; exact h
        | cons q l ih2 =>
         intro t hq h;exact ih2 _ (fun p hp => hq p (List.mem_cons_of_mem _ hp)) (by rw [T.get_put, if_neg (Ne.symm (hq q (by simp)))]; exact h)
       refine this L.pat (keepT L.n) (fun p hp hpi => ?_) ?_
       ·have := (patC p hp).1;rw [hpi, hi] at this; cases this
       ·simp only [keepT, T.get_putL];simp [hin]
      obtain ⟨y, hy1, hy2⟩ := hf.ft i _ hk0;simp only [VR] at hx2 hy2;rw [hx1, hy1, hx2, hy2, ho1, hr.opq]
     ·rw [Array.getElem?_eq_none (by rw [g4.size, hend.n]; exact hin), Array.getElem?_eq_none (by rw [hf.size]; exact hin)]
   ·obtain ⟨m, hm⟩ := ih (μ fun i => (θ i).den ⟨fun _ => .bool false, d, f⟩) (by omega) (fun i => (θ i).den ⟨fun _ => .bool false, d, f⟩) rfl (fun p hp => hnext.pre p hp);refine ⟨m + 1, fun v B e a w hr hf Q H => ?_⟩;rw [rounds_succ];refine wp_mono ((execR_ok S (hc v B) (hRR v B) (hF v B) (hL v B) fuel).1 [] b _ _ _ _ _ rfl hex e a w hr hf) fun ex a1 w1 ⟨e1, g1, g2, g3, g4⟩ => ?_
    obtain ⟨e0, hx⟩ : ∃ u : Unit, ex = .normal := by
     cases ex <;> first
      | exact g3.elim
      | exact ⟨(), rfl⟩
    subst hx;have g4 : FrR e1 fr1 a1 := g4;have H1 := Env.pull_ok e1 ρ;obtain ⟨nd, od⟩ := renB_split hnext.ren;obtain ⟨ds1, hp1, hp2⟩ := hnext.pat;obtain ⟨ds2, hp3, hp4⟩ := hnext.rows;obtain ⟨ds3, hp5, hp6⟩ := hnext.fin;have ho1 : e1.opq = ⟨v, d, f⟩ := g2.opq;let d1 : Nat → D := fun i => (θ i).den ⟨fun _ => .bool false, d, f⟩
    let v1 : Nat → Value := fun i => (a1.tmps[i]?).getD (.bool false)
    have hd1 : ((⟨v, d, f⟩ : Om).sub θ).d = d1 := by
     funext i;exact den_newV _ _ _ _ _
    have rel1 := (g2.see hp3 (dutiesV v _ hp4) hnext.keys nd od).subst
    -- values that are not looked into are those that are there now
    have rel2 : Rel ⟨v1, d1, f⟩ B ((e1.pull ρ).at ⟨v1, d1, f⟩) L.st w1 := by
     refine ⟨rfl, rel1.below, rel1.fresh, rel1.inj, fun i o ho => ?_, rel1.pool, rel1.apart, rel1.grow, rel1.hold⟩;obtain ⟨r, hr1, hr2⟩ := rowsT_mem ho;obtain ⟨kk, h1, h2⟩ := rel1.obj i o ho;subst hr2;have hcl := List.all_eq_true.1 fn2 _ hr1;exact ⟨kk, h1, ObjR.newV (e := (e1.pull ρ).at ((⟨v, d, f⟩ : Om).sub θ)) (Ω := ⟨v1, d1, f⟩) (by show d1 = _; rw [← hd1]; rfl) rfl hcl h2⟩
    have fr2 : FrR ((e1.pull ρ).at ⟨v1, d1, f⟩) L.fr a1 := by
     refine ⟨by rw [g4.size, hnext.n]; rfl, fun i u hu => ?_, ?_⟩
     ·rcases putAll_get hu with hin | hkp
      ·have hmem : (i, u.sub θ) ∈ patSub θ L.pat := List.mem_map.2 ⟨(i, u), hin, rfl⟩;obtain ⟨x, hx1, hx2⟩ := seePat_ok H1 g4.ft hp1 (by rw [ho1]; exact dutiesV v _ hp2) _ hmem;refine ⟨x, hx1, ?_⟩;have hx3 := (VR.sub u x).1 hx2;have ho2 : (e1.pull ρ).opq = ⟨v, d, f⟩ := ho1;rw [ho2] at hx3;exact VR.newV (e := (e1.pull ρ).at ((⟨v, d, f⟩ : Om).sub θ)) (Ω := ⟨v1, d1, f⟩) (by show d1 = _; rw [← hd1]; rfl) rfl u (patC _ hin).2.1 hx3
      ·obtain ⟨hin, rfl⟩ := keepT_get hkp;have hsz : i < a1.tmps.size := by rw [g4.size, hnext.n]; exact hin
       refine ⟨a1.tmps[i], by simp [hsz], ?_⟩;simp only [VR];show a1.tmps[i] = v1 i;simp [v1, hsz]
     ·have := g4.df;rw [hnext.df] at this;exact this
    show Code.rounds P b Q m a1 w1;refine hm v1 B _ a1 w1 rel2 fr2 Q fun ex' a' w' e' hpost => H ex' a' w' (e'.at ⟨v, d, f⟩) ?_
    obtain ⟨⟨N, hrel⟩, hx, hsz, hdf, hfin, hkept, hsame, heven⟩ := hpost;have ho3 : e'.opq = ⟨v1, d1, f⟩ := hrel.opq;unfold LSpec.finSame at hp5;split at hp5
    ·rename_i l5 m5 hl5 hm5;simp only [sme] at hp5;subst hp5;obtain ⟨du1, du2⟩ := hp6.app;have backE : ∀ x : Value, ∀ u : AV, u.clear = true → ∀ ds, seeA (idRen (L.rows ++ L.frows)) (u.sub θ) u = some ds → Duties ⟨fun _ => .bool false, d, f⟩ ds → VR e' u x → VR (e'.at ⟨v, d, f⟩) u x := by
      intro x u hcu ds hs hdu hv;have s1 := VR.newV (e := e') (Ω := (⟨v, d, f⟩ : Om).sub θ) (by rw [ho3]; exact hd1) (by rw [ho3]; rfl) u hcu hv;have s2 : VR (e'.at ⟨v, d, f⟩) (u.sub θ) x := (VR.sub (e := e'.at ⟨v, d, f⟩) u x).2 s1;exact seeA_vr (idRen_ok (L.rows ++ L.frows) _) _ _ ds hs (dutiesV v _ hdu) _ s2
     refine ⟨⟨N, ?_⟩, hx, hsz, hdf, fun p hp => ?_, fun i hi => ?_, fun i hi => ?_, fun g => ⟨(heven g).1.trans (pull_even g1 ρ g).1, (heven g).2.trans (pull_even g1 ρ g).2⟩⟩
     ·refine ⟨rfl, hrel.below, hrel.fresh, hrel.inj, fun i o ho => ?_, hrel.pool, hrel.apart, hrel.grow, hrel.hold⟩;obtain ⟨r, hr1, hr2⟩ := rowsT_mem ho;obtain ⟨kk, h1, h2⟩ := hrel.obj i o ho;subst hr2;obtain ⟨ds, hs, hdu⟩ := finR_mem hm5 du2 _ hr1;refine ⟨kk, h1, ?_⟩;have s1 := ObjR.newV (e := e') (Ω := (⟨v, d, f⟩ : Om).sub θ) (by rw [ho3]; exact hd1) (by rw [ho3]; rfl) (clearF _ hr1) h2;have s2 : ObjR B (e'.at ⟨v, d, f⟩) i kk w' (r.sub θ).obj := (RW.sub_ok (e := e'.at ⟨v, d, f⟩)).2 s1;exact seeO_ok (idRen_ok (L.rows ++ L.frows) _) hs (dutiesV v _ hdu) rfl rfl s2
     ·obtain ⟨x, hx1, hx2⟩ := hfin p hp;obtain ⟨ds, hs, hdu⟩ := finP_mem hl5 du1 p hp;exact ⟨x, hx1, backE x p.2 (clearFin p hp) ds hs hdu hx2⟩
     ·rw [hkept i hi];rcases Nat.lt_or_ge i L.n with hin | hin
      ·have hk1 := keptB_ok hnext.kept i hin hi;obtain ⟨x, hx1, hx2⟩ := g4.ft i _ hk1;have hk0 : L.fr.t.get i = some (.keep i) := by
        have : ∀ (l : List (Nat × AV)) (t : T AV), (∀ p ∈ l, p.1 ≠ i) → t.get i = some (.keep i) → (putAll t l).get i = some (.keep i) := by
         intro l;induction l with
         | nil => intro t _ h; exact h
         | cons q l ih2 =>
          intro t hq h;exact ih2 _ (fun p hp => hq p (List.mem_cons_of_mem _ hp)) (by rw [T.get_put, if_neg (Ne.symm (hq q (by simp)))]; exact h)
        refine this L.pat (keepT L.n) (fun p hp hpi => ?_) ?_
        ·have := (patC p hp).1;rw [hpi, hi] at this; cases this
        ·simp only [keepT, T.get_putL];simp [hin]
       obtain ⟨y, hy1, hy2⟩ := hf.ft i _ hk0;simp only [VR] at hx2 hy2;rw [hx1, hy1, hx2, hy2, ho1, hr.opq]
      ·rw [Array.getElem?_eq_none (by rw [g4.size, hnext.n]; exact hin), Array.getElem?_eq_none (by rw [hf.size]; exact hin)]
     ·obtain ⟨h1, h2, h3⟩ := hsame i hi;obtain ⟨q1, q2, q3⟩ := same_loc hnext.same hr g1 i hi;exact ⟨h1.trans q1, h2.trans q2, h3.trans q3⟩
    ·cases hp5
 intro d hpre;exact main (μ d) d rfl hpre

end Go.Ev
