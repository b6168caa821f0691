/- One state seen as another up to the names of new rows. No condition. -/
import Derived.Test.YtidpndnehbhloaaDoorSyq
namespace Go.Ev
open Go.RowKit

mutual
def AV.likeG (g : Nat → Nat) : AV → AV → Bool
 | .bool a, .bool b => match a, b with | true, true => true | false, false => true | _, _ => false
 | .int k a, .int l b => decide (k = l) && decide (a = b)
 | .float k a, .float l b => decide (k = l) && Nat.beq a b
 | .str a, .str b => decide (a.data.toList = b.data.toList)
 | .nilptr, .nilptr => true
 | .ptr i o, .ptr j p => Nat.beq i (g j) && Nat.beq o p
 | .nilslice, .nilslice => true
 | .slice i o l c b, .slice i' o' l' c' b' => Nat.beq i (g i') && Nat.beq o o' && Nat.beq l l' && Nat.beq c c' && (b == b')
 | .hollow, .hollow => true
 | .empty, .empty => true
 | .nilmap, .nilmap => true
 | .mapv i, .mapv j => Nat.beq i (g j)
 | .func f cs, .func f' ds => Nat.beq f f' && AV.likeL g cs ds
 | .nilfunc, .nilfunc => true
 | .iface t v, .iface u w => Nat.beq t u && AV.likeG g v w
 | .niliface, .niliface => true
 | .agg cs, .agg ds => AV.likeL g cs ds
 | .tuple cs, .tuple ds => AV.likeL g cs ds
 | .opq i, .opq j => Nat.beq i j
 | .text i, .text j => Nat.beq i j
 | .any, .any => true
 | .byte i, .byte j => Nat.beq i j
 | .lit cs, .lit ds => AV.likeL g cs ds
 | .nan k, .nan l => decide (k = l)
 | .sint k x, .sint l y => decide (k = l) && x.beq y
 | .sstr n x, .sstr m y => n.beq m && x.beq y
 | .sptr i x, .sptr j y => Nat.beq i (g j) && x.beq y
 | .sslice i o l c b, .sslice i' o' l' c' b' => Nat.beq i (g i') && o.beq o' && l.beq l' && c.beq c' && (b == b')
 | .keep i, .keep j => Nat.beq i j
 | .yieldf i, .yieldf j => Nat.beq i (g j)
 | .sflt x, .sflt y => x.beq y
 | .sbits x, .sbits y => x.beq y
 | .bound f cs, .bound f' ds => Nat.beq f f' && AV.likeL g cs ds
 | .pv s x, .pv u y => s.beq u && x.beq y
 | .pp s x, .pp u y => s.beq u && x.beq y
 | .vslice i z o l c b, .vslice i' z' o' l' c' b' => Nat.beq i (g i') && Nat.beq z z' && o.beq o' && l.beq l' && c.beq c' && (b == b')
 | .vptr i z j f, .vptr i' z' j' f' => Nat.beq i (g i') && Nat.beq z z' && j.beq j' && Nat.beq f f'
 | .vfn f, .vfn f' => decide (f = f')
 | .pw i s x, .pw j u y => Nat.beq i j && s.beq u && x.beq y
 | _, _ => false
def AV.likeL (g : Nat → Nat) : List AV → List AV → Bool
 | [], [] => true
 | a :: l, b :: m => AV.likeG g a b && AV.likeL g l m
 | _, _ => false
end

structure LikeE (g : Nat → Nat) (e e' : Env) : Prop where
 loc : ∀ i b, e.loc (g i) = some b → e'.loc i = some b
 spare : ∀ i, e'.spare i = e.spare (g i)
 base : ∀ i, e'.base i = e.base (g i)
 opq : e'.opq = e.opq
 h : e'.h = e.h

mutual
theorem likeG_vr {g : Nat → Nat} {e e' : Env} (H : LikeE g e e') : ∀ (u v : AV), AV.likeG g u v = true → ∀ {a : Value}, VR e u a → VR e' v a
 | u, v, h, a, ha => by
  unfold AV.likeG at h;split at h <;> (first | (cases h; done) | simp only [VR] at ha ⊢)
  ·subst ha; split at h <;> first | rfl | cases h
  ·simp only [bae, decide_eq_true_eq] at h; rw [← h.1, ← h.2]; exact ha
  ·simp only [bae, decide_eq_true_eq] at h; rw [← h.1, ← beq_t h.2]; exact ha
  ·rename_i x y;simp only [decide_eq_true_eq] at h;have : x = y := by
    cases x; cases y;simp only at h;rw [Array.toList_inj.1 h]
   rw [← this]; exact ha
  ·exact ha
  ·simp only [bae] at h;obtain ⟨b, hb, rfl⟩ := ha;rw [beq_t h.1] at hb;exact ⟨b, H.loc _ _ hb, by rw [beq_t h.2]⟩
  ·exact ha
  ·simp only [bae, beq_iff_eq] at h;obtain ⟨⟨⟨⟨h1, h2⟩, h3⟩, h4⟩, rfl⟩ := h;obtain ⟨b, hb, rfl⟩ := ha;rw [beq_t h1] at hb ⊢;exact ⟨b, H.loc _ _ hb, by rw [beq_t h2, beq_t h3, beq_t h4, H.spare]⟩
  ·exact ha
  ·exact ha
  ·exact ha
  ·obtain ⟨b, hb, rfl⟩ := ha;rw [beq_t h] at hb;exact ⟨b, H.loc _ _ hb, rfl⟩
  ·simp only [bae] at h;obtain ⟨as, rfl, h2⟩ := ha;exact ⟨as, by rw [beq_t h.1], likeL_vr H _ _ h.2 h2⟩
  ·exact ha
  ·simp only [bae] at h;obtain ⟨x, rfl, h2⟩ := ha;exact ⟨x, by rw [beq_t h.1], likeG_vr H _ _ h.2 h2⟩
  ·exact ha
  ·obtain ⟨as, rfl, h2⟩ := ha;exact ⟨as, rfl, likeL_vr H _ _ h h2⟩
  ·obtain ⟨as, rfl, h2⟩ := ha;exact ⟨as, rfl, likeL_vr H _ _ h h2⟩
  ·rw [← beq_t h, H.opq]; exact ha
  ·rw [← beq_t h, H.opq]; exact ha
  ·exact ha
  ·rw [← beq_t h, H.opq]; exact ha
  ·obtain ⟨ns, rfl, h2⟩ := ha;exact ⟨ns, rfl, likeL_vr H _ _ h h2⟩
  ·simp only [decide_eq_true_eq] at h; rw [← h]; exact ha
  ·simp only [bae, decide_eq_true_eq] at h; rw [← h.1, ← E.beq_eq h.2, H.opq]; exact ha
  ·simp only [bae] at h; rw [← E.beq_eq h.1, ← E.beq_eq h.2, H.opq]; exact ha
  ·simp only [bae] at h;obtain ⟨b, hb, rfl⟩ := ha;rw [beq_t h.1] at hb ⊢;exact ⟨b, H.loc _ _ hb, by rw [← E.beq_eq h.2, H.base, H.opq]⟩
  ·simp only [bae, beq_iff_eq] at h;obtain ⟨⟨⟨⟨h1, h2⟩, h3⟩, h4⟩, rfl⟩ := h;obtain ⟨b, p, hb, rfl, r1, r2⟩ := ha;rw [beq_t h1] at hb r1 ⊢;rw [← E.beq_eq h2, ← E.beq_eq h3, ← E.beq_eq h4, H.opq];exact ⟨b, p, H.loc _ _ hb, by rw [H.spare], by rw [H.spare, H.base]; exact r1, r2⟩
  ·rw [← beq_t h, H.opq]; exact ha
  ·obtain ⟨b, hb, rfl⟩ := ha;rw [beq_t h] at hb;exact ⟨b, H.loc _ _ hb, rfl⟩
  ·rw [← E.beq_eq h, H.opq]; exact ha
  ·rw [← E.beq_eq h, H.opq]; exact ha
  ·simp only [bae] at h;obtain ⟨as, rfl, h2⟩ := ha;exact ⟨as, by rw [beq_t h.1], likeL_vr H _ _ h.2 h2⟩
  ·simp only [bae] at h;rw [← Sh.beq_eq h.1, ← E.beq_eq h.2, H.opq, H.h]; exact ha
  ·simp only [bae] at h;rw [← Sh.beq_eq h.1, ← E.beq_eq h.2, H.opq, H.h]; exact ha
  ·simp only [bae, beq_iff_eq] at h;obtain ⟨⟨⟨⟨⟨h1, h2⟩, h3⟩, h4⟩, h5⟩, rfl⟩ := h;obtain ⟨b, p, hb, rfl, r1, r2⟩ := ha;rw [beq_t h1] at hb r1 ⊢;rw [← beq_t h2, ← E.beq_eq h3, ← E.beq_eq h4, ← E.beq_eq h5, H.opq];exact ⟨b, p, H.loc _ _ hb, by rw [H.spare], by rw [H.spare]; exact r1, r2⟩
  ·simp only [bae] at h;obtain ⟨b, hb, rfl⟩ := ha;rw [beq_t h.1.1.1] at hb;exact ⟨b, H.loc _ _ hb, by rw [← beq_t h.1.1.2, ← E.beq_eq h.1.2, ← beq_t h.2, H.opq]⟩
  ·obtain rfl := of_decide_eq_true h; exact ha
  ·simp only [bae] at h;rw [← beq_t h.1.1, ← Sh.beq_eq h.1.2, ← E.beq_eq h.2, H.opq, H.h]; exact ha
theorem likeL_vr {g : Nat → Nat} {e e' : Env} (H : LikeE g e e') : ∀ (u v : List AV), AV.likeL g u v = true → ∀ {a : List Value}, VRs e u a → VRs e' v a
 | [], v, h, a, ha => by
  cases v with
  | nil => simp only [VRs] at ha ⊢; exact ha
  | cons => simp [AV.likeL] at h
 | x :: u, v, h, a, ha => by
  cases v with
  | nil => simp [AV.likeL] at h
  | cons y v =>
   simp only [AV.likeL, bae] at h;simp only [VRs] at ha ⊢;obtain ⟨c, r, rfl, h1, h2⟩ := ha;exact ⟨c, r, rfl, likeG_vr H x y h.1 h1, likeL_vr H u v h.2 h2⟩
end

def likeC (g : Nat → Nat) (b c : AB) : Nat → Bool
 | 0 => true
 | n + 1 => (match c.at n with
  | some v => match b.at n with
   | some u => AV.likeG g u v
   | none => false
  | none => true) && likeC g b c n
theorem likeC_at {g : Nat → Nat} {b c : AB} : ∀ {n : Nat}, likeC g b c n = true → ∀ i, i < n → ∀ v, c.at i = some v → ∃ u, b.at i = some u ∧ AV.likeG g u v = true
 | 0, _, i, hi, _, _ => by omega
 | n + 1, h, i, hi, v, hv => by
  simp only [likeC, bae] at h;rcases Nat.lt_or_ge i n with hlt | hge
  ·exact likeC_at h.2 i hlt v hv
  ·obtain rfl : i = n := by omega
   have h1 := h.1;rw [hv] at h1;simp only at h1;split at h1
   ·rename_i u hu; exact ⟨u, hu, h1⟩
   ·cases h1
theorem AB.at_lt {b : AB} {i : Nat} {v : AV} (h : b.at i = some v) : i < b.size := by
 unfold AB.at at h;split at h
 ·rename_i hb; simpa [Nat.blt_eq] using hb
 ·cases h

def likeM (g : Nat → Nat) : List ME → List ME → Bool
 | [], [] => true
 | a :: l, b :: m => AV.likeG g a.key b.key && AV.likeG g a.val b.val && Nat.beq a.born b.born && likeM g l m
 | _, _ => false
theorem likeM_ok {g : Nat → Nat} {e e' : Env} (H : LikeE g e e') : ∀ {l m : List ME}, likeM g l m = true → ∀ {es : List MapEntry}, MR e l es → MR e' m es
 | [], m, h, es, hs => by
  cases m with
  | nil => exact hs
  | cons => simp [likeM] at h
 | a :: l, m, h, es, hs => by
  cases m with
  | nil => simp [likeM] at h
  | cons b m =>
   simp only [likeM, bae] at h;obtain ⟨x, rest, h1, h2, h3, h4, h5⟩ := hs;exact ⟨x, rest, h1, likeG_vr H _ _ h.1.1.1 h2, likeG_vr H _ _ h.1.1.2 h3, by rw [h4, beq_t h.1.2], likeM_ok H h.2 h5⟩

def sameTk : Option IntKind → Option IntKind → Bool
 | none, none => true
 | some k, some l => decide (k = l)
 | _, _ => false
theorem sameTk_eq {a b : Option IntKind} (h : sameTk a b = true) : a = b := by
 cases a <;> cases b <;> simp_all [sameTk]

def likeO (g : Nat → Nat) : AObj → AObj → Bool
 | .cells b, .cells c => Nat.beq b.elem c.elem && Nat.beq b.size c.size && Nat.beq b.esz c.esz && (b.opn == c.opn) && (b.str == c.str) && sameTk b.tk c.tk && likeC g b c c.size
 | .ext b, .ext c => likeC g b c c.size
 | .seq p, .seq q => Nat.beq p.elem q.elem && decide (p.k = q.k) && p.n.beq q.n && p.x.beq q.x && (p.opn == q.opn) && (p.str == q.str)
 | .eseq p, .eseq q => decide (p.k = q.k) && p.n.beq q.n && p.x.beq q.x
 | .defd, .defd => true
 | .map l c, .map m d => Nat.beq c d && likeM g l m
 | .siter s p, .siter u q => decide (s.data.toList = u.data.toList) && Nat.beq p q
 | .peq p, .peq q => decide (p.k = q.k) && p.n.beq q.n && p.x.beq q.x
 | .vseq p, .vseq q => Nat.beq p.elem q.elem && p.s.beq q.s && p.n.beq q.n && p.x.beq q.x && (p.opn == q.opn)
 | _, _ => false

theorem likeO_own {g : Nat → Nat} {o o' : AObj} (h : likeO g o o' = true) : o.own = o'.own := by
 cases o <;> cases o' <;> first | rfl | (simp [likeO] at h)

theorem likeO_ok {g : Nat → Nat} {w0 : Base} {e e' : Env} (H : LikeE g e e') {o o' : AObj} (h : likeO g o o' = true) {id k : Nat} {w : World} (R : ObjR w0 e (g id) k w o) : ObjR w0 e' id k w o' := by
 unfold likeO at h;split at h
 ·rename_i b c;simp only [bae, beq_iff_eq] at h;obtain ⟨⟨⟨⟨⟨⟨h1, h2⟩, h3⟩, h4⟩, h5⟩, h6⟩, h7⟩ := h;have h1 := beq_t h1;have h2 := beq_t h2;have h3 := beq_t h3;have h6 := sameTk_eq h6;obtain ⟨m, hb, arr, fz, hw, r⟩ := R;refine ⟨m, by rw [H.base]; exact hb, arr, fz, by rw [← h1]; exact hw, ⟨by rw [H.spare, ← h2, ← h3, ← h4]; exact r.size, fun i v hv => ?_, r.frozen, fun hs => r.plain (by rw [h5]; exact hs), fun hs => r.mark (by rw [h5]; exact hs), fun k hk ho => by rw [← h2]; exact r.tail k (by rw [h6]; exact hk) (by rw [h4]; exact ho)⟩⟩;obtain ⟨u, hu, hl⟩ := likeC_at h7 i (AB.at_lt hv) v hv;obtain ⟨x, hx, hvr⟩ := r.cell i u hu;exact ⟨x, hx, likeG_vr H _ _ hl hvr⟩
 ·rename_i b c;obtain ⟨m, hb, arr, el, fz, hw, r⟩ := R;refine ⟨m, by rw [H.base]; exact hb, arr, el, fz, hw, fun i v hv => ?_⟩;obtain ⟨u, hu, hl⟩ := likeC_at h i (AB.at_lt hv) v hv;obtain ⟨x, hx, hvr⟩ := r i u hu;exact ⟨x, hx, likeG_vr H _ _ hl hvr⟩
 ·rename_i p q;simp only [bae, decide_eq_true_eq, beq_iff_eq] at h;obtain ⟨⟨⟨⟨⟨h1, h2⟩, h3⟩, h4⟩, h5⟩, h6⟩ := h;have g1 := beq_t h1;have g3 := E.beq_eq h3;have g4 := E.beq_eq h4;clear h1 h3 h4;obtain ⟨m, hb, arr, fz, hw, r⟩ := R;cases p; cases q;simp only at g1 h2 g3 g4 h5 h6;subst g1 h2 g3 g4 h5 h6;exact ⟨m, by rw [H.base]; exact hb, arr, fz, hw, ⟨by rw [H.opq]; exact r.n, by rw [H.opq]; exact r.rng, by rw [H.opq, H.spare]; exact r.cells, r.frozen, r.plain, r.mark⟩⟩
 ·rename_i p q;simp only [bae, decide_eq_true_eq] at h;obtain ⟨⟨h1, h2⟩, h3⟩ := h;have g2 := E.beq_eq h2;have g3 := E.beq_eq h3;clear h2 h3;cases p; cases q;simp only at h1 g2 g3;subst h1 g2 g3;obtain ⟨m, hb, arr, el, fz, hw, r⟩ := R;exact ⟨m, by rw [H.opq]; exact hb, arr, el, fz, hw, fun j n hj => by rw [H.base]; rw [H.opq] at hj; exact r j n hj⟩
 ·obtain ⟨m, hb, hw⟩ := R;exact ⟨m, by rw [H.base]; exact hb, hw⟩
 ·rename_i l c m d;simp only [bae] at h;have h1 := beq_t h.1;subst h1;obtain ⟨mm, hb, arr, hw, r⟩ := R;exact ⟨mm, by rw [H.base]; exact hb, arr, hw, likeM_ok H h.2 r⟩
 ·rename_i s p u q;simp only [bae, decide_eq_true_eq] at h;have h1 : s = u := by
   cases s; cases u;have h := h.1;simp only at h;rw [Array.toList_inj.1 h]
  have h2 := beq_t h.2;subst h1 h2;obtain ⟨m, hb, hw⟩ := R;exact ⟨m, by rw [H.base]; exact hb, hw⟩
 ·rename_i p q;simp only [bae, decide_eq_true_eq] at h;obtain ⟨⟨h1, h2⟩, h3⟩ := h;have g2 := E.beq_eq h2;have g3 := E.beq_eq h3;clear h2 h3;cases p; cases q;simp only at h1 g2 g3;subst h1 g2 g3;obtain ⟨hb, arr, hw, r⟩ := R;exact ⟨by rw [H.opq]; exact hb, arr, by rw [H.h]; exact hw, fun j n hj => by rw [H.base]; rw [H.opq] at hj; exact r j n hj⟩
 ·rename_i p q;simp only [bae, beq_iff_eq] at h;obtain ⟨⟨⟨⟨h1, h2⟩, h3⟩, h4⟩, h5⟩ := h;have g1 := beq_t h1;have g2 := Sh.beq_eq h2;have g3 := E.beq_eq h3;have g4 := E.beq_eq h4;clear h1 h2 h3 h4;obtain ⟨m, hb, arr, hw, r⟩ := R;cases p; cases q;simp only at g1 g2 g3 g4 h5;subst g1 g2 g3 g4 h5;exact ⟨m, by rw [H.base]; exact hb, arr, hw, ⟨by rw [H.opq]; exact r.n, by rw [H.opq, H.spare]; exact r.size, fun j d hj => by rw [H.h]; rw [H.opq] at hj; exact r.cell j d hj⟩⟩
 ·cases h

abbrev Trace := List (Nat × Nat × Nat)
def Trace.start : Trace → Nat → Option Nat
 | [], _ => none
 | (o, st, _) :: r, i => match Nat.beq o i with
  | true => some st
  | false => Trace.start r i
def Trace.to : Trace → Trace → Nat → Nat
 | [], _, m => m
 | (o, st, len) :: r, tB, m => match Nat.ble st m && Nat.blt m (st + len) with
  | true => match Trace.start tB o with
   | some sB => m - st + sB
   | none => m
  | false => Trace.to r tB m
def nameG (n next : Nat) (tA tB : Trace) (i : Nat) : Nat :=
 match Nat.beq (i % 2) 1 && Nat.ble (2 * n + 1) i && Nat.blt i (2 * next + 1) with
 | true => 2 * (Trace.to tA tB (i / 2)) + 1
 | false => i

theorem nameG_out {n next : Nat} {tA tB : Trace} {i : Nat} (h : i % 2 = 0 ∨ i < 2 * n + 1 ∨ 2 * next + 1 ≤ i) : nameG n next tA tB i = i := by
 unfold nameG;split
 ·rename_i hc;simp only [bae, Nat.blt_eq] at hc;have h1 := beq_t hc.1.1;have h2 := Nat.le_of_ble_eq_true hc.1.2;have h3 := hc.2;omega
 ·rfl

def T.allF {α : Type} (f : Nat → α → Bool) : (Nat → Nat) → T α → Bool
 | _, .nil => true
 | φ, .node v l r => (match v with | some x => f (φ 0) x | none => true) && T.allF f (fun i => φ (2 * i + 1)) l && T.allF f (fun i => φ (2 * i + 2)) r
theorem T.allF_get {α : Type} {f : Nat → α → Bool} : ∀ {t : T α} {φ : Nat → Nat}, T.allF f φ t = true → ∀ i x, t.get i = some x → f (φ i) x = true
 | .nil, φ, _, i, x, hx => by simp [T.get] at hx
 | .node v l r, φ, h, i, x, hx => by
  simp only [T.allF, bae] at h;obtain ⟨⟨h1, h2⟩, h3⟩ := h;cases i with
  | zero =>
   simp only [T.get] at hx;subst hx;exact h1
  | succ j =>
   simp only [T.get] at hx;split at hx
   ·rename_i hj;have hj := beq_t hj;have := T.allF_get h2 (j / 2) x hx
    rwa [show 2 * (j / 2) + 1 = j + 1 by omega] at this
   ·rename_i hj;have hj := beq_f hj;have := T.allF_get h3 (j / 2) x hx
    rwa [show 2 * (j / 2) + 2 = j + 1 by omega] at this

def likeH (g : Nat → Nat) (hB hA : T AObj) : Bool := T.allF (fun i oA => match hB.get (g i) with
 | some oB => likeO g oB oA
 | none => false) (fun i => i) hA
theorem likeH_get {g : Nat → Nat} {hB hA : T AObj} (h : likeH g hB hA = true) (i : Nat) (oA : AObj) (ho : hA.get i = some oA) : ∃ oB, hB.get (g i) = some oB ∧ likeO g oB oA = true := by
 have := T.allF_get h i oA ho;split at this
 ·rename_i u hu; exact ⟨u, hu, this⟩
 ·cases this

def namesOf (g : Nat → Nat) : Nat → Nat → List Nat
 | _, 0 => []
 | m, k + 1 => g (2 * m + 1) :: namesOf g (m + 1) k
theorem namesOf_mem {g : Nat → Nat} : ∀ {k m j : Nat}, m ≤ j → j < m + k → g (2 * j + 1) ∈ namesOf g m k
 | 0, _, _, _, _ => by omega
 | k + 1, m, j, h1, h2 => by
  simp only [namesOf, List.mem_cons];rcases Nat.eq_or_lt_of_le h1 with rfl | h
  ·exact .inl rfl
  ·exact .inr (namesOf_mem (by omega) (by omega))
def distB : List Nat → Bool
 | [] => true
 | a :: l => (l.all fun b => !Nat.beq a b) && distB l
theorem namesOf_inj {g : Nat → Nat} : ∀ {k m : Nat}, distB (namesOf g m k) = true → ∀ {i j : Nat}, m ≤ i → i < m + k → m ≤ j → j < m + k → g (2 * i + 1) = g (2 * j + 1) → i = j
 | 0, _, _, _, _, _, _, _, _, _ => by omega
 | k + 1, m, h, i, j, h1, h2, h3, h4, he => by
  simp only [namesOf, distB, bae] at h;rcases Nat.eq_or_lt_of_le h1 with rfl | hi
  ·rcases Nat.eq_or_lt_of_le h3 with rfl | hj
   ·rfl
   ·have := List.all_eq_true.1 h.1 _ (namesOf_mem (g := g) (m := m + 1) (k := k) (j := j) (by omega) (by omega));simp only [Bool.not_eq_true'] at this;exact absurd he (beq_f this)
  ·rcases Nat.eq_or_lt_of_le h3 with rfl | hj
   ·have := List.all_eq_true.1 h.1 _ (namesOf_mem (g := g) (m := m + 1) (k := k) (j := i) (by omega) (by omega));simp only [Bool.not_eq_true'] at this;exact absurd he.symm (beq_f this)
   ·exact namesOf_inj h.2 (by omega) (by omega) (by omega) (by omega) he

def likeS (n : Nat) (tB tA : Trace) (sB sA : St) : Bool :=
 Nat.beq sA.next sB.next && Nat.ble n sA.next && ((namesOf (nameG n sA.next tA tB) n (sA.next - n)).all fun i => Nat.ble (2 * n + 1) i) && distB (namesOf (nameG n sA.next tA tB) n (sA.next - n)) && likeH (nameG n sA.next tA tB) sB.heap sA.heap

def Env.named (e : Env) (n next : Nat) (tA tB : Trace) : Env where
 loc i := e.loc (nameG n next tA tB i)
 spare i := e.spare (nameG n next tA tB i)
 base i := e.base (nameG n next tA tB i)
 opq := e.opq
 glob g := by rw [nameG_out (.inl (by omega))]; exact e.glob g
 h := e.h

theorem named_like (e : Env) (n next : Nat) (tA tB : Trace) : LikeE (nameG n next tA tB) e (e.named n next tA tB) := ⟨fun _ _ h => h, fun _ => rfl, fun _ => rfl, rfl, rfl⟩

theorem nameG_in {n next : Nat} {tA tB : Trace} {i : Nat} (h1 : i % 2 = 1) (h2 : 2 * n + 1 ≤ i) (h3 : i < 2 * next + 1) : nameG n next tA tB i % 2 = 1 := by
 unfold nameG;split
 ·omega
 ·exact h1

theorem likeS_ok {n : Nat} {tB tA : Trace} {sB sA : St} (h : likeS n tB tA sB sA = true) {Ω : Om} {w0 : Base} {e1 eB : Env} {w : World} (hle : e1.le eB) (hfr : ∀ m, n ≤ m → e1.loc (2 * m + 1) = none) (hr : Rel Ω w0 eB sB w) :
  e1.le (eB.named n sA.next tA tB) ∧ Rel Ω w0 (eB.named n sA.next tA tB) sA w := by
 unfold likeS at h;simp only [bae] at h;obtain ⟨⟨⟨⟨h1, h2⟩, h3⟩, h4⟩, h5⟩ := h;have h1 := beq_t h1;have h2 := Nat.le_of_ble_eq_true h2;have hbig : ∀ i, i % 2 = 1 → 2 * n + 1 ≤ i → i < 2 * sA.next + 1 → 2 * n + 1 ≤ nameG n sA.next tA tB i := by
  intro i a b c;have := List.all_eq_true.1 h3 _ (namesOf_mem (g := nameG n sA.next tA tB) (m := n) (k := sA.next - n) (j := i / 2) (by omega) (by omega));rw [show 2 * (i / 2) + 1 = i by omega] at this;exact Nat.le_of_ble_eq_true this
 refine ⟨⟨fun i b hb => ?_, hle.opq, hle.h⟩, hr.opq, hr.below, fun m hm => ?_, ?_, fun i o ho => ?_, hr.pool, fun i o k ho oo hk => ?_, hr.grow, hr.hold⟩
 ·have hout : nameG n sA.next tA tB i = i := by
   by_cases hc : i % 2 = 1 ∧ 2 * n + 1 ≤ i
   ·have := hfr (i / 2) (by omega);rw [show 2 * (i / 2) + 1 = i by omega, hb] at this;cases this
   ·exact nameG_out (by omega)
  simp only [Env.named, hout];exact hle.loc i b hb
 ·simp only [Env.named];rw [nameG_out (.inr (.inr (by omega)))];exact hr.fresh m (by omega)
 ·intro i j o o' b hi hj oi oj li lj;obtain ⟨pi, qi, ri⟩ := likeH_get h5 i o hi;obtain ⟨pj, qj, rj⟩ := likeH_get h5 j o' hj;have hg := hr.inj _ _ _ _ b qi qj (by rw [likeO_own ri]; exact oi) (by rw [likeO_own rj]; exact oj) li lj;have live : ∀ i p, sB.heap.get i = some p → i % 2 = 1 → i < 2 * sA.next + 1 := by
   intro i p hp hodd;obtain ⟨k, hk, _⟩ := hr.obj i p hp;rcases Nat.lt_or_ge i (2 * sA.next + 1) with a | a
   ·exact a
   ·have := hr.fresh (i / 2) (by omega);rw [show 2 * (i / 2) + 1 = i by omega, hk] at this;cases this
  by_cases ci : i % 2 = 1 ∧ 2 * n + 1 ≤ i ∧ i < 2 * sA.next + 1
  ·by_cases cj : j % 2 = 1 ∧ 2 * n + 1 ≤ j ∧ j < 2 * sA.next + 1
   ·have := namesOf_inj h4 (i := i / 2) (j := j / 2) (by omega) (by omega) (by omega) (by omega) (by rw [show 2 * (i / 2) + 1 = i by omega, show 2 * (j / 2) + 1 = j by omega]; exact hg);omega
   ·have e1 := nameG_out (tA := tA) (tB := tB) (show j % 2 = 0 ∨ j < 2 * n + 1 ∨ 2 * sA.next + 1 ≤ j by omega);rw [e1] at hg qj;have b1 := hbig i ci.1 ci.2.1 ci.2.2;have b2 := nameG_in (tA := tA) (tB := tB) ci.1 ci.2.1 ci.2.2;rw [hg] at b1 b2;have := live j pj qj b2;omega
  ·have e1 := nameG_out (tA := tA) (tB := tB) (show i % 2 = 0 ∨ i < 2 * n + 1 ∨ 2 * sA.next + 1 ≤ i by omega);rw [e1] at hg qi;by_cases cj : j % 2 = 1 ∧ 2 * n + 1 ≤ j ∧ j < 2 * sA.next + 1
   ·have b1 := hbig j cj.1 cj.2.1 cj.2.2;have b2 := nameG_in (tA := tA) (tB := tB) cj.1 cj.2.1 cj.2.2;rw [← hg] at b1 b2;have := live i pi qi b2;omega
   ·rw [nameG_out (by omega)] at hg;exact hg
 ·obtain ⟨oB, q1, q2⟩ := likeH_get h5 i o ho;obtain ⟨k, k1, k2⟩ := hr.obj _ _ q1;exact ⟨k, k1, likeO_ok (named_like eB n sA.next tA tB) q2 k2⟩
 ·obtain ⟨oB, q1, q2⟩ := likeH_get h5 i o ho;exact hr.apart _ oB k q1 (by rw [likeO_own q2]; exact oo) hk

end Go.Ev
