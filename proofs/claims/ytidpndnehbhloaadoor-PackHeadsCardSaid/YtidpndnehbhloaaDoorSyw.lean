/- Loops that are known, used where their pattern shows. No condition. -/
import Derived.Test.YtidpndnehbhloaaDoorSyv
namespace Go.Ev
open Go.RowKit

abbrev Sol := List (Nat × E) × Ren
def hasE : List (Nat × E) → Nat → Bool
 | [], _ => false
 | (i, _) :: l, j => Nat.beq i j || hasE l j
def lookE : List (Nat × E) → Nat → E
 | [], j => .var j
 | (i, x) :: l, j => match Nat.beq i j with
  | true => x
  | false => lookE l j
def solveE (x y : E) (S : Sol) : Sol := match x with
 | .var i => match hasE S.1 i with
  | true => S
  | false => ((i, y) :: S.1, S.2)
 | _ => S
def solveId (i j : Nat) (S : Sol) : Sol := match Nat.beq (i % 2) 0, S.2.get i with
 | false, none => (S.1, (i, j) :: S.2)
 | _, _ => S
def segLen (v : Nat) : Nat → List AV → Nat
 | i, .sint _ (.bi .sel (.var u) (.int j)) :: r => match Nat.beq u v && decide (j = i) with
  | true => segLen v (i + 1) r + 1
  | false => 0
 | _, _ => 0
def avsE : Nat → List AV → List E
 | 0, _ => []
 | _, [] => []
 | n + 1, u :: us => match toE u with
  | some (_, x) => x :: avsE n us
  | none => []
def segsL : List AV → List AV → Sol → Sol
 | v :: vs, u :: us, S => match v with
  | .sint _ (.bi .sel (.var i) (.int 0)) => segsL vs us (solveE (.var i) (segE (avsE (segLen i 0 (v :: vs)) (u :: us))) S)
  | _ => segsL vs us S
 | _, _, S => S
mutual
def solveA : AV → AV → Sol → Sol
 | .ptr j _, .ptr i _, S => solveId j i S
 | .slice j _ _ _ _, .slice i _ _ _ _, S => solveId j i S
 | .sptr j y, .sptr i x, S => solveE y x (solveId j i S)
 | .sslice j o l c _, .sslice i o' l' c' _, S => solveE o o' (solveE l l' (solveE c c' (solveId j i S)))
 | .sint _ y, u, S => match toE u with
  | some (_, x) => solveE y x S
  | none => S
 | .sstr n y, u, S => match toS u with
  | some (m, x) => solveE n m (solveE y x S)
  | none => S
 | .sbits y, .sbits x, S => solveE y x S
 | .pv _ y, .pv _ x, S => solveE y x S
 | .pv _ y, .pw _ _ x, S => solveE y x S
 | .pp _ y, .pp _ x, S => solveE y x S
 | .vslice j _ o l c _, .vslice i _ o' l' c' _, S => solveE o o' (solveE l l' (solveE c c' (solveId j i S)))
 | .vptr j _ y _, .vptr i _ x _, S => solveE y x (solveId j i S)
 | .vptr j z y _, .ptr i o, S => solveE y (.int ((o / z : Nat) : Int)) (solveId j i S)
 | .sflt y, u, S => match toF u with
  | some x => solveE y x S
  | none => S
 | .iface _ v, .iface _ u, S => solveA v u S
 | .mapv j, .mapv i, S => solveId j i S
 | .yieldf j, .yieldf i, S => solveId j i S
 | .func _ vs, .func _ us, S => solveL vs us S
 | .agg vs, .agg us, S => solveL vs us (segsL vs us S)
 | .tuple vs, .tuple us, S => solveL vs us S
 | _, _, S => S
def solveL : List AV → List AV → Sol → Sol
 | v :: vs, u :: us, S => solveL vs us (solveA v u S)
 | _, _, S => S
end
def solvePat (t : T AV) : List (Nat × AV) → Sol → Sol
 | [], S => S
 | (i, v) :: l, S => match t.get i with
  | some u => solvePat t l (solveA v u S)
  | none => solvePat t l S
def cellsE (b : AB) : Nat → Nat → List E
 | _, 0 => []
 | i, n + 1 => match b.at i with
  | some u => match toE u with
   | some (_, x) => x :: cellsE b (i + 1) n
   | none => []
  | none => []
def solveSeg (b : AB) (i : Nat) (l : List AV) (S : Sol) : Sol := match l with
 | .sint _ (.bi .sel (.var v) (.int 0)) :: _ => solveE (.var v) (segE (cellsE b i (segLen v 0 l))) S
 | _ => S
def solveCells (b : AB) : Nat → List AV → Sol → Sol
 | _, [], S => S
 | i, v :: l, S => match b.at i with
  | some u => solveCells b (i + 1) l (solveA v u (solveSeg b i (v :: l) S))
  | none => solveCells b (i + 1) l S
def solveME : List ME → List ME → Sol → Sol
 | b :: m, a :: l, S => solveME m l (solveA b.val a.val (solveA b.key a.key S))
 | _, _, S => S
def solveRow (o : AObj) (r : RW) (S : Sol) : Sol := match o, r with
 | .seq q, .seq q' => solveE q'.n q.n (solveE q'.x q.x S)
 | .eseq q, .eseq q' => solveE q'.n q.n (solveE q'.x q.x S)
 | .cells b, .seq q' => match b.from 0 b.size with
  | some l => match seqOfL q'.k l with
   | some x => solveE q'.n (.int b.size) (solveE q'.x x S)
   | none => S
  | none => S
 | .cells b, .cells _ _ _ _ l => solveCells b 0 l S
 | .ext b, .ext l => solveCells b 0 l S
 | .map es _, .map es' _ => solveME es' es S
 | .vseq q, .vseq q' => solveE q'.n q.n (solveE q'.x q.x S)
 | .cells b, .vseq q' => match cellsV b q' with
  | some es => solveE q'.n (.int es.length) (solveE q'.x (recE es (.lits [])) S)
  | none => S
 | .loop r, .loop _ l _ _ => solvePat r.t l S
 | _, _ => S
def solveRows (s : St) : List (Nat × RW) → Sol → Sol
 | [], S => S
 | (j, r) :: l, S => match S.2.src j with
  | some i => match s.heap.get i with
   | some o => solveRows s l (solveRow o r S)
   | none => solveRows s l S
  | none => solveRows s l S

mutual
def AV.ren (σ : Nat → Nat) : AV → AV
 | .ptr i o => .ptr (σ i) o
 | .slice i o l c b => .slice (σ i) o l c b
 | .sptr i x => .sptr (σ i) x
 | .sslice i o l c b => .sslice (σ i) o l c b
 | .vslice i z o l c b => .vslice (σ i) z o l c b
 | .vptr i z j f => .vptr (σ i) z j f
 | .mapv i => .mapv (σ i)
 | .yieldf i => .yieldf (σ i)
 | .func f cs => .func f (AV.rens σ cs)
 | .bound f cs => .bound f (AV.rens σ cs)
 | .iface t v => .iface t (v.ren σ)
 | .agg cs => .agg (AV.rens σ cs)
 | .tuple cs => .tuple (AV.rens σ cs)
 | v => v
def AV.rens (σ : Nat → Nat) : List AV → List AV
 | [] => []
 | c :: cs => c.ren σ :: AV.rens σ cs
end
def RW.ren (σ : Nat → Nat) : RW → RW
 | .cells el esz opn str l => .cells el esz opn str (AV.rens σ l)
 | .ext l => .ext (AV.rens σ l)
 | .map es c => .map (es.map fun m => ⟨m.key.ren σ, m.val.ren σ, m.born⟩) c
 | .loop k l n q => .loop k (l.map fun p => (p.1, p.2.ren σ)) n q
 | r => r

def newNames (L : LSpec) (ρ : Ren) (next : Nat) : List (Nat × RW) → Nat → Ren
 | [], _ => []
 | (j, _) :: l, k => match isNum j L.same, ρ.get j with
  | true, some i => (i, j) :: newNames L ρ next l k
  | _, _ => (2 * (next + k) + 1, j) :: newNames L ρ next l (k + 1)
def oldNames (ρ : Ren) (fr : List (Nat × RW)) : List Nat → Ren
 | [] => []
 | i :: l => match fr.any (fun p => Nat.beq p.1 i), ρ.get i with
  | false, some j => (j, i) :: oldNames ρ fr l
  | _, _ => oldNames ρ fr l
def backName (τ : Ren) (j : Nat) : Nat := match τ with
 | [] => j
 | (i, k) :: r => match Nat.beq k j with
  | true => i
  | false => backName r j

def askDuty (A : Ask) : Duty → Bool
 | (true, x, y) => match askQ A (.eq x y) with
  | some true => true
  | _ => false
 | (false, x, y) => match askQ A (.same x y) with
  | some true => true
  | _ => false
theorem askDuty_met {Ω : Om} {A : Ask} (hA : AskOK Ω A) {p : Duty} (h : askDuty A p = true) : Duty.met Ω p := by
 obtain ⟨b, x, y⟩ := p;cases b
 ·simp only [askDuty] at h;split at h
  ·rename_i hq; show x.s Ω = y.s Ω; exact of_decide_eq_true (askQ_val hA hq)
  ·cases h
 ·simp only [askDuty] at h;split at h
  ·rename_i hq; show x.i Ω = y.i Ω; exact of_decide_eq_true (askQ_val hA hq)
  ·cases h
def allMet (A : Ask) : Option (List Duty) → Bool
 | some l => l.all (askDuty A)
 | none => false
theorem allMet_ok {Ω : Om} {A : Ask} (hA : AskOK Ω A) {o : Option (List Duty)} (h : allMet A o = true) : ∃ l, o = some l ∧ Duties Ω l := by
 cases o with
 | none => cases h
 | some l => exact ⟨l, rfl, fun p hp => askDuty_met hA (List.all_eq_true.1 h p hp)⟩

def Q.subst (θ : Nat → E) : Q → Q
 | .le x y => .le (x.subst θ) (y.subst θ)
 | .eq x y => .eq (x.subst θ) (y.subst θ)
 | .fit k x => .fit k (x.subst θ)
 | .same x y => .same (x.subst θ) (y.subst θ)
 | .less x y => .less (x.subst θ) (y.subst θ)
theorem Q.subst_val (Ω : Om) (θ : Nat → E) (q : Q) : (q.subst θ).val Ω = q.val (Ω.sub θ) := by
 cases q <;> simp only [Q.subst, Q.val, sub_i, sub_s]

def askPre (A : Ask) (θ : Nat → E) (p : Q × Bool) : Bool := match askQ A (p.1.subst θ) with
 | some b => b == p.2
 | none => false

def dropAll : T AV → List Nat → T AV
 | t, [] => t
 | t, i :: l => dropAll (t.put i none) l
theorem dropAll_get : ∀ {l : List Nat} {t : T AV} {i : Nat} {v : AV}, (dropAll t l).get i = some v → t.get i = some v ∧ isNum i l = false
 | [], t, i, v, h => ⟨h, rfl⟩
 | j :: l, t, i, v, h => by
  have h' : (dropAll (t.put j none) l).get i = some v := h;obtain ⟨h1, h2⟩ := dropAll_get h';rw [T.get_put] at h1;split at h1
  ·cases h1
  ·rename_i hne;refine ⟨h1, ?_⟩;simp only [isNum, Bool.or_eq_false_iff];refine ⟨?_, h2⟩;cases hb : Nat.beq i j with
   | false => rfl
   | true => exact absurd (beq_t hb) hne

def delRows : T AObj → Ren → List (Nat × RW) → T AObj
 | t, _, [] => t
 | t, ρ, (j, r) :: l => match r.own, ρ.get j with
  | true, some i => delRows (t.put i none) ρ l
  | _, _ => delRows t ρ l
def putRows : T AObj → List (Nat × RW) → T AObj
 | t, [] => t
 | t, (i, r) :: l => putRows (t.put i (some r.obj)) l

def outPat (τ : Ren) (θ : Nat → E) (l : List (Nat × AV)) : List (Nat × AV) := l.map fun p => (p.1, (p.2.sub θ).ren (backName τ))
def outRows (τ : Ren) (θ : Nat → E) (l : List (Nat × RW)) : List (Nat × RW) := l.map fun p => (backName τ p.1, (p.2.sub θ).ren (backName τ))

def seeOut (τ : Ren) (θ : Nat → E) : List (Nat × AV) → Option (List Duty)
 | [] => some []
 | (_, v) :: l => match seeA τ (v.sub θ) ((v.sub θ).ren (backName τ)), seeOut τ θ l with
  | some d, some m => some (d ++ m)
  | _, _ => none
def seeOutR (τ : Ren) (θ : Nat → E) : List (Nat × RW) → Option (List Duty)
 | [] => some []
 | (j, r) :: l => match (match τ.get (backName τ j) with | some k => Nat.beq k j | none => false) && Nat.beq (backName τ j % 2) 1 && r.own, seeO τ (r.sub θ).obj ((r.sub θ).ren (backName τ)), seeOutR τ θ l with
  | true, some d, some m => some (d ++ m)
  | _, _, _ => none

def namesOK (L : LSpec) (ρ τ : Ren) (next next' : Nat) : Bool := τ.all fun p =>
 Nat.beq (p.1 % 2) 1 && ((isNum p.2 L.same && Nat.beq (p.2 % 2) 1 && (match ρ.get p.2 with | some i => Nat.beq i p.1 | none => false)) || (Nat.ble (2 * next + 1) p.1 && Nat.blt p.1 (2 * next' + 1)))

def seeArg1 (s : St) (ρ : Ren) : AV → AV → Option (List Duty)
 | .slice i o l c b, .sslice i' o' l' c' b' => match ρ.is i' i && (b == b'), s.rowR i with
  | true, some _ => match Nat.ble l c with
   | true => some (duty true (.int o) o' ++ (duty true (.int l) l' ++ duty true (.int c) c'))
   | false => none
  | _, _ => none
 | .slice i 0 l c b, .vslice i' _ o' l' c' b' => match ρ.is i' i && (b == b') with
  | true => match Nat.ble l c with
   | true => some (duty true (.int 0) o' ++ (duty true (.int l) l' ++ duty true (.int c) c'))
   | false => none
  | false => none
 | .sint _ _, .int _ _ => none
 | u, v => seeA ρ u v
theorem seeArg1_vr {ρ : Ren} {Ω : Om} {w0 : Base} {e e' : Env} {s : St} {w : World} (h : Rel Ω w0 e s w) (H : RenOK ρ e e') {u v : AV} {l : List Duty} (k : seeArg1 s ρ u v = some l) (hd : Duties e.opq l) {a : Value} (ha : VR e u a) : VR e' v a := by
 unfold seeArg1 at k;split at k
 ·rename_i i o l c b i' o' l' c' b';split at k
  ·rename_i row hc hrow;simp only [bae, beq_iff_eq] at hc;obtain ⟨hc, rfl⟩ := hc;split at k
   ·rename_i hlc;have hlc := ble_le hlc;simp only [sme] at k;subst k;obtain ⟨d1, d2⟩ := hd.app;obtain ⟨d2, d3⟩ := d2.app;have d1 := duty_i d1;have d2 := duty_i d2;have d3 := duty_i d3;obtain ⟨g1, g2, g3⟩ := H.is hc;have hb0 := h.base0 hrow;simp only [VR] at ha ⊢;obtain ⟨bb, hbb, rfl⟩ := ha;simp only [E.i, E.den, D.toInt_int] at d1 d2 d3;have n1 : o'.n e'.opq = o := by rw [H.opq]; simp only [E.n, D.nat]; omega
    have n2 : l'.n e'.opq = l := by rw [H.opq]; simp only [E.n, D.nat]; omega
    have n3 : c'.n e'.opq = c := by rw [H.opq]; simp only [E.n, D.nat]; omega
    refine ⟨bb, o, by rw [g1]; exact hbb, by rw [n2, n3, g2], fun _ => by rw [n1, g3, hb0]; omega, ?_, ?_, ?_⟩
    ·rw [H.opq]; simp only [E.i]; omega
    ·rw [H.opq]; simp only [E.i]; omega
    ·rw [H.opq]; simp only [E.i]; omega
   ·cases k
  ·cases k
 ·rename_i i l c b i' z o' l' c' b';split at k
  ·rename_i hc;simp only [bae, beq_iff_eq] at hc;obtain ⟨hc, rfl⟩ := hc;split at k
   ·rename_i hlc;have hlc := ble_le hlc;simp only [sme] at k;subst k;obtain ⟨d1, d2⟩ := hd.app;obtain ⟨d2, d3⟩ := d2.app;have d1 := duty_i d1;have d2 := duty_i d2;have d3 := duty_i d3;obtain ⟨g1, g2, g3⟩ := H.is hc;simp only [VR] at ha ⊢;obtain ⟨bb, hbb, rfl⟩ := ha;simp only [E.i, E.den, D.toInt_int] at d1 d2 d3;have n1 : o'.n e'.opq = 0 := by rw [H.opq]; simp only [E.n, D.nat]; omega
    have n2 : l'.n e'.opq = l := by rw [H.opq]; simp only [E.n, D.nat]; omega
    have n3 : c'.n e'.opq = c := by rw [H.opq]; simp only [E.n, D.nat]; omega
    refine ⟨bb, 0, by rw [g1]; exact hbb, by rw [n2, n3, g2], fun _ => by rw [n1, Nat.zero_mul], ?_, ?_, ?_⟩
    ·rw [H.opq]; simp only [E.i]; omega
    ·rw [H.opq]; simp only [E.i]; omega
    ·rw [H.opq]; simp only [E.i]; omega
   ·cases k
  ·cases k
 ·cases k
 ·exact seeA_vr H _ _ _ k hd _ ha

def seeArg1s (s : St) (ρ : Ren) : List AV → List AV → Option (List Duty)
 | [], [] => some []
 | u :: us, v :: vs => match seeArg1 s ρ u v, seeArg1s s ρ us vs with
  | some l, some m => some (l ++ m)
  | _, _ => none
 | _, _ => none
theorem seeArg1s_vr {ρ : Ren} {Ω : Om} {w0 : Base} {e e' : Env} {s : St} {w : World} (h : Rel Ω w0 e s w) (H : RenOK ρ e e') : ∀ {u v : List AV} {l : List Duty}, seeArg1s s ρ u v = some l → Duties e.opq l → ∀ {a : List Value}, VRs e u a → VRs e' v a
 | [], [], _, _, _, _, ha => by simpa only [VRs] using ha
 | u :: us, v :: vs, l, k, hd, a, ha => by
  simp only [seeArg1s] at k;split at k
  ·rename_i l1 m1 h1 h2;simp only [sme] at k;subst k;obtain ⟨d1, d2⟩ := hd.app;simp only [VRs] at ha ⊢;obtain ⟨x, r, rfl, g1, g2⟩ := ha;exact ⟨x, r, rfl, seeArg1_vr h H h1 d1 g1, seeArg1s_vr h H h2 d2 g2⟩
  ·cases k
 | [], _ :: _, _, k, _, _, _ => by simp [seeArg1s] at k
 | _ :: _, [], _, k, _, _, _ => by simp [seeArg1s] at k
def seeArg (s : St) (ρ : Ren) : AV → AV → Option (List Duty)
 | .agg us, .agg vs => match seeA ρ (.agg us) (.agg vs) with
  | some d => some d
  | none => seeArg1s s ρ us vs
 | u, v => seeArg1 s ρ u v
theorem seeArg_vr {ρ : Ren} {Ω : Om} {w0 : Base} {e e' : Env} {s : St} {w : World} (h : Rel Ω w0 e s w) (H : RenOK ρ e e') {u v : AV} {l : List Duty} (k : seeArg s ρ u v = some l) (hd : Duties e.opq l) {a : Value} (ha : VR e u a) : VR e' v a := by
 unfold seeArg at k;split at k
 ·split at k
  ·rename_i d hs;simp only [sme] at k;subst k;exact seeA_vr H _ _ _ hs hd _ ha
  ·simp only [VR] at ha ⊢;obtain ⟨as, rfl, hs⟩ := ha;exact ⟨as, rfl, seeArg1s_vr h H k hd hs⟩
 ·exact seeArg1_vr h H k hd ha

def solveSl : List AV → List AV → Sol → Sol
 | .sslice j o l c _ :: vs, .slice i o' l' c' _ :: us, S => solveSl vs us (solveE o (.int o') (solveE l (.int l') (solveE c (.int c') (solveId j i S))))
 | _ :: vs, _ :: us, S => solveSl vs us S
 | _, _, S => S
def solveArg : AV → AV → Sol → Sol
 | .vslice j _ o l c _, .slice i o' l' c' _, S => solveE o (.int o') (solveE l (.int l') (solveE c (.int c') (solveId j i S)))
 | .sslice j o l c _, .slice i o' l' c' _, S => solveE o (.int o') (solveE l (.int l') (solveE c (.int c') (solveId j i S)))
 | .agg vs, .agg us, S => solveSl vs us (solveA (.agg vs) (.agg us) S)
 | v, u, S => solveA v u S
def solvePatS (t : T AV) : List (Nat × AV) → Sol → Sol
 | [], S => S
 | (i, v) :: l, S => match t.get i with
  | some u => solvePatS t l (solveArg v u S)
  | none => solvePatS t l S
def seePatS (s : St) (ρ : Ren) (t : T AV) : List (Nat × AV) → Option (List Duty)
 | [] => some []
 | (i, v) :: l => match t.get i with
  | some u => match seeArg s ρ u v, seePatS s ρ t l with
   | some d, some m => some (d ++ m)
   | _, _ => none
  | none => none
theorem seePatS_ok {ρ : Ren} {Ω : Om} {w0 : Base} {e e' : Env} {s : St} {w : World} (h : Rel Ω w0 e s w) (H : RenOK ρ e e') {t : T AV} {a : Act} (hf : FT e t a) : ∀ {l : List (Nat × AV)} {ds : List Duty}, seePatS s ρ t l = some ds → Duties e.opq ds → ∀ p ∈ l, ∃ x, a.tmps[p.1]? = some x ∧ VR e' p.2 x
 | [], _, _, _, p, hp => by simp at hp
 | (i, v) :: l, ds, k, hd, p, hp => by
  simp only [seePatS] at k;split at k
  ·rename_i u hu;split at k
   ·rename_i d m h1 h2;simp only [sme] at k;subst k;obtain ⟨d1, d2⟩ := hd.app;rcases List.mem_cons.1 hp with rfl | hp
    ·obtain ⟨x, g1, g2⟩ := hf i u hu;exact ⟨x, g1, seeArg_vr h H h1 d1 g2⟩
    ·exact seePatS_ok h H hf h2 d2 p hp
   ·cases k
  ·cases k

def LSpec.use (L : LSpec) (A : Ask) (fr : Fr) (s : St) : Option (X × Fr × St) :=
 let S := solveRows s L.rows (solvePatS fr.t L.pat ([], []))
 let θ := lookE S.1
 let ρ := S.2
 let τ := newNames L ρ s.next L.frows 0 ++ oldNames ρ L.frows L.same
 let next' := s.next + L.frows.length
 match Nat.beq fr.n L.n && (match fr.defers with | [] => true | _ => false) && keysUnder ρ L.next && renB ρ && L.fine && distinctB (τ.map (·.2)) && namesOK L ρ τ s.next next' && (L.rows.all fun p => !p.2.own || Nat.beq (p.1 % 2) 1) && distinctB (L.frows.map (·.1)) with
 | true => match allMet A (seePatS s ρ fr.t (patSub θ L.pat)) && allMet A (seeRows ρ s (RW.subs θ L.rows)) && (L.pre.all (askPre A θ)) && allMet A (seeOut τ θ L.fin) && allMet A (seeOutR τ θ L.frows) with
  | true => some (xOf L.x, ⟨putAll (dropAll fr.t L.chg) (outPat τ θ L.fin), fr.n, []⟩, ⟨putRows (delRows s.heap ρ L.rows) (outRows τ θ L.frows), next'⟩)
  | false => none
 | false => none

theorem putRows_get : ∀ {l : List (Nat × RW)} {t : T AObj} {i : Nat} {o : AObj}, (putRows t l).get i = some o → (∃ r, (i, r) ∈ l ∧ o = r.obj) ∨ (t.get i = some o ∧ ∀ r, (i, r) ∉ l)
 | [], t, i, o, h => .inr ⟨h, fun r hr => by simp at hr⟩
 | (j, r) :: l, t, i, o, h => by
  have h' : (putRows (t.put j (some r.obj)) l).get i = some o := h;rcases putRows_get h' with ⟨r', h1, h2⟩ | ⟨h1, h2⟩
  ·exact .inl ⟨r', List.mem_cons_of_mem _ h1, h2⟩
  ·rw [T.get_put] at h1;split at h1
   ·rename_i e1;rw [sme] at h1;exact .inl ⟨r, by rw [e1]; simp, h1.symm⟩
   ·rename_i e1;refine .inr ⟨h1, fun r' hr' => ?_⟩;rcases List.mem_cons.1 hr' with hr' | hr'
    ·simp only [pme] at hr';exact e1 hr'.1
    ·exact h2 r' hr'

theorem delRows_get {ρ : Ren} : ∀ {l : List (Nat × RW)} {t : T AObj} {i : Nat} {o : AObj}, (delRows t ρ l).get i = some o → t.get i = some o ∧ ∀ j r, (j, r) ∈ l → r.own = true → ρ.get j ≠ some i
 | [], t, i, o, h => ⟨h, fun j r hr => by simp at hr⟩
 | (j, r) :: l, t, i, o, h => by
  simp only [delRows] at h;split at h
  ·rename_i k hown hk;obtain ⟨h1, h2⟩ := delRows_get h;rw [T.get_put] at h1;split at h1
   ·cases h1
   ·rename_i hne;refine ⟨h1, fun j' r' hr' ho' => ?_⟩;rcases List.mem_cons.1 hr' with hr' | hr'
    ·simp only [pme] at hr';obtain ⟨rfl, rfl⟩ := hr';rw [hk];intro x;simp only [sme] at x;exact hne x.symm
    ·exact h2 j' r' hr' ho'
  ·rename_i hno;obtain ⟨h1, h2⟩ := delRows_get h;refine ⟨h1, fun j' r' hr' ho' => ?_⟩;rcases List.mem_cons.1 hr' with hr' | hr'
   ·simp only [pme] at hr';obtain ⟨rfl, rfl⟩ := hr';intro x;exact hno i ho' x
   ·exact h2 j' r' hr' ho'

theorem seeOut_mem {τ : Ren} {θ : Nat → E} {Ω : Om} : ∀ {l : List (Nat × AV)} {ds : List Duty}, seeOut τ θ l = some ds → Duties Ω ds → ∀ p ∈ l, ∃ d, seeA τ (p.2.sub θ) ((p.2.sub θ).ren (backName τ)) = some d ∧ Duties Ω d
 | [], _, _, _, p, hp => by simp at hp
 | (i, v) :: l, ds, k, hd, p, hp => by
  simp only [seeOut] at k;split at k
  ·rename_i d m h1 h2;simp only [sme] at k;subst k;obtain ⟨d1, d2⟩ := hd.app;rcases List.mem_cons.1 hp with rfl | hp
   ·exact ⟨d, h1, d1⟩
   ·exact seeOut_mem h2 d2 p hp
  ·cases k
theorem seeOutR_mem {τ : Ren} {θ : Nat → E} {Ω : Om} : ∀ {l : List (Nat × RW)} {ds : List Duty}, seeOutR τ θ l = some ds → Duties Ω ds → ∀ p ∈ l, τ.get (backName τ p.1) = some p.1 ∧ backName τ p.1 % 2 = 1 ∧ p.2.own = true ∧ ∃ d, seeO τ (p.2.sub θ).obj ((p.2.sub θ).ren (backName τ)) = some d ∧ Duties Ω d
 | [], _, _, _, p, hp => by simp at hp
 | (i, v) :: l, ds, k, hd, p, hp => by
  simp only [seeOutR] at k;split at k
  ·rename_i d m hb h1 h2;simp only [sme] at k;subst k;obtain ⟨d1, d2⟩ := hd.app;rcases List.mem_cons.1 hp with rfl | hp
   ·simp only [bae] at hb;obtain ⟨⟨b1, b2⟩, b3⟩ := hb;refine ⟨?_, beq_t b2, b3, d, h1, d1⟩;split at b1
    ·rename_i k hk; rw [hk, beq_t b1]
    ·cases b1
   ·exact seeOutR_mem h2 d2 p hp
  ·cases k

theorem namesOK_mem {L : LSpec} {ρ τ : Ren} {next next' : Nat} (h : namesOK L ρ τ next next' = true) {j k : Nat} (hj : τ.get j = some k) : j % 2 = 1 ∧ ((k ∈ L.same ∧ k % 2 = 1 ∧ ρ.get k = some j) ∨ (2 * next + 1 ≤ j ∧ j < 2 * next' + 1)) := by
 have := List.all_eq_true.1 h _ (Ren.get_mem hj);simp only [bae, Bool.or_eq_true] at this;obtain ⟨h1, h2⟩ := this;refine ⟨beq_t h1, ?_⟩;rcases h2 with ⟨⟨a, b⟩, c⟩ | ⟨a, b⟩
 ·left;refine ⟨isNum_mem a, beq_t b, ?_⟩;split at c
  ·rename_i i hi; rw [hi, beq_t c]
  ·cases c
 ·right;exact ⟨ble_le a, by simpa [Nat.blt_eq] using b⟩

theorem rowsT_live : ∀ {l : List (Nat × RW)} {p : Nat × RW}, p ∈ l → ∃ o, (rowsT l).get p.1 = some o
 | [], p, h => by simp at h
 | q :: l, p, h => by
  obtain ⟨j, r⟩ := q;simp only [rowsT, T.get_put];split
  ·exact ⟨_, rfl⟩
  ·rename_i hne;rcases List.mem_cons.1 h with h | h
   ·rw [h] at hne; exact absurd rfl hne
   ·exact rowsT_live h

theorem fst_unique {l : List (Nat × RW)} (h : (l.map (·.1)).Nodup) {i : Nat} {r : RW} {p : Nat × RW} (h1 : (i, r) ∈ l) (h2 : p ∈ l) (hi : p.1 = i := by rfl) : r = p.2 := by
 induction l with
 | nil => simp at h1
 | cons q l ih =>
  simp only [List.map_cons, List.nodup_cons, List.mem_map, not_exists, not_and] at h;rcases List.mem_cons.1 h1 with e1 | h1 <;> rcases List.mem_cons.1 h2 with e2 | h2
  ·rw [← e1] at e2; rw [e2]
  ·exact absurd (by rw [← e1]; exact hi) (h.1 p h2)
  ·exact absurd (by rw [← e2]; exact hi.symm) (h.1 _ h1)
  ·exact ih h.2 h1 h2

def Env.over (e ef : Env) (τ : Ren) : Env where
 loc j := if j % 2 = 0 then e.loc j else match τ.get j with
  | .some k => ef.loc k
  | .none => e.loc j
 spare j := if j % 2 = 0 then e.spare j else match τ.get j with
  | .some k => ef.spare k
  | .none => e.spare j
 base j := if j % 2 = 0 then e.base j else match τ.get j with
  | .some k => ef.base k
  | .none => e.base j
 opq := e.opq
 glob g := by simp [e.glob g]
 h := ef.h

theorem use_ok {P : Program} {b : Code} {L : LSpec} {f : Nat → D → D} (hH : LHolds P b L f) {Ω : Om} (hf : Ω.f = f) {w0 : Base} {A : Ask} (hA : AskOK Ω A) {fr : Fr} {s : St} {x : X} {fr' : Fr} {s' : St} (k : L.use A fr s = some (x, fr', s')) :
  ∃ m, ∀ e a w, Rel Ω w0 e s w → FrR e fr a → ∀ Q : Exit → Act → World → Prop, (∀ ex a w, CodePost Ω w0 e x fr' s' ex a w → Q ex a w) → Code.rounds P b Q m a w := by
 unfold LSpec.use at k;simp only at k;generalize hS : solveRows s L.rows (solvePatS fr.t L.pat ([], [])) = S at k;generalize hθ : lookE S.1 = θ at k;generalize hρ : S.2 = ρ at k;generalize hτ : newNames L ρ s.next L.frows 0 ++ oldNames ρ L.frows L.same = τ at k;split at k
 ·rename_i hc;simp only [bae] at hc;obtain ⟨⟨⟨⟨⟨⟨⟨⟨c1, c2⟩, c3⟩, c4⟩, c5⟩, c6⟩, c7⟩, c9⟩, c10⟩ := hc;have c1 := beq_t c1;have hdf : fr.defers = [] := by
   cases hd : fr.defers with
   | nil => rfl
   | cons a l => rw [hd] at c2; cases c2
  obtain ⟨nd, od⟩ := renB_split c4;have fine' := c5;simp only [LSpec.fine, bae] at fine';obtain ⟨⟨⟨fn1, fn2⟩, fn3⟩, fn4⟩ := fine';split at k
  ·rename_i hm;simp only [bae] at hm;obtain ⟨⟨⟨⟨m1, m2⟩, c8⟩, m3⟩, m4⟩ := hm;obtain ⟨ds1, p1, q1⟩ := allMet_ok hA m1;obtain ⟨ds2, p2, q2⟩ := allMet_ok hA m2;obtain ⟨ds3, p3, q3⟩ := allMet_ok hA m3;obtain ⟨ds4, p4, q4⟩ := allMet_ok hA m4;simp only [sme, pme] at k;obtain ⟨rfl, rfl, rfl⟩ := k;let d1 : Nat → D := fun i => (θ i).den Ω
   have hpre : ∀ p ∈ L.pre, p.1.val ⟨fun _ => .bool false, d1, f⟩ = p.2 := by
    intro p hp;have := List.all_eq_true.1 c8 p hp;unfold askPre at this;split at this
    ·rename_i bb hbb;have h1 := askQ_val hA hbb;rw [Q.subst_val] at h1;have h2 := val_same (Ω := Ω.sub θ) (Ω' := ⟨fun _ => .bool false, d1, f⟩) rfl hf.symm p.1;rw [h2, h1];simpa using this
    ·cases this
   obtain ⟨m, hm⟩ := hH d1 hpre;refine ⟨m, fun e a w hr hfr Q H => ?_⟩;obtain rfl := hr.opq;have H0 := Env.pull_ok e ρ;let v1 : Nat → Value := fun i => (a.tmps[i]?).getD (.bool false)
   have rel0 := hr.see p2 q2 c3 nd od;have rel1 := rel0.rebase.subst;have rel2 : Rel ⟨v1, d1, f⟩ (reBase (e.pull ρ) (rowsSt (RW.subs θ L.rows) L.next) w) ((e.pull ρ).at ⟨v1, d1, f⟩) L.st w := by
    refine ⟨rfl, rel1.below, rel1.fresh, rel1.inj, fun i o ho => ?_, rel1.pool, rel1.apart, rel1.grow, rel1.hold⟩;obtain ⟨r, hr1, hr2⟩ := rowsT_mem ho;obtain ⟨kk, h1, h2⟩ := rel1.obj i o ho;subst hr2;have hcl := List.all_eq_true.1 fn2 _ hr1;exact ⟨kk, h1, ObjR.newV (e := (e.pull ρ).at (e.opq.sub θ)) (Ω := ⟨v1, d1, f⟩) rfl hf.symm hcl h2⟩
   have fr2 : FrR ((e.pull ρ).at ⟨v1, d1, f⟩) L.fr a := by
    refine ⟨by rw [hfr.size, c1]; rfl, fun i u hu => ?_, ?_⟩
    ·rcases putAll_get hu with hin | hkp
     ·have hmem : (i, u.sub θ) ∈ patSub θ L.pat := List.mem_map.2 ⟨(i, u), hin, rfl⟩;obtain ⟨x, hx1, hx2⟩ := seePatS_ok hr H0 hfr.ft p1 q1 _ hmem;refine ⟨x, hx1, ?_⟩;have hx3 := (VR.sub u x).1 hx2;have hcu := List.all_eq_true.1 fn1 _ hin;simp only [bae] at hcu;exact VR.newV (e := (e.pull ρ).at (e.opq.sub θ)) (Ω := ⟨v1, d1, f⟩) rfl hf.symm u hcu.1.2 hx3
     ·obtain ⟨hin, rfl⟩ := keepT_get hkp;have hsz : i < a.tmps.size := by rw [hfr.size, c1]; exact hin
      refine ⟨a.tmps[i], by simp [hsz], ?_⟩;simp only [VR];show a.tmps[i] = v1 i;simp [v1, hsz]
    ·have := hfr.df;rw [hdf] at this;exact this
   refine hm v1 _ _ a w rel2 fr2 Q fun ex a' w' ef hpost => H ex a' w' ?_
   obtain ⟨⟨N, hrel⟩, hx, hsz, hdf', hfin, hkept, hsame, heven⟩ := hpost;have hof : ef.opq = ⟨v1, d1, f⟩ := hrel.opq
   -- what the loop leaves, in this state's terms
   let ec := ef.at e.opq
   have hecd : ((ec.opq).sub θ).d = ef.opq.d := by rw [hof]; rfl
   have hecf : ((ec.opq).sub θ).f = ef.opq.f := by rw [hof]; exact hf
   have same2 : ∀ i ∈ L.same, i % 2 = 1 → ∀ j, ρ.get i = some j → ef.loc i = e.loc j ∧ ef.spare i = e.spare j ∧ ef.base i = e.base j := by
    intro i hi ho j hj;obtain ⟨h1, h2, h3⟩ := hsame i hi;obtain ⟨g1, g2, g3⟩ := H0.odd i j hj ho;exact ⟨h1.trans g1, h2.trans g2, h3.trans g3⟩
   have fresh0 : ∀ n, s.next ≤ n → e.loc (2 * n + 1) = none := hr.fresh;have HO : RenOK τ ec (e.over ef τ) := by
    refine ⟨rfl, rfl, fun i j hij ho => ?_, fun g => ?_⟩
    ·simp only [Env.over, hij];rw [if_neg (by omega), if_neg (by omega), if_neg (by omega)];exact ⟨rfl, rfl, rfl⟩
    ·obtain ⟨h1, h2⟩ := heven g;have h3 : ((e.pull ρ).at ⟨v1, d1, f⟩).spare (2 * g) = e.spare (2 * g) := by simp [Env.at, Env.pull]
     have h4 : ((e.pull ρ).at ⟨v1, d1, f⟩).base (2 * g) = e.base (2 * g) := by simp [Env.at, Env.pull]
     simp only [Env.over];rw [if_pos (by omega), if_pos (by omega)];exact ⟨(h1.trans h3).symm, (h2.trans h4).symm⟩
   have hle : e.le (e.over ef τ) := by
    refine ⟨fun j bb hj => ?_, rfl, hrel.hold⟩;simp only [Env.over];by_cases he : j % 2 = 0
    ·rw [if_pos he, if_pos he, if_pos he]; exact ⟨hj, rfl, rfl⟩
    ·rw [if_neg he, if_neg he, if_neg he];split
     ·rename_i kk hk;rcases (namesOK_mem c7 hk).2 with ⟨g1, g2, g3⟩ | ⟨g1, _⟩
      ·obtain ⟨q1, q2, q3⟩ := same2 kk g1 g2 j g3;exact ⟨by rw [q1]; exact hj, q2, q3⟩
      ·have := fresh0 (j / 2) (by omega);rw [show 2 * (j / 2) + 1 = j by omega, hj] at this;cases this
     ·exact ⟨hj, rfl, rfl⟩
   -- this state's blocks are as they were, but for those of the pattern's own rows
   have hb := hrel.below;have stay : ∀ id o kk, (delRows s.heap ρ L.rows).get id = some o → e.loc id = some kk → w'.heap[kk]? = w.heap[kk]? ∧ (reBase (e.pull ρ) (rowsSt (RW.subs θ L.rows) L.next) w).K kk = true := by
    intro id o kk hd hk;obtain ⟨h1, h2⟩ := delRows_get hd;have hlt := hr.loc_lt h1 hk;have hK : (reBase (e.pull ρ) (rowsSt (RW.subs θ L.rows) L.next) w).K kk = true := by
     cases hc : (reBase (e.pull ρ) (rowsSt (RW.subs θ L.rows) L.next) w).K kk with
     | true => rfl
     | false =>
      obtain ⟨j, o', g1, g2, g3⟩ := reBase_mine hc;obtain ⟨r, g4, rfl⟩ := rowsT_mem g1;obtain ⟨i, oi, d, q5, q6, q7, q8⟩ := seeRows_mem p2 q2 j r g4;obtain ⟨q9, _⟩ := H0.is (Ren.src_is q5);rw [q9] at g3;have hmk : w0.mine kk := by
       obtain ⟨k2, hk2, hO⟩ := hr.obj i oi q6;rw [g3] at hk2;cases hk2;have oo : oi.own = true := seeO_own q7 g2;rcases hO.own with ⟨_, g⟩ | ⟨g, _⟩
       ·exact g
       ·rw [oo] at g; cases g
      have hid := hr.inj1 q6 h1 hmk (hr.apart i oi kk q6 (seeO_own q7 g2) g3) g3 hk;subst hid;obtain ⟨r0, g5, g6⟩ : ∃ r0, (j, r0) ∈ L.rows ∧ r = r0.sub θ := by
       simp only [RW.subs, List.mem_map] at g4;obtain ⟨p, hp1, hp2⟩ := g4;simp only [pme] at hp2;exact ⟨p.2, by rw [← hp2.1]; exact hp1, hp2.2.symm⟩
      have hown : r0.own = true := by
       rw [g6] at g2;cases r0 <;> first | rfl | (simp [RW.sub, RW.obj, AObj.own] at g2)
      unfold Ren.src at q5;split at q5
      ·-- a package's variable is no own row
       rename_i hev;simp only [sme] at q5;subst q5;have hodd := List.all_eq_true.1 c9 _ g5;simp only [hown, Bool.not_true, Bool.false_or] at hodd;have hodd := beq_t hodd;have hev := beq_t hev;omega
      ·exact absurd q5 (h2 j r0 g5 hown)
    exact ⟨hb.block kk hlt hK, hK⟩
   have mineBack : ∀ kk, (reBase (e.pull ρ) (rowsSt (RW.subs θ L.rows) L.next) w).mine kk → w0.mine kk := by
    intro kk hm;rcases hm with hm | hm
    ·left; have := hr.below.size; have hm : w.heap.size ≤ kk := hm; omega
    ·obtain ⟨j, o', g1, g2, g3⟩ := reBase_mine hm;obtain ⟨k2, hk2, hO⟩ := rel0.obj j o' g1;rw [g3] at hk2;cases hk2;cases o' with
     | loop _ => exact hO.1
     | defd => exact hO.1
     | map _ _ => exact hO.1
     | siter _ _ => exact hO.1
     | miter _ _ => exact hO.1
     | vseq _ => exact hO.1
     | cells _ => exact hO.1
     | seq _ => exact hO.1
     | ext _ => cases g2
     | eseq _ => cases g2
     | peq _ => cases g2
   have keptStay : ∀ kk, w0.kept kk → w'.heap[kk]? = w.heap[kk]? := by
    intro kk hk;refine hb.block kk (by have := hk.1; have := hr.below.size; show kk < w.heap.size; omega) ?_;cases hc : (reBase (e.pull ρ) (rowsSt (RW.subs θ L.rows) L.next) w).K kk with
    | true => rfl
    | false => exact absurd rfl (Base.mine_ne (mineBack kk (.inr hc)) hk)
   have back : ∀ u : AV, u.clear = true → ∀ x : Value, VR ef u x → VR ec (u.sub θ) x := fun u hu x hv =>
    (VR.sub (e := ec) u x).2 (VR.newV (e := ef) (Ω := ec.opq.sub θ) hecd hecf u hu hv)
   -- the rows that are there then
   have cases' : ∀ i o, (putRows (delRows s.heap ρ L.rows) (outRows τ θ L.frows)).get i = some o →
     (∃ p ∈ L.frows, i = backName τ p.1 ∧ o = ((p.2.sub θ).ren (backName τ)).obj ∧ (e.over ef τ).loc i = ef.loc p.1) ∨ ((delRows s.heap ρ L.rows).get i = some o ∧ (e.over ef τ).loc i = e.loc i) := by
    intro i o hio;rcases putRows_get hio with ⟨r, h1, h2⟩ | ⟨h1, _⟩
    ·simp only [outRows, List.mem_map] at h1;obtain ⟨p, hp, hpe⟩ := h1;simp only [pme] at hpe;obtain ⟨g1, g2, g3, _⟩ := seeOutR_mem p4 q4 p hp;refine .inl ⟨p, hp, hpe.1.symm, by rw [h2, hpe.2], ?_⟩;rw [← hpe.1];simp only [Env.over, g1];rw [if_neg (by omega)]
    ·refine .inr ⟨h1, ?_⟩;obtain ⟨h3, _⟩ := delRows_get h1;obtain ⟨kk, hk, _⟩ := hr.obj i o h3;rw [(hle.loc i kk hk).1, hk]
   have apart' : ∀ i o kk, (putRows (delRows s.heap ρ L.rows) (outRows τ θ L.frows)).get i = some o → o.own = true → (e.over ef τ).loc i = some kk → ef.h kk = none := by
    intro i o kk hi oo li;rcases cases' i o hi with ⟨p, hp, _, _, hl⟩ | ⟨hd, hl⟩
    ·rw [hl] at li;obtain ⟨op, hop⟩ := rowsT_live hp;obtain ⟨r', hr', hop'⟩ := rowsT_mem hop;refine hrel.apart p.1 op kk hop ?_ li;have := (seeOutR_mem p4 q4 (p.1, r') hr').2.2.1;subst hop';revert this;cases r' <;> first | (intro _; rfl) | (intro h; cases h)
    ·rw [hl] at li;obtain ⟨h3, _⟩ := delRows_get hd;cases hh : ef.h kk with
     | none => rfl
     | some arr =>
      exfalso;rcases hrel.grow kk arr hh with ⟨a, ha⟩ | hm'
      ·have ha : e.h kk = some a := ha;rw [hr.apart i o kk h3 oo li] at ha;cases ha
      ·rcases hm' with hm' | hm'
       ·have hm' : w.heap.size ≤ kk := hm';have := hr.loc_lt h3 li;omega
       ·rw [(stay i o kk hd li).2] at hm'; cases hm'
   refine ⟨e.over ef τ, hle, ⟨rfl, ?_, fun n hn => ?_, fun i j o o' bb hi hj oi oj li lj => ?_, fun i o hi => ?_, hrel.pool, apart', fun kk arr hk => ?_, fun kk arr hk => hrel.hold kk arr (hr.hold kk arr hk)⟩, ?_, ?_⟩
   ·exact hr.below.step hb.os hb.tape hb.output hb.size keptStay
   ·have hn : s.next + L.frows.length ≤ n := hn;have he := fresh0 n (by omega);simp only [Env.over];rw [if_neg (by omega)];split
    ·rename_i kk hk;rcases (namesOK_mem c7 hk).2 with ⟨g1, g2, g3⟩ | ⟨_, g2⟩
     ·rw [(same2 kk g1 g2 _ g3).1, he]
     ·omega
    ·exact he
   ·rcases cases' i o hi with ⟨p, hp, rfl, rfl, hl⟩ | ⟨hd, hl⟩ <;> rcases cases' j o' hj with ⟨q, hq, rfl, rfl, hl'⟩ | ⟨hd', hl'⟩
    ·rw [hl] at li;rw [hl'] at lj;obtain ⟨op, hop⟩ := rowsT_live hp;obtain ⟨oq, hoq⟩ := rowsT_live hq;have om : ∀ (p : Nat × RW), p ∈ L.frows → ∀ op, (rowsT L.frows).get p.1 = some op → op.own = true := fun p hp op hop => by
      obtain ⟨r', hr', rfl⟩ := rowsT_mem hop;have := (seeOutR_mem p4 q4 (p.1, r') hr').2.2.1;revert this;cases r' <;> first | (intro _; rfl) | (intro h; cases h)
     rw [hrel.inj p.1 q.1 _ _ bb hop hoq (om p hp op hop) (om q hq oq hoq) li lj]
    ·rw [hl] at li;rw [hl'] at lj;exfalso;obtain ⟨op, hop⟩ := rowsT_live hp;obtain ⟨kk, hk, hO⟩ := hrel.obj p.1 op hop;obtain ⟨r', hr', hop'⟩ := rowsT_mem hop;rw [li] at hk;cases hk;obtain ⟨_, hK⟩ := stay j o' bb hd' lj;have hlt := hr.loc_lt (delRows_get hd').1 lj;have hown := (seeOutR_mem p4 q4 (p.1, r') hr').2.2.1;have hmine : (reBase (e.pull ρ) (rowsSt (RW.subs θ L.rows) L.next) w).mine bb := by
      subst hop';cases r' <;> first | exact hO.1 | cases hown
     rcases hmine with hm' | hm'
     ·have hm' : w.heap.size ≤ bb := hm';omega
     ·rw [hK] at hm'; cases hm'
    ·rw [hl] at li;rw [hl'] at lj;exfalso;obtain ⟨op, hop⟩ := rowsT_live hq;obtain ⟨kk, hk, hO⟩ := hrel.obj q.1 op hop;obtain ⟨r', hr', hop'⟩ := rowsT_mem hop;rw [lj] at hk;cases hk;obtain ⟨_, hK⟩ := stay i o bb hd li;have hlt := hr.loc_lt (delRows_get hd).1 li;have hown := (seeOutR_mem p4 q4 (q.1, r') hr').2.2.1;have hmine : (reBase (e.pull ρ) (rowsSt (RW.subs θ L.rows) L.next) w).mine bb := by
      subst hop';cases r' <;> first | exact hO.1 | cases hown
     rcases hmine with hm' | hm'
     ·have hm' : w.heap.size ≤ bb := hm';omega
     ·rw [hK] at hm'; cases hm'
    ·rw [hl] at li;rw [hl'] at lj;exact hr.inj i j _ _ bb (delRows_get hd).1 (delRows_get hd').1 oi oj li lj
   ·have hi' := hi;rcases putRows_get hi with ⟨r, h1, h2⟩ | ⟨h1, _⟩
    ·simp only [outRows, List.mem_map] at h1;obtain ⟨p, hp, hpe⟩ := h1;simp only [pme] at hpe;obtain ⟨g1, g2, g3, d, g4, g5⟩ := seeOutR_mem p4 q4 p hp;obtain ⟨op, hop⟩ := rowsT_live hp;obtain ⟨hin1, hin2, hin3⟩ := HO.odd _ _ g1 g2;obtain ⟨r', hr', hop'⟩ := rowsT_mem hop;obtain ⟨kk, hk, hO⟩ := hrel.obj p.1 op hop;subst hop';have hpr : r' = p.2 := fst_unique (distinctB_nodup c10) hr' hp;subst hpr;have s1 := ObjR.newV (e := ef) (Ω := ec.opq.sub θ) hecd hecf (List.all_eq_true.1 fn4 p hp) hO;have s2 : ObjR (reBase (e.pull ρ) (rowsSt (RW.subs θ L.rows) L.next) w) ec p.1 kk w' (p.2.sub θ).obj := (RW.sub_ok (e := ec)).2 s1;have s3 := seeO_ok HO g4 g5 hin2 hin3 s2;rw [← hpe.1, h2, ← hpe.2];refine ⟨kk, by rw [hin1]; exact hk, ?_⟩;have hown' : ((p.2.sub θ).ren (backName τ)).own = true := by
      cases hp2 : p.2 <;> rw [hp2] at g3 <;> first | rfl | cases g3
     revert s3 hown';generalize (p.2.sub θ).ren (backName τ) = rr;intro s3 hown';cases rr <;> first
      | exact ⟨mineBack kk s3.1, s3.2⟩
      | cases hown'
    ·obtain ⟨h3, _⟩ := delRows_get h1;obtain ⟨kk, hk, hO⟩ := hr.obj i o h3;exact ⟨kk, (hle.loc i kk hk).1, hO.mono hle hk (stay i o kk h1 hk).1⟩
   ·rcases hrel.grow kk arr hk with ⟨a, ha⟩ | hm'
    ·exact hr.grow kk a ha
    ·exact .inr (mineBack kk hm')
   ·show XR _ (xOf L.x) ex;rw [hx]; exact xOf_XR _ _
   ·refine FrR.fx ?_ _;refine ⟨by rw [hsz, ← c1], fun i u hu => ?_, hdf'⟩;rcases putAll_get hu with h1 | h1
    ·simp only [outPat, List.mem_map] at h1;obtain ⟨p, hp, hpe⟩ := h1;simp only [pme] at hpe;obtain ⟨rfl, rfl⟩ := hpe;obtain ⟨x, hx1, hx2⟩ := hfin p hp;obtain ⟨d, g4, g5⟩ := seeOut_mem p3 q3 p hp;exact ⟨x, hx1, seeA_vr HO _ _ d g4 g5 _ (back p.2 (List.all_eq_true.1 fn3 p hp) x hx2)⟩
    ·obtain ⟨h2, h3⟩ := dropAll_get h1;obtain ⟨x, hx1, hx2⟩ := hfr.ft i u h2;exact ⟨x, by rw [hkept i h3]; exact hx1, hx2.mono hle⟩
  ·cases k
 ·cases k

end Go.Ev
