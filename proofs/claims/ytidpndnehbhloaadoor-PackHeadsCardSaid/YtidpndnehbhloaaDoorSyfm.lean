/- Several patterns of one loop, from each of which a round may lead to another one. No condition. -/
import Derived.Test.YtidpndnehbhloaaDoorSyov
set_option linter.unusedSimpArgs false
set_option linter.unusedVariables false
namespace Go.Ev
open Go.RowKit

def namesLM (L M : LSpec) : Ren := idRen (L.rows ++ (L.frows ++ (M.rows ++ M.frows)))
def finP2 (L M : LSpec) (θ : Nat → E) : List (Nat × AV) → List (Nat × AV) → Option (List Duty)
 | [], [] => some []
 | (i, v) :: l, (j, u) :: m => match Nat.beq i j, seeA (namesLM L M) (v.sub θ) u, finP2 L M θ l m with
  | true, some d, some r => some (d ++ r)
  | _, _, _ => none
 | _, _ => none
def finR2 (L M : LSpec) (θ : Nat → E) : List (Nat × RW) → List (Nat × RW) → Option (List Duty)
 | [], [] => some []
 | (i, v) :: l, (j, u) :: m => match Nat.beq i j && v.clear, seeO (namesLM L M) (v.sub θ).obj u, finR2 L M θ l m with
  | true, some d, some r => some (d ++ r)
  | _, _, _ => none
 | _, _ => none
def finSame2 (L M : LSpec) (θ : Nat → E) : Option (List Duty) :=
 match finP2 L M θ M.fin L.fin, finR2 L M θ M.frows L.frows with
 | some l, some m => some (l ++ m)
 | _, _ => none

theorem finP2_mem {L M : LSpec} {θ : Nat → E} {Ω : Om} : ∀ {l m : List (Nat × AV)} {ds : List Duty}, finP2 L M θ l m = some ds → Duties Ω ds → ∀ q ∈ m, ∃ p ∈ l, p.1 = q.1 ∧ ∃ d, seeA (namesLM L M) (p.2.sub θ) q.2 = some d ∧ Duties Ω d
 | [], [], _, _, _, q, hq => by simp at hq
 | [], _ :: _, _, k, _, _, _ => by simp [finP2] at k
 | _ :: _, [], _, k, _, _, _ => by simp [finP2] at k
 | (i, v) :: l, (j, u) :: m, ds, k, hd, q, hq => by
  simp only [finP2] at k;split at k
  ·rename_i d r hb h1 h2;simp only [sme] at k;subst k;obtain ⟨d1, d2⟩ := hd.app;rcases List.mem_cons.1 hq with rfl | hq
   ·exact ⟨(i, v), by simp, beq_t hb, d, h1, d1⟩
   ·obtain ⟨p, hp, h3⟩ := finP2_mem h2 d2 q hq;exact ⟨p, by simp [hp], h3⟩
  ·cases k

theorem finR2_get {L M : LSpec} {θ : Nat → E} {Ω : Om} : ∀ {l m : List (Nat × RW)} {ds : List Duty}, finR2 L M θ l m = some ds → Duties Ω ds → ∀ {i : Nat} {o : AObj}, (rowsT m).get i = some o →
  ∃ r r' : RW, r'.clear = true ∧ o = r.obj ∧ (rowsT l).get i = some r'.obj ∧ ∃ d, seeO (namesLM L M) (r'.sub θ).obj r = some d ∧ Duties Ω d
 | [], [], _, _, _, i, o, h => by simp [rowsT, T.get_nil] at h
 | [], _ :: _, _, k, _, _, _, _ => by simp [finR2] at k
 | _ :: _, [], _, k, _, _, _, _ => by simp [finR2] at k
 | (i, v) :: l, (j, u) :: m, ds, k, hd, p, o, h => by
  simp only [finR2] at k;split at k
  ·rename_i d r hb h1 h2;simp only [bae] at hb;simp only [sme] at k;subst k;obtain ⟨d1, d2⟩ := hd.app;have hij := beq_t hb.1;subst hij;simp only [rowsT, T.get_put] at h ⊢;split at h
   ·rename_i e1;simp only [sme] at h;rw [if_pos e1];exact ⟨u, v, hb.2, h.symm, rfl, d, h1, d1⟩
   ·rename_i e1;rw [if_neg e1];exact finR2_get h2 d2 h
  ·cases k

theorem seeO_same {ρ : Ren} {oi : AObj} {r : RW} {d : List Duty} (h1 : seeO ρ oi r = some d) : oi.own = r.obj.own := by
 cases oi <;> cases r <;> first | rfl | (simp [seeO] at h1; done)

def softV (s : St) : AV → AV
 | .slice i o l c b => match s.rowR i, Nat.ble l c with
  | some r, true => match (match r.at 0 with | some v => (toE v).isSome | none => true) && Nat.ble r.esz 1, o with
   | true, o => .sslice i (.int o) (.int l) (.int c) b
   | false, 0 => .vslice i r.esz (.int 0) (.int l) (.int c) b
   | _, o => .slice i o l c b
  | _, _ => .slice i o l c b
 | v => v
theorem softV_ok {Ω : Om} {w0 : Base} {e : Env} {s : St} {w : World} (h : Rel Ω w0 e s w) {v : AV} {a : Value} (ha : VR e v a) : VR e (softV s v) a := by
 unfold softV;split
 ·rename_i i o l c b;split
  ·rename_i row hrow hlc;have hlc := ble_le hlc;have hb0 := h.base0 hrow;have n1 : ∀ q : Nat, (E.int q).n e.opq = q := fun q => by simp only [E.n, E.den, D.nat, D.toInt_int]; omega
   have i1 : ∀ q : Nat, (E.int q).i e.opq = q := fun q => by simp only [E.i, E.den, D.toInt_int]
   split
   ·simp only [VR] at ha ⊢;obtain ⟨bb, hbb, rfl⟩ := ha;refine ⟨bb, _, hbb, by rw [n1, n1], fun _ => by rw [n1, hb0]; omega, ?_, ?_, ?_⟩
    ·rw [i1]; omega
    ·rw [i1]; omega
    ·rw [i1, i1]; omega
   ·simp only [VR] at ha ⊢;obtain ⟨bb, hbb, rfl⟩ := ha;refine ⟨bb, 0, hbb, by rw [n1, n1], fun _ => by rw [show (E.int 0).n e.opq = 0 from n1 0]; omega, ?_, ?_, ?_⟩
    ·rw [i1]; omega
    ·rw [show (E.int 0).i e.opq = 0 from i1 0]; omega
    ·rw [i1, i1]; omega
   ·exact ha
  ·exact ha
 ·exact ha
def St.softAt (s : St) (id j : Nat) : St := match s.heap.get id with
 | some (.cells b) => match b.at j with
  | some (.slice i o l c q) => s.setRow id (b.set j (softV s (.slice i o l c q)))
  | _ => s
 | _ => s
theorem softAt_ok {Ω : Om} {w0 : Base} {e : Env} {s : St} {w : World} (h : Rel Ω w0 e s w) (id j : Nat) : Rel Ω w0 e (s.softAt id j) w := by
 unfold St.softAt;split
 ·rename_i b hb;split
  ·rename_i i o l c q hat;obtain ⟨k, hk, hm, h0, arr, fz, hr, hR⟩ := h.obj id _ hb;refine h.setRow (b' := b.set j (softV s (.slice i o l c q))) hb hk hr ⟨hR.size, fun x u hu => ?_, hR.frozen, hR.plain, hR.mark, hR.tail⟩ (fun _ _ => rfl) rfl rfl rfl (Nat.le_refl _);rw [AB.at_set] at hu;split at hu
   ·rename_i hx;obtain ⟨rfl, _⟩ := hx;cases hu;obtain ⟨y, hy, hv⟩ := hR.cell _ _ hat;exact ⟨y, hy, softV_ok h hv⟩
   ·exact hR.cell x u hu
  ·exact h
 ·exact h
def softAts (id : Nat) : List Nat → St → St
 | [], s => s
 | j :: l, s => softAts id l (s.softAt id j)
theorem softAts_ok {Ω : Om} {w0 : Base} {e : Env} {w : World} (id : Nat) : ∀ (l : List Nat) {s : St}, Rel Ω w0 e s w → Rel Ω w0 e (softAts id l s) w
 | [], _, h => h
 | j :: l, _, h => softAts_ok id l (softAt_ok h id j)
def softS : List Nat → St → St
 | [], s => s
 | id :: l, s => softS l (softAts id [0, 1, 2, 3, 4, 5, 6, 7, 8, 9, 10, 11, 12, 13, 14, 15, 16, 17, 18, 19, 20, 21, 22, 23, 24, 25, 26, 27, 28, 29, 30, 31, 32, 33, 34, 35, 36, 37, 38, 39] s)
theorem softS_ok {Ω : Om} {w0 : Base} {e : Env} {w : World} : ∀ (l : List Nat) {s : St}, Rel Ω w0 e s w → Rel Ω w0 e (softS l s) w
 | [], _, h => h
 | id :: l, _, h => softS_ok l (softAts_ok id _ h)

structure LNextJ (L M : LSpec) (Ω : Om) (fr1 : Fr) (s1 : St) (ρ : Ren) (θ : Nat → E) : Prop where
 n : fr1.n = L.n
 m : M.n = L.n
 x : M.x = L.x
 chg : ∀ {i}, isNum i M.chg = isNum i L.chg
 smM : M.same = L.same
 df : fr1.defers = []
 kept : keptB fr1.t L.chg L.n = true
 pat : ∃ ds, seePat ρ fr1.t (patSub θ M.pat) = some ds ∧ Duties Ω ds
 rows : ∃ ds, seeRows ρ (softS M.same s1) (RW.subs θ M.rows) = some ds ∧ Duties Ω ds
 keys : keysUnder ρ M.next = true
 ren : renB ρ = true
 same : sameB L ρ = true
 pre : ∀ p ∈ M.pre, p.1.val (Ω.sub θ) = p.2
 fin : ∃ ds, finSame2 L M θ = some ds ∧ Duties Ω ds

theorem loop_fam {P : Program} (S : Sound P) {b : Code} {Ls : Nat → LSpec} {K : Nat} {f : Nat → D → D} (fineK : ∀ i, i < K → (Ls i).fine = true)
  (μ : Nat → (Nat → D) → Nat)
  (step : ∀ i, i < K → ∀ d, (∀ p ∈ (Ls i).pre, p.1.val ⟨fun _ => .bool false, d, f⟩ = p.2) → LFacts (Ls i) ⟨fun _ => .bool false, d, f⟩ → ∃ (A : Ask) (fuel : Nat) (Lp : Loops) (call : Caller) (rnd : Rounder), AskOK ⟨fun _ => .bool false, d, f⟩ A ∧ (∀ (v : Nat → Value) (B : Base), LoopsOK P ⟨v, d, f⟩ B b Lp) ∧ (∀ (v : Nat → Value) (B : Base), CallOK P ⟨v, d, f⟩ B call) ∧ (∀ (v : Nat → Value) (B : Base), RoundOK P ⟨v, d, f⟩ B rnd) ∧
   ((∃ fr1 s1 ρ N, execR P ⟨none, A⟩ Lp call rnd fuel [] b (Ls i).fr (Ls i).st = some (xOf (Ls i).x, fr1, s1) ∧ LEnd (Ls i) ⟨fun _ => .bool false, d, f⟩ fr1 s1 ρ N) ∨
    (∃ j fr1 s1 ρ θ, j < K ∧ execR P ⟨none, A⟩ Lp call rnd fuel [] b (Ls i).fr (Ls i).st = some (.normal, fr1, s1) ∧ LNextJ (Ls i) (Ls j) ⟨fun _ => .bool false, d, f⟩ fr1 s1 ρ θ ∧ μ j (fun q => (θ q).den ⟨fun _ => .bool false, d, f⟩) < μ i d))) : ∀ i, i < K → LHolds P b (Ls i) f := by
 have fineJ : ∀ i, i < K → ((∀ p ∈ (Ls i).pat, isNum p.1 (Ls i).chg = true ∧ p.2.clear = true ∧ p.1 < (Ls i).n) ∧ (∀ p ∈ (Ls i).rows, p.2.clear = true) ∧ (∀ p ∈ (Ls i).fin, p.2.clear = true) ∧ (∀ p ∈ (Ls i).frows, p.2.clear = true)) := by
  intro i hi;have fine' := fineK i hi;simp only [LSpec.fine, bae] at fine';obtain ⟨⟨⟨fn1, fn2⟩, fn3⟩, fn4⟩ := fine';refine ⟨fun p hp => ?_, fun p hp => List.all_eq_true.1 fn2 p hp, fun p hp => List.all_eq_true.1 fn3 p hp, fun p hp => List.all_eq_true.1 fn4 p hp⟩;have := List.all_eq_true.1 fn1 p hp;simp only [bae, Nat.blt_eq] at this;exact ⟨this.1.1, this.1.2, this.2⟩
 have main : ∀ (k : Nat) (i : Nat), i < K → ∀ (d : Nat → D), μ i d = k → (∀ p ∈ (Ls i).pre, p.1.val ⟨fun _ => .bool false, d, f⟩ = p.2) → ∃ m, ∀ (v : Nat → Value) (B : Base) (e : Env) (a : Act) (w : World), Rel ⟨v, d, f⟩ B e (Ls i).st w → FrR e (Ls i).fr a →
   ∀ Q : Exit → Act → World → Prop, (∀ ex a' w' e', LPost (Ls i) ⟨v, d, f⟩ B e a ex a' w' e' → Q ex a' w') → Code.rounds P b Q m a w := by
  intro k;induction k using Nat.strongRecOn with
  | _ k ih =>
   intro li hli d hk hpre;obtain ⟨patC, _, clearFin, clearF⟩ := fineJ li hli;generalize hL : Ls li = L at *;by_cases hfc : LFacts L ⟨fun _ => .bool false, d, f⟩
   rotate_left
   ·exact ⟨0, fun v B e a w hr hf Q H => (hfc (lfacts_of hr hf)).elim⟩
   obtain ⟨A, fuel, Lp, call, rnd, hA0, hLp, hc, hRR, hstep⟩ := step li hli d (by rw [hL]; exact hpre) (by rw [hL]; exact hfc);rw [hL] at hstep;have dutiesV : ∀ (v : Nat → Value) (ds : List Duty), Duties ⟨fun _ => .bool false, d, f⟩ ds → Duties ⟨v, d, f⟩ ds := by
    intro v ds h p hp;have := h p hp;obtain ⟨bb, x, y⟩ := p;cases bb <;> simp only [Duty.met, E.i, E.s, den_newV v (fun _ => .bool false) d f] <;> exact this
   have hA : ∀ v : Nat → Value, AskOK ⟨v, d, f⟩ A := fun v q bb hq => (val_same (Ω := ⟨fun _ => .bool false, d, f⟩) (Ω' := ⟨v, d, f⟩) rfl rfl q).trans (hA0 q bb hq)
   have hF : ∀ (v : Nat → Value) (B : Base), FactsOK P ⟨v, d, f⟩ B ⟨none, A⟩ := fun v B => { op := fun _ h => (by cases h), ask := hA v }
   rcases hstep with ⟨fr1, s1, ρ, N, hex, hend⟩ | ⟨lj, fr1, s1, ρ, θ, hlj, hex, hnext, hlt⟩
   ·refine ⟨1, fun v B e a w hr hf Q H => ?_⟩;rw [rounds_succ];refine wp_mono ((execR_ok S (hc v B) (hRR v B) (hF v B) (hLp v B) fuel).1 [] b _ _ _ _ _ rfl hex e a w hr hf) fun ex a1 w1 ⟨e1, g1, g2, g3, g4⟩ => ?_
    have hx := XR_xOf g3;subst hx;have g4 : FrR e1 fr1 a1 := FX_xOf g4;have H1 := Env.pull_ok e1 ρ;obtain ⟨nd, od⟩ := renB_split hend.ren;obtain ⟨ds1, hp1, hp2⟩ := hend.fin;obtain ⟨ds2, hp3, hp4⟩ := hend.rows;have ho1 : e1.opq = ⟨v, d, f⟩ := g2.opq;suffices hQ : Q (exOf L.x) a1 w1 by
     revert hQ;unfold exOf;split <;> exact id
    refine H _ a1 w1 (e1.pull ρ) ⟨⟨N, g2.see hp3 (dutiesV v _ hp4) hend.keys nd od⟩, rfl, by rw [g4.size, hend.n], ?_, seePat_ok H1 g4.ft hp1 (by rw [ho1]; exact dutiesV v _ hp2), fun i hi => ?_, same_loc hend.same hr g1, pull_even g1 ρ⟩
    ·have := g4.df;rw [hend.df] at this;exact this
    ·rcases Nat.lt_or_ge i L.n with hin | hin
     ·have hk1 := keptB_ok hend.kept i hin hi;obtain ⟨x, hx1, hx2⟩ := g4.ft i _ hk1;have hk0 : L.fr.t.get i = some (.keep i) := by
       have : ∀ (l : List (Nat × AV)) (t : T AV), (∀ p ∈ l, p.1 ≠ i) → t.get i = some (.keep i) → (putAll t l).get i = some (.keep i) := by
        intro l;induction l with
        | nil => intro t _ h; exact h
        | cons q l ih2 =>
         intro t hq h;exact ih2 _ (fun p hp => hq p (List.mem_cons_of_mem _ hp)) (by rw [T.get_put, if_neg (Ne.symm (hq q (by simp)))]; exact h)
       refine this L.pat (keepT L.n) (fun p hp hpi => ?_) ?_
       ·have := (patC p hp).1;rw [hpi, hi] at this; cases this
       ·simp only [keepT, T.get_putL];simp [hin]
      obtain ⟨y, hy1, hy2⟩ := hf.ft i _ hk0;simp only [VR] at hx2 hy2;rw [hx1, hy1, hx2, hy2, ho1, hr.opq]
     ·rw [Array.getElem?_eq_none (by rw [g4.size, hend.n]; exact hin), Array.getElem?_eq_none (by rw [hf.size]; exact hin)]
   ·obtain ⟨m, hm⟩ := ih (μ lj fun i => (θ i).den ⟨fun _ => .bool false, d, f⟩) (by omega) lj hlj (fun i => (θ i).den ⟨fun _ => .bool false, d, f⟩) rfl (fun p hp => hnext.pre p hp);obtain ⟨patM, clearM, finM, frM⟩ := fineJ lj hlj;generalize hM : Ls lj = M at *;refine ⟨m + 1, fun v B e a w hr hf Q H => ?_⟩;rw [rounds_succ];refine wp_mono ((execR_ok S (hc v B) (hRR v B) (hF v B) (hLp v B) fuel).1 [] b _ _ _ _ _ rfl hex e a w hr hf) fun ex a1 w1 ⟨e1, g1, g2, g3, g4⟩ => ?_
    obtain ⟨e0, hx⟩ : ∃ u : Unit, ex = .normal := by
     cases ex <;> first
      | exact g3.elim
      | exact ⟨(), rfl⟩
    subst hx;have g4 : FrR e1 fr1 a1 := g4;have H1 := Env.pull_ok e1 ρ;obtain ⟨nd, od⟩ := renB_split hnext.ren;obtain ⟨ds1, hp1, hp2⟩ := hnext.pat;obtain ⟨ds2, hp3, hp4⟩ := hnext.rows;obtain ⟨ds3, hp5, hp6⟩ := hnext.fin;have ho1 : e1.opq = ⟨v, d, f⟩ := g2.opq;let d1 : Nat → D := fun i => (θ i).den ⟨fun _ => .bool false, d, f⟩
    let v1 : Nat → Value := fun i => (a1.tmps[i]?).getD (.bool false)
    have hd1 : ((⟨v, d, f⟩ : Om).sub θ).d = d1 := by
     funext i;exact den_newV _ _ _ _ _
    have g2 := softS_ok M.same g2;have rel1 := (g2.see hp3 (dutiesV v _ hp4) hnext.keys nd od).subst
    -- values that are not looked into are those that are there now
    have rel2 : Rel ⟨v1, d1, f⟩ B ((e1.pull ρ).at ⟨v1, d1, f⟩) M.st w1 := by
     refine ⟨rfl, rel1.below, rel1.fresh, rel1.inj, fun i o ho => ?_, rel1.pool, rel1.apart, rel1.grow, rel1.hold⟩;obtain ⟨r, hr1, hr2⟩ := rowsT_mem ho;obtain ⟨kk, h1, h2⟩ := rel1.obj i o ho;subst hr2;have hcl := clearM _ hr1;exact ⟨kk, h1, ObjR.newV (e := (e1.pull ρ).at ((⟨v, d, f⟩ : Om).sub θ)) (Ω := ⟨v1, d1, f⟩) (by show d1 = _; rw [← hd1]; rfl) rfl hcl h2⟩
    have fr2 : FrR ((e1.pull ρ).at ⟨v1, d1, f⟩) M.fr a1 := by
     refine ⟨by rw [g4.size, hnext.n]; exact hnext.m.symm, fun i u hu => ?_, ?_⟩
     ·rcases putAll_get hu with hin | hkp
      ·have hmem : (i, u.sub θ) ∈ patSub θ M.pat := List.mem_map.2 ⟨(i, u), hin, rfl⟩;obtain ⟨x, hx1, hx2⟩ := seePat_ok H1 g4.ft hp1 (by rw [ho1]; exact dutiesV v _ hp2) _ hmem;refine ⟨x, hx1, ?_⟩;have hx3 := (VR.sub u x).1 hx2;have ho2 : (e1.pull ρ).opq = ⟨v, d, f⟩ := ho1;rw [ho2] at hx3;exact VR.newV (e := (e1.pull ρ).at ((⟨v, d, f⟩ : Om).sub θ)) (Ω := ⟨v1, d1, f⟩) (by show d1 = _; rw [← hd1]; rfl) rfl u (patM _ hin).2.1 hx3
      ·obtain ⟨hin, rfl⟩ := keepT_get hkp;have hsz : i < a1.tmps.size := by rw [g4.size, hnext.n, ← hnext.m]; exact hin
       refine ⟨a1.tmps[i], by simp [hsz], ?_⟩;simp only [VR];show a1.tmps[i] = v1 i;simp [v1, hsz]
     ·have := g4.df;rw [hnext.df] at this;exact this
    show Code.rounds P b Q m a1 w1;refine hm v1 B _ a1 w1 rel2 fr2 Q fun ex' a' w' e' hpost => H ex' a' w' (e'.at ⟨v, d, f⟩) ?_
    obtain ⟨⟨N, hrel⟩, hx, hsz, hdf, hfin, hkept, hsame, heven⟩ := hpost;have ho3 : e'.opq = ⟨v1, d1, f⟩ := hrel.opq;unfold finSame2 at hp5;split at hp5
    ·rename_i l5 m5 hl5 hm5;simp only [sme] at hp5;subst hp5;obtain ⟨du1, du2⟩ := hp6.app;have backE : ∀ x : Value, ∀ u u' : AV, u.clear = true → ∀ ds, seeA (namesLM L M) (u.sub θ) u' = some ds → Duties ⟨fun _ => .bool false, d, f⟩ ds → VR e' u x → VR (e'.at ⟨v, d, f⟩) u' x := by
      intro x u u' hcu ds hs hdu hv;have s1 := VR.newV (e := e') (Ω := (⟨v, d, f⟩ : Om).sub θ) (by rw [ho3]; exact hd1) (by rw [ho3]; rfl) u hcu hv;have s2 : VR (e'.at ⟨v, d, f⟩) (u.sub θ) x := (VR.sub (e := e'.at ⟨v, d, f⟩) u x).2 s1;exact seeA_vr (idRen_ok _ _) _ _ ds hs (dutiesV v _ hdu) _ s2
     refine ⟨⟨N, ?_⟩, by rw [hx, hnext.x], by rw [hsz, hnext.m], hdf, fun q hq => ?_, fun i hi => ?_, fun i hi => ?_, fun g => ⟨(heven g).1.trans (pull_even g1 ρ g).1, (heven g).2.trans (pull_even g1 ρ g).2⟩⟩
     ·have key : ∀ i o, (rowsT L.frows).get i = some o → ∃ oM, (rowsT M.frows).get i = some oM ∧ o.own = oM.own ∧ ∀ kk, ObjR B e' i kk w' oM → ObjR B (e'.at ⟨v, d, f⟩) i kk w' o := by
       intro i o ho;obtain ⟨r, r', hr1, hr2, hr3, ds, hs, hdu⟩ := finR2_get hm5 du2 ho;subst hr2;refine ⟨r'.obj, hr3, ?_, fun kk h2 => ?_⟩
       ·rw [← seeO_same hs];cases r' <;> rfl
       ·obtain ⟨r0, hr0, he0⟩ := rowsT_mem hr3;have hcl : r'.clear = true := hr1;have s1 := ObjR.newV (e := e') (Ω := (⟨v, d, f⟩ : Om).sub θ) (by rw [ho3]; exact hd1) (by rw [ho3]; rfl) hcl h2;have s2 : ObjR B (e'.at ⟨v, d, f⟩) i kk w' (r'.sub θ).obj := (RW.sub_ok (e := e'.at ⟨v, d, f⟩)).2 s1;exact seeO_ok (idRen_ok _ _) hs (dutiesV v _ hdu) rfl rfl s2
      refine ⟨rfl, hrel.below, hrel.fresh, fun i j o o' bb hi hj oi oj li lj => ?_, fun i o ho => ?_, hrel.pool, fun i o kk hi oo li => ?_, hrel.grow, hrel.hold⟩
      ·obtain ⟨oM, h1, h2, _⟩ := key i o hi;obtain ⟨oM', h1', h2', _⟩ := key j o' hj;exact hrel.inj i j oM oM' bb h1 h1' (by rw [← h2]; exact oi) (by rw [← h2']; exact oj) li lj
      ·obtain ⟨oM, h1, _, h3⟩ := key i o ho;obtain ⟨kk, g1, g2⟩ := hrel.obj i oM h1;exact ⟨kk, g1, h3 kk g2⟩
      ·obtain ⟨oM, h1, h2, _⟩ := key i o hi;exact hrel.apart i oM kk h1 (by rw [← h2]; exact oo) li
     ·obtain ⟨p, hp, hpk, ds, hs, hdu⟩ := finP2_mem hl5 du1 q hq;obtain ⟨x, hx1, hx2⟩ := hfin p hp;exact ⟨x, by rw [← hpk]; exact hx1, backE x p.2 q.2 (finM p hp) ds hs hdu hx2⟩
     ·rw [hkept i (by rw [hnext.chg]; exact hi)];rcases Nat.lt_or_ge i L.n with hin | hin
      ·have hk1 := keptB_ok hnext.kept i hin hi;obtain ⟨x, hx1, hx2⟩ := g4.ft i _ hk1;have hk0 : L.fr.t.get i = some (.keep i) := by
        have : ∀ (l : List (Nat × AV)) (t : T AV), (∀ p ∈ l, p.1 ≠ i) → t.get i = some (.keep i) → (putAll t l).get i = some (.keep i) := by
         intro l;induction l with
         | nil => intro t _ h; exact h
         | cons q l ih2 =>
          intro t hq h;exact ih2 _ (fun p hp => hq p (List.mem_cons_of_mem _ hp)) (by rw [T.get_put, if_neg (Ne.symm (hq q (by simp)))]; exact h)
        refine this L.pat (keepT L.n) (fun p hp hpi => ?_) ?_
        ·have := (patC p hp).1;rw [hpi, hi] at this; cases this
        ·simp only [keepT, T.get_putL];simp [hin]
       obtain ⟨y, hy1, hy2⟩ := hf.ft i _ hk0;simp only [VR] at hx2 hy2;rw [hx1, hy1, hx2, hy2, ho1, hr.opq]
      ·rw [Array.getElem?_eq_none (by rw [g4.size, hnext.n]; exact hin), Array.getElem?_eq_none (by rw [hf.size]; exact hin)]
     ·obtain ⟨h1, h2, h3⟩ := hsame i (by rw [hnext.smM]; exact hi);obtain ⟨q1, q2, q3⟩ := same_loc hnext.same hr g1 i hi;exact ⟨h1.trans q1, h2.trans q2, h3.trans q3⟩
    ·cases hp5
 intro i hi d hpre;exact main (μ i d) i hi d rfl hpre

def nextJ (L M : LSpec) (th : List (Nat × E)) (ρ : Ren) : Option (X × Fr × St) → Option (List Duty)
 | some (.normal, fr1, s1) => match Nat.beq fr1.n L.n && Nat.beq M.n L.n && Nat.beq M.x L.x && samePath M.chg L.chg && samePath M.same L.same && (match fr1.defers with | [] => true | _ => false) && keptB fr1.t L.chg L.n && keysUnder ρ M.next && renB ρ && sameB L ρ with
  | true => match seePat ρ fr1.t (patSub (lookE th) M.pat), seeRows ρ (softS M.same s1) (RW.subs (lookE th) M.rows), finSame2 L M (lookE th) with
   | some a, some b, some c => some (a ++ (b ++ c))
   | _, _, _ => none
  | false => none
 | _ => none

theorem nextJ_ok {L M : LSpec} {th : List (Nat × E)} {ρ : Ren} {r : Option (X × Fr × St)} {ds : List Duty} (h : nextJ L M th ρ r = some ds) {Ω : Om} (hd : Duties Ω ds) (hp : ∀ p ∈ M.pre, p.1.val (Ω.sub (lookE th)) = p.2) : ∃ fr1 s1, r = some (.normal, fr1, s1) ∧ LNextJ L M Ω fr1 s1 ρ (lookE th) := by
 unfold nextJ at h;split at h
 ·rename_i fr1 s1;split at h
  ·rename_i hc;simp only [bae] at hc;obtain ⟨⟨⟨⟨⟨⟨⟨⟨⟨c1, m1⟩, m2⟩, m3⟩, m4⟩, c2⟩, c3⟩, c4⟩, c5⟩, c6⟩ := hc;split at h
   ·rename_i a b c ha hb hcc;simp only [sme] at h;subst h;obtain ⟨d1, d2⟩ := hd.app;obtain ⟨d2, d3⟩ := d2.app;refine ⟨fr1, s1, rfl, ⟨beq_t c1, beq_t m1, beq_t m2, by intro i; rw [samePath_eq m3], samePath_eq m4, ?_, c3, ⟨a, ha, d1⟩, ⟨b, hb, d2⟩, c4, c5, c6, hp, ⟨c, hcc, d3⟩⟩⟩;cases hd : fr1.defers with
    | nil => rfl
    | cons x l => rw [hd] at c2; cases c2
   ·cases h
  ·cases h
 ·cases h

theorem loop_famC {P : Program} (S : Sound P) {g : FuncId} {p : List Nat} {Ls : Nat → LSpec} {K : Nat} {f : Nat → D → D} {tab : List LEntry} (htab : TableOK P tab f) {cs : List (FuncId × CSpec)} (hcs : SpecsOK P cs f) {ov : Overs} (hov : OversOK P ov f) {fuel depth : Nat} (fine : ((List.range K).all fun i => (Ls i).fine && distinctB ((Ls i).rows.map (·.1)) && distinctB ((Ls i).pat.map (·.1))) = true) (μ : Nat → (Nat → D) → Nat)
  (step : ∀ i, i < K → ∀ d, (∀ q ∈ (Ls i).pre, q.1.val ⟨fun _ => .bool false, d, f⟩ = q.2) → factsR ⟨fun _ => .bool false, d, f⟩ (Ls i).rows → factsP ⟨fun _ => .bool false, d, f⟩ (Ls i).pat → ∃ A, AskOK ⟨fun _ => .bool false, d, f⟩ A ∧
   ((∃ ρ N ds, endD (Ls i) ρ N (roundC P tab cs ov fuel depth g p A (Ls i)) = some ds ∧ Duties ⟨fun _ => .bool false, d, f⟩ ds) ∨
    (∃ j th ρ ds, j < K ∧ nextJ (Ls i) (Ls j) th ρ (roundC P tab cs ov fuel depth g p A (Ls i)) = some ds ∧ Duties ⟨fun _ => .bool false, d, f⟩ ds ∧ (∀ q ∈ (Ls j).pre, q.1.val ((⟨fun _ => .bool false, d, f⟩ : Om).sub (lookE th)) = q.2) ∧ μ j (fun i => (lookE th i).den ⟨fun _ => .bool false, d, f⟩) < μ i d))) :
  ∀ i, i < K → LHolds P (loopAt P g p) (Ls i) f := by
 have fineI : ∀ i, i < K → (Ls i).fine = true ∧ distinctB ((Ls i).rows.map (·.1)) = true ∧ distinctB ((Ls i).pat.map (·.1)) = true := fun i hi => by
  have := List.all_eq_true.1 fine i (List.mem_range.2 hi);simp only [bae] at this;exact ⟨this.1.1, this.1.2, this.2⟩
 refine loop_fam S (fun i hi => (fineI i hi).1) μ fun i hi d hp hfc => ?_
 obtain ⟨hfr, hfp⟩ := hfc (distinctB_nodup (fineI i hi).2.1) (distinctB_nodup (fineI i hi).2.2);obtain ⟨A, hA, h⟩ := step i hi d hp hfr hfp;have hAv : ∀ v : Nat → Value, AskOK ⟨v, d, f⟩ A := fun v q bb hq => (val_same (Ω := ⟨fun _ => .bool false, d, f⟩) (Ω' := ⟨v, d, f⟩) rfl rfl q).trans (hA q bb hq)
 refine ⟨A, fuel, fun q => loopsOf tab A g (q ++ 5 :: p), (duoN P (knownV A tab cs ov) fuel depth).1, (duoN P (knownV A tab cs ov) fuel depth).2, hA, fun v B => ?_, fun v B => (duoN_ok S (knownV_ok htab hcs hov rfl (hAv v)) fuel depth).1, fun v B => (duoN_ok S (knownV_ok htab hcs hov rfl (hAv v)) fuel depth).2, ?_⟩
 ·intro q b' fr s x fr' s' hq k;unfold loopAt at hq;split at hq
  ·rename_i fn hfn;split at hq
   ·rename_i root hroot;split at hq
    ·rename_i b hb;have h5 : codeAt root (5 :: p) = some b := by simp [codeAt, hb, Code.child]
     exact loopsOf_ok htab (Ω := ⟨v, d, f⟩) rfl (hAv v) g fn root hfn hroot (q ++ 5 :: p) b' fr s x fr' s' (by rw [codeAt_app root (5 :: p) q h5]; exact hq) k
    ·exact (skip_not _ _ hq).elim
   ·exact (skip_not _ _ hq).elim
  ·exact (skip_not _ _ hq).elim
 ·rcases h with ⟨ρ, N, ds, h1, h2⟩ | ⟨j, th, ρ, ds, hj, h1, h2, h3, h4⟩
  ·obtain ⟨fr1, s1, e1, e2⟩ := endD_ok h1 h2;exact .inl ⟨fr1, s1, ρ, N, e1, e2⟩
  ·obtain ⟨fr1, s1, e1, e2⟩ := nextJ_ok h1 h2 h3;exact .inr ⟨j, fr1, s1, ρ, lookE th, hj, e1, e2, h4⟩

end Go.Ev
