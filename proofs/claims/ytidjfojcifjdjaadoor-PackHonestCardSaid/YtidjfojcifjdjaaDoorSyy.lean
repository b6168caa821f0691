/- Loops that count: what they leave is what so many rounds make of it. No condition. -/
import Derived.Test.YtidjfojcifjdjaaDoorSyx
namespace Go.Ev
open Go.RowKit

def argsE : List E → E
 | [] => .int 0
 | x :: l => .bi .pair x (argsE l)
def varsE (n : Nat) : List E := (List.range n).map .var
def outE (j nv i : Nat) : E := .bi .sel (.fn j (argsE (varsE nv))) (.int i)

def argD : D → Nat → D
 | .list [x, _], 0 => x
 | .list [_, r], k + 1 => argD r k
 | _, _ => .int 0

theorem argD_args (Ω : Om) : ∀ (l : List E) (i : Nat), argD ((argsE l).den Ω) i = match l[i]? with | some x => x.den Ω | none => .int 0
 | [], i => by simp [argsE, E.den, argD]
 | x :: l, 0 => by simp [argsE, E.den, BO.den, argD]
 | x :: l, i + 1 => by simp only [argsE, E.den, BO.den, argD, argD_args Ω l i, List.getElem?_cons_succ]

mutual
def E.under (n : Nat) : E → Bool
 | .var i => Nat.blt i n
 | .int _ => true
 | .lits _ => true
 | .fn _ _ => false
 | .un _ x => x.under n
 | .bi _ x y => x.under n && y.under n
 | .tr _ x y z => x.under n && y.under n && z.under n
end

theorem den_under {n : Nat} {Ω Ω' : Om} (h : ∀ i, i < n → Ω.d i = Ω'.d i) : ∀ x : E, x.under n = true → x.den Ω = x.den Ω'
 | .var i, k => h i (by simpa [E.under, Nat.blt_eq] using k)
 | .int _, _ => rfl
 | .lits _, _ => rfl
 | .fn _ _, k => by cases k
 | .un o x, k => by simp only [E.den, den_under h x k]
 | .bi o x y, k => by
  simp only [E.under, bae] at k;simp only [E.den, den_under h x k.1, den_under h y k.2]
 | .tr o x y z, k => by
  simp only [E.under, bae] at k;simp only [E.den, den_under h x k.1.1, den_under h y k.1.2, den_under h z k.2]

def fnone : Nat → D → D := fun _ x => x
def truncD (nv : Nat) (d : Nat → D) : Nat → D := fun i => if i < nv then d i else .int 0
def stepD (th : List (Nat × E)) (nv : Nat) (d : Nat → D) : Nat → D := fun i => if i < nv then (lookE th i).den ⟨fun _ => .bool false, d, fnone⟩ else .int 0
def iterD (th : List (Nat × E)) (nv : Nat) : Nat → (Nat → D) → Nat → D
 | 0, d => d
 | k + 1, d => iterD th nv k (stepD th nv d)
def loopF (th : List (Nat × E)) (nv : Nat) (rounds : (Nat → D) → Nat) : D → D := fun a => .list ((List.range nv).map (iterD th nv (rounds (argD a)) (argD a)))

theorem argD_vars (Ω : Om) (nv : Nat) : argD ((argsE (varsE nv)).den Ω) = truncD nv Ω.d := by
 funext i;rw [argD_args];simp only [varsE, List.getElem?_map, truncD];by_cases h : i < nv
 ·simp [h, E.den]
 ·simp [h]

theorem argsE_subst (θ : Nat → E) : ∀ l : List E, (argsE l).subst θ = argsE (l.map (E.subst θ))
 | [] => rfl
 | x :: l => by simp only [argsE, E.subst, argsE_subst θ l, List.map_cons]

theorem argD_sub {Ω : Om} {th : List (Nat × E)} {nv : Nat} (hu : ∀ i, i < nv → (lookE th i).under nv = true) : argD (((argsE (varsE nv)).subst (lookE th)).den Ω) = stepD th nv (truncD nv Ω.d) := by
 funext i;rw [argsE_subst, argD_args];simp only [varsE, List.map_map, List.getElem?_map, stepD];by_cases h : i < nv
 ·simp only [h, if_true, List.getElem?_range h, Option.map_some, Function.comp, E.subst];exact den_under (fun i hi => by simp [truncD, hi]) _ (hu i h)
 ·simp [h]

theorem outE_den {f : Nat → D → D} {Ω : Om} (hΩ : Ω.f = f) {th : List (Nat × E)} {nv j i : Nat} {rounds : (Nat → D) → Nat} (hf : f j = loopF th nv rounds) (hi : i < nv) (a : E) : (E.bi .sel (.fn j a) (.int i)).den Ω = iterD th nv (rounds (argD (a.den Ω))) (argD (a.den Ω)) i := by
 simp only [E.den, BO.den, hΩ, hf, loopF, D.toList_list];have : (D.int (i : Int)).nat = i := by simp [D.nat]
 rw [this];simp [hi]

theorem out_den {f : Nat → D → D} {Ω : Om} (hΩ : Ω.f = f) {th : List (Nat × E)} {nv j i : Nat} {rounds : (Nat → D) → Nat} (hf : f j = loopF th nv rounds) (hi : i < nv) : (outE j nv i).den Ω = iterD th nv (rounds (truncD nv Ω.d)) (truncD nv Ω.d) i := by
 have := outE_den (f := f) hΩ hf hi (argsE (varsE nv));rw [argD_vars] at this;exact this
theorem outSub_den {f : Nat → D → D} {Ω : Om} (hΩ : Ω.f = f) {th : List (Nat × E)} {nv j i : Nat} {rounds : (Nat → D) → Nat} (hf : f j = loopF th nv rounds) (hi : i < nv) (hu : ∀ i, i < nv → (lookE th i).under nv = true) : ((outE j nv i).subst (lookE th)).den Ω = iterD th nv (rounds (stepD th nv (truncD nv Ω.d))) (stepD th nv (truncD nv Ω.d)) i := by
 have := outE_den (f := f) hΩ hf hi ((argsE (varsE nv)).subst (lookE th));rw [argD_sub hu] at this;exact this

def isNext (j nv : Nat) (th : List (Nat × E)) (p : Duty) : Bool :=
 match p.2.2 with
 | .bi .sel (.fn _ _) (.int i) => decide (0 ≤ i) && Nat.blt i.toNat nv && p.2.2.beq (outE j nv i.toNat) && p.2.1.beq ((outE j nv i.toNat).subst (lookE th))
 | _ => false
def isEnd (j nv : Nat) (p : Duty) : Bool :=
 match p.2.1 with
 | .var i => Nat.blt i nv && p.2.2.beq (outE j nv i)
 | _ => false

theorem met_of_den {Ω : Om} {b : Bool} {x y : E} (h : x.den Ω = y.den Ω) : Duty.met Ω (b, x, y) := by
 cases b <;> simp only [Duty.met, E.i, E.s, h]

theorem count_loop {P : Program} (S : Sound P) {g : FuncId} {p : List Nat} {L : LSpec} {f : Nat → D → D} {tab : List LEntry} (htab : TableOK P tab f) {fuel depth : Nat} {th : List (Nat × E)} {nv j : Nat} {rounds : (Nat → D) → Nat} {ρ ρ' : Ren} {N : Nat} {dsN dsE : List Duty} {tabN tabE : List (Q × Bool)}
  (fine : L.fine = true) (hf : f j = loopF th nv rounds) (hu : ((List.range nv).all fun i => (lookE th i).under nv) = true)
  (hN : nextD L th ρ (roundOf P tab fuel depth g p (tellA tabN) L) = some dsN) (okN : dsN.all (isNext j nv th) = true)
  (hE : endD L ρ' N (roundOf P tab fuel depth g p (tellA tabE) L) = some dsE) (okE : dsE.all (isEnd j nv) = true)
  (hr : ∀ d, rounds (truncD nv d) = rounds d)
  (next : ∀ Ω : Om, Ω.f = f → (∀ q ∈ L.pre, q.1.val Ω = q.2) → rounds Ω.d ≠ 0 → (∀ q ∈ tabN, q.1.val Ω = q.2) ∧ (∀ q ∈ L.pre, q.1.val (Ω.sub (lookE th)) = q.2) ∧ rounds (Ω.sub (lookE th)).d + 1 = rounds Ω.d)
  (last : ∀ Ω : Om, Ω.f = f → (∀ q ∈ L.pre, q.1.val Ω = q.2) → rounds Ω.d = 0 → ∀ q ∈ tabE, q.1.val Ω = q.2) : LHolds P (loopAt P g p) L f := by
 have hu' : ∀ i, i < nv → (lookE th i).under nv = true := fun i hi => List.all_eq_true.1 hu i (List.mem_range.2 hi)
 refine loop_rounds (fuel := fuel) (depth := depth) S htab fine rounds fun d hp => ?_
 by_cases h0 : rounds d = 0
 ·refine ⟨tellA tabE, tellA_ok (last ⟨_, d, f⟩ rfl hp h0), .inl ⟨ρ', N, dsE, hE, fun q hq => ?_⟩⟩;have := List.all_eq_true.1 okE q hq;obtain ⟨b, x, y⟩ := q;unfold isEnd at this;simp only at this;split at this
  ·rename_i i;simp only [bae] at this;have hi : i < nv := by simpa [Nat.blt_eq] using this.1
   have hy := E.beq_eq this.2;subst hy;refine met_of_den ?_;rw [out_den (f := f) rfl hf hi];have : rounds (truncD nv d) = 0 := by rw [hr]; exact h0
   show d i = iterD th nv (rounds (truncD nv d)) (truncD nv d) i;rw [this];simp [iterD, truncD, hi]
  ·cases this
 ·obtain ⟨n1, n2, n3⟩ := next ⟨fun _ => .bool false, d, f⟩ rfl hp h0;refine ⟨tellA tabN, tellA_ok n1, .inr ⟨th, ρ, dsN, hN, fun q hq => ?_, n2, by
   show rounds ((⟨fun _ => .bool false, d, f⟩ : Om).sub (lookE th)).d < rounds d;have : rounds (⟨fun _ => .bool false, d, f⟩ : Om).d = rounds d := rfl;omega⟩⟩
  have := List.all_eq_true.1 okN q hq;obtain ⟨b, x, y⟩ := q;unfold isNext at this;simp only at this;split at this
  ·rename_i i _ _;simp only [bae, decide_eq_true_eq] at this;obtain ⟨⟨⟨_, t1⟩, t2⟩, t3⟩ := this;have hi := by simpa [Nat.blt_eq] using t1
   have hy := E.beq_eq t2;have hx := E.beq_eq t3;rw [hy, hx];refine met_of_den ?_;rw [outSub_den (f := f) rfl hf hi hu', out_den (f := f) rfl hf hi];have r1 : rounds (truncD nv d) = rounds (stepD th nv (truncD nv d)) + 1 := by
    have e2 : truncD nv ((⟨fun _ => .bool false, d, f⟩ : Om).sub (lookE th)).d = stepD th nv (truncD nv d) := by
     funext k;by_cases hk : k < nv
     ·simp only [truncD, stepD, hk, if_true, Om.sub];exact den_under (fun i hi => by simp [truncD, hi]) _ (hu' k hk)
     ·simp [truncD, stepD, hk]
    rw [hr, ← e2, hr];exact n3.symm
   show iterD th nv (rounds (stepD th nv (truncD nv d))) (stepD th nv (truncD nv d)) _ = iterD th nv (rounds (truncD nv d)) (truncD nv d) _;rw [r1]; rfl
  ·cases this

theorem i64min : IntKind.i64.min = -9223372036854775808 := rfl
theorem i64max : IntKind.i64.max = 9223372036854775807 := rfl

def Q.holds (Ω : Om) : Q → Bool → Prop
 | .le x y, true => x.i Ω ≤ y.i Ω
 | .le x y, false => ¬ x.i Ω ≤ y.i Ω
 | .eq x y, true => x.i Ω = y.i Ω
 | .eq x y, false => ¬ x.i Ω = y.i Ω
 | .fit k x, true => k.min ≤ x.i Ω ∧ x.i Ω ≤ k.max
 | .fit k x, false => ¬ (k.min ≤ x.i Ω ∧ x.i Ω ≤ k.max)
 | q, b => q.val Ω = b
theorem Q.holds_iff (Ω : Om) (q : Q) (b : Bool) : q.holds Ω b ↔ q.val Ω = b := by
 cases q <;> cases b <;> simp [Q.holds, Q.val]
def allTold (Ω : Om) : List (Q × Bool) → Prop
 | [] => True
 | p :: r => p.1.holds Ω p.2 ∧ allTold Ω r
theorem allTold_iff {Ω : Om} : ∀ {l : List (Q × Bool)}, allTold Ω l ↔ ∀ p ∈ l, p.1.val Ω = p.2
 | [] => by simp [allTold]
 | p :: r => by simp only [allTold, Q.holds_iff, allTold_iff (l := r), List.mem_cons, forall_eq_or_imp]

def countYes (P : Program) (tab : List LEntry) (fuel depth : Nat) (g : FuncId) (p : List Nat) (L : LSpec) (th : List (Nat × E)) (nv j : Nat) (ρ ρ' : Ren) (N : Nat) (tabN tabE : List (Q × Bool)) : Bool :=
 L.fine && ((List.range nv).all fun i => (lookE th i).under nv) &&
 (match nextD L th ρ (roundOf P tab fuel depth g p (tellA tabN) L) with | some ds => ds.all (isNext j nv th) | none => false) &&
 (match endD L ρ' N (roundOf P tab fuel depth g p (tellA tabE) L) with | some ds => ds.all (isEnd j nv) | none => false)

theorem count_loop_yes {P : Program} (S : Sound P) {g : FuncId} {p : List Nat} {L : LSpec} {f : Nat → D → D} {tab : List LEntry} (htab : TableOK P tab f) {fuel depth : Nat} {th : List (Nat × E)} {nv j : Nat} {rounds : (Nat → D) → Nat} {ρ ρ' : Ren} {N : Nat} {tabN tabE : List (Q × Bool)}
  (yes : countYes P tab fuel depth g p L th nv j ρ ρ' N tabN tabE = true) (hf : f j = loopF th nv rounds) (hr : ∀ d, rounds (truncD nv d) = rounds d)
  (next : ∀ Ω : Om, Ω.f = f → (∀ q ∈ L.pre, q.1.val Ω = q.2) → rounds Ω.d ≠ 0 → (∀ q ∈ tabN, q.1.val Ω = q.2) ∧ (∀ q ∈ L.pre, q.1.val (Ω.sub (lookE th)) = q.2) ∧ rounds (Ω.sub (lookE th)).d + 1 = rounds Ω.d)
  (last : ∀ Ω : Om, Ω.f = f → (∀ q ∈ L.pre, q.1.val Ω = q.2) → rounds Ω.d = 0 → ∀ q ∈ tabE, q.1.val Ω = q.2) : LHolds P (loopAt P g p) L f := by
 unfold countYes at yes;simp only [bae] at yes;obtain ⟨⟨⟨y1, y2⟩, y3⟩, y4⟩ := yes;split at y3
 ·rename_i dsN hN;split at y4
  ·rename_i dsE hE;exact count_loop S htab y1 hf y2 hN y3 hE y4 hr next last
  ·cases y4
 ·cases y3

end Go.Ev
