/- Rounds of a loop, gone through by program; tables of loops that are known. No condition. -/
import Derived.Test.YtidpndnehbhloaaDoorSyw
namespace Go.Ev
open Go.RowKit

def loopAt (P : Program) (g : FuncId) (p : List Nat) : Code :=
 match P.funcs[g]? with
 | some fn => match fn.body with
  | some root => match codeAt root p with
   | some (.loop b) => b
   | _ => .skip
  | none => .skip
 | none => .skip

def nextD (L : LSpec) (th : List (Nat × E)) (ρ : Ren) : Option (X × Fr × St) → Option (List Duty)
 | some (.normal, fr1, s1) => match Nat.beq fr1.n L.n && (match fr1.defers with | [] => true | _ => false) && keptB fr1.t L.chg L.n && keysUnder ρ L.next && renB ρ && sameB L ρ with
  | true => match seePat ρ fr1.t (patSub (lookE th) L.pat), seeRows ρ s1 (RW.subs (lookE th) L.rows), L.finSame (lookE th) with
   | some a, some b, some c => some (a ++ (b ++ c))
   | _, _, _ => none
  | false => none
 | _ => none

theorem nextD_ok {L : LSpec} {th : List (Nat × E)} {ρ : Ren} {r : Option (X × Fr × St)} {ds : List Duty} (h : nextD L th ρ r = some ds) {Ω : Om} (hd : Duties Ω ds) (hp : ∀ p ∈ L.pre, p.1.val (Ω.sub (lookE th)) = p.2) : ∃ fr1 s1, r = some (.normal, fr1, s1) ∧ LNext L Ω fr1 s1 ρ (lookE th) := by
 unfold nextD at h;split at h
 ·rename_i fr1 s1;split at h
  ·rename_i hc;simp only [bae] at hc;obtain ⟨⟨⟨⟨⟨c1, c2⟩, c3⟩, c4⟩, c5⟩, c6⟩ := hc;split at h
   ·rename_i a b c ha hb hcc;simp only [sme] at h;subst h;obtain ⟨d1, d2⟩ := hd.app;obtain ⟨d2, d3⟩ := d2.app;refine ⟨fr1, s1, rfl, ⟨beq_t c1, ?_, c3, ⟨a, ha, d1⟩, ⟨b, hb, d2⟩, c4, c5, c6, hp, ⟨c, hcc, d3⟩⟩⟩;cases hd : fr1.defers with
    | nil => rfl
    | cons x l => rw [hd] at c2; cases c2
   ·cases h
  ·cases h
 ·cases h

def isX (n : Nat) : X → Bool
 | .exit i => Nat.beq i n && !Nat.beq n 999999
 | .ret => Nat.beq n 999999
 | _ => false
theorem isX_eq {n : Nat} {x : X} (h : isX n x = true) : x = xOf n := by
 unfold xOf;cases x <;> simp only [isX, Bool.false_eq_true, bae, Bool.not_eq_true'] at h
 ·rw [h.2, beq_t h.1]
 ·rw [h]

def endD (L : LSpec) (ρ : Ren) (N : Nat) : Option (X × Fr × St) → Option (List Duty)
 | some (x, fr1, s1) => match isX L.x x && Nat.beq fr1.n L.n && (match fr1.defers with | [] => true | _ => false) && keptB fr1.t L.chg L.n && keysUnder ρ N && renB ρ && sameB L ρ with
  | true => match seePat ρ fr1.t L.fin, seeRows ρ s1 L.frows with
   | some a, some b => some (a ++ b)
   | _, _ => none
  | false => none
 | _ => none

theorem endD_ok {L : LSpec} {ρ : Ren} {N : Nat} {r : Option (X × Fr × St)} {ds : List Duty} (h : endD L ρ N r = some ds) {Ω : Om} (hd : Duties Ω ds) : ∃ fr1 s1, r = some (xOf L.x, fr1, s1) ∧ LEnd L Ω fr1 s1 ρ N := by
 unfold endD at h;split at h
 ·rename_i i fr1 s1;split at h
  ·rename_i hc;simp only [bae] at hc;obtain ⟨⟨⟨⟨⟨⟨c0, c1⟩, c2⟩, c3⟩, c4⟩, c5⟩, c6⟩ := hc;split at h
   ·rename_i a b ha hb;simp only [sme] at h;subst h;obtain ⟨d1, d2⟩ := hd.app;refine ⟨fr1, s1, by rw [isX_eq c0], ⟨beq_t c1, ?_, c3, ⟨a, ha, d1⟩, ⟨b, hb, d2⟩, c4, c5, c6⟩⟩;cases hd : fr1.defers with
    | nil => rfl
    | cons x l => rw [hd] at c2; cases c2
   ·cases h
  ·cases h
 ·cases h

def samePath : List Nat → List Nat → Bool
 | [], [] => true
 | a :: l, b :: m => Nat.beq a b && samePath l m
 | _, _ => false
theorem samePath_eq : ∀ {l m : List Nat}, samePath l m = true → l = m
 | [], [], _ => rfl
 | [], _ :: _, h => by simp [samePath] at h
 | _ :: _, [], h => by simp [samePath] at h
 | a :: l, b :: m, h => by
  simp only [samePath, bae] at h;rw [beq_t h.1, samePath_eq h.2]

structure LEntry where
 g : FuncId
 p : List Nat
 L : LSpec

def loopsOf (l : List LEntry) (A : Ask) (g : FuncId) : Loops := fun p fr s => pick l p fr s
where
 pick : List LEntry → List Nat → Fr → St → Option (X × Fr × St)
  | [], _, _, _ => none
  | e :: r, p, fr, s => match Nat.beq e.g g && samePath e.p p with
   | true => match e.L.use A fr s with
    | some x => some x
    | none => pick r p fr s
   | false => pick r p fr s

def TableOK (P : Program) (l : List LEntry) (f : Nat → D → D) : Prop := ∀ e ∈ l, LHolds P (loopAt P e.g e.p) e.L f

theorem loopsOf_ok {P : Program} {l : List LEntry} {f : Nat → D → D} (h : TableOK P l f) {Ω : Om} (hf : Ω.f = f) {w0 : Base} {A : Ask} (hA : AskOK Ω A) (g : FuncId) (fn : Func) (c : Code) (hg : P.funcs[g]? = some fn) (hc : fn.body = some c) : LoopsOK P Ω w0 c (loopsOf l A g) := by
 intro p b fr s x fr' s' hp k;unfold loopsOf at k;have key : ∀ r : List LEntry, (∀ e ∈ r, e ∈ l) → loopsOf.pick A g r p fr s = some (x, fr', s') → ∃ e ∈ l, e.g = g ∧ e.p = p ∧ e.L.use A fr s = some (x, fr', s') := by
  intro r;induction r with
  | nil => intro _ k; cases k
  | cons e r ih =>
   intro hr k;simp only [loopsOf.pick] at k;split at k
   ·rename_i hb;simp only [bae] at hb;split at k
    ·rename_i x hx;simp only [sme] at k;subst k;exact ⟨e, hr e (by simp), beq_t hb.1, samePath_eq hb.2, hx⟩
    ·exact ih (fun e he => hr e (by simp [he])) k
   ·exact ih (fun e he => hr e (by simp [he])) k
 obtain ⟨e, he, h1, h2, h3⟩ := key l (fun _ h => h) k;subst h1 h2;have hH := h e he;have : loopAt P e.g e.p = b := by simp [loopAt, hg, hc, hp]
 rw [this] at hH;exact use_ok hH hf hA h3

def knownOf (A : Ask) (l : List LEntry) (base : Caller) : Known := ⟨⟨none, A⟩, loopsOf l A, base⟩
theorem knownOf_ok {P : Program} {l : List LEntry} {f : Nat → D → D} (h : TableOK P l f) {Ω : Om} (hf : Ω.f = f) {w0 : Base} {A : Ask} (hA : AskOK Ω A) {base : Caller} (hb : CallOK P Ω w0 base) : KnownOK P Ω w0 (knownOf A l base) :=
 ⟨{ op := fun _ h => (by cases h), ask := hA }, fun g fn c hg hc => loopsOf_ok h hf hA g fn c hg hc, hb⟩

theorem skip_not : ∀ q : List Nat, ∀ b, codeAt .skip q ≠ some (.loop b)
 | [], b, h => by simp [codeAt] at h
 | d :: q, b, h => by
  simp only [codeAt, Option.bind_eq_some_iff] at h;obtain ⟨c, h1, h2⟩ := h;have : ∀ q : List Nat, ∀ c, codeAt .skip q = some c → c = .skip := by
   intro q;induction q with
   | nil => intro c h; simpa [codeAt] using h.symm
   | cons d q ih =>
    intro c h;simp only [codeAt, Option.bind_eq_some_iff] at h;obtain ⟨c', g1, g2⟩ := h;rw [ih c' g1] at g2;cases g2
  rw [this q c h1] at h2;cases h2

theorem codeAt_app (root : Code) (p : List Nat) : ∀ (q : List Nat) {b : Code}, codeAt root p = some b → codeAt root (q ++ p) = codeAt b q
 | [], b, h => h
 | d :: q, b, h => by simp only [List.cons_append, codeAt, codeAt_app root p q h]

end Go.Ev
