/- Calls that are known by what they leave: from one pattern of arguments and rows to another, within any state that shows the pattern. No condition. -/
import Derived.Test.YtidpndnehbhloaaDoorSyz
set_option linter.unusedSimpArgs false
set_option linter.unusedVariables false
namespace Go.Ev
open Go.RowKit

def seeP (ρ : Ren) (o : AObj) (r : RW) : Option (List Duty) :=
 match o, r with
 | .seq q, .eseq q' => match decide (q.k = q'.k) with
  | true => some (duty true q.n q'.n ++ duty false q.x q'.x)
  | false => none
 | .cells b, .eseq q' => match b.from 0 b.size with
  | some l => match seqOfL q'.k l with
   | some x => some (duty true (.int b.size) q'.n ++ duty false x q'.x)
   | none => none
  | none => none
 | .ext b, .eseq q' => match b.from 0 b.size with
  | some l => match seqOfL q'.k l with
   | some x => some (duty true (.int b.size) q'.n ++ duty false x q'.x)
   | none => none
  | none => none
 | .cells b, .ext l => seeCells ρ b 0 l
 | .peq q, .eseq q' => match decide (q.k = q'.k) with
  | true => some (duty true q.n q'.n ++ duty false q.x q'.x)
  | false => none
 | o, r => seeO ρ o r

theorem seeP_own {ρ : Ren} {oi : AObj} {r : RW} {d : List Duty} (h1 : seeP ρ oi r = some d) (h2 : r.obj.own = true) : oi.own = true := by
 cases oi <;> cases r <;> first | rfl | (simp [seeP, seeO] at h1; done) | (simp [RW.obj, AObj.own] at h2; done)

theorem RW.obj_own (r : RW) : r.obj.own = r.own := by cases r <;> rfl
theorem RW.sub_own (θ : Nat → E) (r : RW) : (r.sub θ).own = r.own := by cases r <;> rfl

theorem ObjR.swap {w0 w1 : Base} {e : Env} {id k : Nat} {w : World} {o : AObj} (h : ObjR w0 e id k w o) (h1 : o.own = true → w1.mine k) (h2 : o.own = false → w1.kept k) : ObjR w1 e id k w o := by
 cases o with
 | peq q => exact h
 | loop r => exact ⟨h1 rfl, h.2⟩
 | defd => exact ⟨h1 rfl, h.2⟩
 | map es c => exact ⟨h1 rfl, h.2⟩
 | siter s p => exact ⟨h1 rfl, h.2⟩
 | miter s p => exact ⟨h1 rfl, h.2⟩
 | vseq q => exact ⟨h1 rfl, h.2⟩
 | cells b => exact ⟨h1 rfl, h.2⟩
 | seq q => exact ⟨h1 rfl, h.2⟩
 | ext b => exact ⟨h2 rfl, h.2⟩
 | eseq q => exact ⟨h2 rfl, h.2⟩

theorem cells_eseq {e : Env} {b : AB} {k : IntKind} {l : List AV} {x : E} {arr : Array Value} (hl : b.from 0 b.size = some l) (hx : seqOfL k l = some x) (hc : ∀ i v, b.at i = some v → ∃ x, arr[i]? = some x ∧ VR e v x) :
  ((x.s e.opq).length = b.size ∧ ∀ c ∈ x.s e.opq, inK k c) ∧ ∀ (j : Nat) (n : Int), (x.s e.opq)[j]? = some n → arr[j]? = some (Value.int k n) := by
 obtain ⟨h1, h2⟩ := AB.from_at _ _ _ hl;have hn : b.size ≤ arr.size := by
  rcases Nat.eq_zero_or_pos b.size with h0 | h0
  ·omega
  ·have : b.size - 1 < l.length := by omega
   obtain ⟨v, hv⟩ : ∃ v, l[b.size - 1]? = some v := ⟨_, List.getElem?_eq_getElem this⟩
   obtain ⟨y, hy, _⟩ := hc _ v (h2 _ v hv);have := (Array.getElem?_eq_some_iff.1 hy).1;omega
 have hv : VRs e l (arr.toList.take b.size) := by
  refine VRs_of_at _ _ (by simp; omega) fun i v y hi hy => ?_
  obtain ⟨z, hz, hr⟩ := hc _ v (h2 i v hi);have hlt : i < b.size := by have := (List.getElem?_eq_some_iff.1 hi).1; omega
  rw [List.getElem?_take, if_pos hlt] at hy;have : arr[i]? = some y := by simpa using hy
  rw [Nat.zero_add, this] at hz;cases hz;exact hr
 obtain ⟨e1, e2⟩ := seqOfL_val hx hv;have e3 : (x.s e.opq).length = b.size := by have := congrArg List.length e1; simp at this; omega
 refine ⟨⟨e3, e2⟩, fun j n hj => ?_⟩;have hlt : j < b.size := by have := (List.getElem?_eq_some_iff.1 hj).1; omega
 have h5 : (arr.toList.take b.size)[j]? = some (Value.int k n) := by rw [e1]; simp [hj]
 rw [List.getElem?_take, if_pos hlt] at h5;simpa using h5

theorem seeP_ok {ρ : Ren} {w0 w1 : Base} {e e' : Env} (H : RenOK ρ e e') {o : AObj} {r : RW} {ds : List Duty} (h : seeP ρ o r = some ds) (hd : Duties e.opq ds) {i j k : Nat} {w : World} (hs : e'.spare j = e.spare i) (hb : e'.base j = e.base i) (R : ObjR w0 e i k w o)
  (h1 : r.own = true → w1.mine k) (h2 : r.own = false → w1.kept k) (hp : ∀ k arr, e.h k = some arr → ∃ el fz, w.heap[k]? = some (.cells arr el fz)) : ObjR w1 e' j k w r.obj := by
 unfold seeP at h;split at h
 ·rename_i q q';split at h
  ·rename_i hc;have hc := of_decide_eq_true hc;simp only [sme] at h;subst h;obtain ⟨d1, d2⟩ := hd.app;have d1 := duty_i d1;have d2 := duty_s d2;obtain ⟨g1, g2, arr, fz, g3, g4⟩ := R;obtain ⟨tail, g5, _⟩ := g4.cells;refine ⟨h2 rfl, ⟨by rw [H.opq, ← d1, ← d2]; exact g4.n, by rw [H.opq, ← d2, ← hc]; exact g4.rng⟩, arr, _, fz, g3, fun jj n hn => ?_⟩;rw [H.opq, ← d2] at hn;rw [hb, g2, Nat.zero_add, ← hc];exact seq_cell g5 hn
  ·cases h
 ·rename_i b q';split at h
  ·rename_i l hl;split at h
   ·rename_i x hx;simp only [sme] at h;subst h;obtain ⟨d1, d2⟩ := hd.app;have d1 := duty_i d1;have d2 := duty_s d2;obtain ⟨g1, g2, arr, fz, g3, g4⟩ := R;obtain ⟨⟨e1, e2⟩, e3⟩ := cells_eseq hl hx g4.cell;refine ⟨h2 rfl, ⟨by rw [H.opq, ← d1, ← d2, e1]; rfl, by rw [H.opq, ← d2]; exact e2⟩, arr, _, fz, g3, fun jj n hn => ?_⟩;rw [H.opq, ← d2] at hn;rw [hb, g2, Nat.zero_add];exact e3 _ _ hn
   ·cases h
  ·cases h
 ·rename_i b q';split at h
  ·rename_i l hl;split at h
   ·rename_i x hx;simp only [sme] at h;subst h;obtain ⟨d1, d2⟩ := hd.app;have d1 := duty_i d1;have d2 := duty_s d2;obtain ⟨g1, g2, arr, el, fz, g3, g4⟩ := R;obtain ⟨⟨e1, e2⟩, e3⟩ := cells_eseq hl hx g4;refine ⟨h2 rfl, ⟨by rw [H.opq, ← d1, ← d2, e1]; rfl, by rw [H.opq, ← d2]; exact e2⟩, arr, _, fz, g3, fun jj n hn => ?_⟩;rw [H.opq, ← d2] at hn;rw [hb, g2, Nat.zero_add];exact e3 _ _ hn
   ·cases h
  ·cases h
 ·rename_i b l;obtain ⟨g1, g2, arr, fz, g3, g4⟩ := R;refine ⟨h2 rfl, by rw [hb]; exact g2, arr, _, fz, g3, fun p v hv => ?_⟩;rw [ABL_at] at hv;have := seeCells_ok H l 0 ds h hd g4.cell p v hv;simpa using this
 ·rename_i q q';split at h
  ·rename_i hc;have hc := of_decide_eq_true hc;simp only [sme] at h;subst h;obtain ⟨d1, d2⟩ := hd.app;have d1 := duty_i d1;have d2 := duty_s d2;obtain ⟨⟨g1, g2⟩, arr, g3, g4⟩ := R;obtain ⟨el, fz, g5⟩ := hp _ _ g3;refine ⟨h2 rfl, ⟨by rw [H.opq, ← d1, ← d2]; exact g1, by rw [H.opq, ← d2, ← hc]; exact g2⟩, arr, el, fz, g5, fun jj n hn => ?_⟩;rw [H.opq, ← d2] at hn;rw [hb, ← hc];exact g4 _ _ hn
  ·cases h
 ·exact (seeO_ok H h hd hs hb R).swap (by rw [RW.obj_own]; exact h1) (by rw [RW.obj_own]; exact h2)

def seePRows (ρ : Ren) (s : St) : List (Nat × RW) → Option (List Duty)
 | [] => some []
 | (j, r) :: l => match ρ.src j with
  | some i => match s.heap.get i with
   | some o => match seeP ρ o r, seePRows ρ s l with
    | some d, some m => some (d ++ m)
    | _, _ => none
   | none => none
  | none => none

theorem seePRows_mem {ρ : Ren} {s : St} {Ω : Om} : ∀ {l : List (Nat × RW)} {ds : List Duty}, seePRows ρ s l = some ds → Duties Ω ds → ∀ j r, (j, r) ∈ l → ∃ i o d, ρ.src j = some i ∧ s.heap.get i = some o ∧ seeP ρ o r = some d ∧ Duties Ω d
 | [], _, _, _, j, r, hm => by simp at hm
 | (j', r') :: l, ds, k, hd, j, r, hm => by
  simp only [seePRows] at k;split at k
  ·rename_i i hi;split at k
   ·rename_i o ho;split at k
    ·rename_i d m h1 h2;simp only [sme] at k;subst k;obtain ⟨d1, d2⟩ := hd.app;rcases List.mem_cons.1 hm with hm | hm
     ·simp only [pme] at hm;obtain ⟨rfl, rfl⟩ := hm;exact ⟨i, o, d, hi, ho, h1, d1⟩
     ·exact seePRows_mem h2 d2 j r hm
    ·cases k
   ·cases k
  ·cases k

open Classical in
noncomputable def patBase (e : Env) (rows : List (Nat × RW)) (w : World) : Base := ⟨w, fun k => !decide (∃ p ∈ rows, p.2.own = true ∧ e.loc p.1 = some k), e.h⟩

theorem patBase_mine {e : Env} {rows : List (Nat × RW)} {w : World} {k : Nat} (h : (patBase e rows w).K k = false) : ∃ p ∈ rows, p.2.own = true ∧ e.loc p.1 = some k := by
 simp only [patBase, Bool.not_eq_false', decide_eq_true_eq] at h;exact h

theorem Ren.src_inj {ρ : Ren} (hv : distinctB (ρ.map (·.2)) = true) (ho : (ρ.all fun p => !Nat.beq (p.2 % 2) 0) = true) {i j p : Nat} (h1 : ρ.src i = some p) (h2 : ρ.src j = some p) : i = j := by
 have nd := distinctB_nodup hv;unfold Ren.src at h1 h2;split at h1 <;> split at h2
 ·simp only [sme] at h1 h2; rw [h1, h2]
 ·rename_i e1 _ _;simp only [sme] at h1;have e1 := beq_t e1;have := List.all_eq_true.1 ho _ (Ren.get_mem h2);simp only [Bool.not_eq_true'] at this;have := beq_f this;omega
 ·rename_i _ _ e2;simp only [sme] at h2;have e2 := beq_t e2;have := List.all_eq_true.1 ho _ (Ren.get_mem h1);simp only [Bool.not_eq_true'] at this;have := beq_f this;omega
 ·exact pairs_inj nd (Ren.get_mem h1) (Ren.get_mem h2)

theorem Rel.seeP {Ω : Om} {w0 : Base} {e : Env} {s : St} {w : World} (h : Rel Ω w0 e s w) {ρ : Ren} {rows : List (Nat × RW)} {next : Nat} {ds : List Duty} (k : seePRows ρ s rows = some ds) (hd : Duties Ω ds) (hk : keysUnder ρ next = true) (hv : distinctB (ρ.map (·.2)) = true) (ho : (ρ.all fun p => !Nat.beq (p.2 % 2) 0) = true)
  (hu : (rows.map (·.1)).Nodup) : Rel Ω (patBase (e.pull ρ) rows w) (e.pull ρ) (rowsSt rows next) w := by
 obtain rfl := h.opq;have H := Env.pull_ok e ρ;refine ⟨rfl, Und.refl _, fun n hn => ?_, fun i j o o' b hi hj oi oj li lj => ?_, fun j o hj => ?_, h.pool, fun j o b hj oo lj => ?_, fun k arr hk => .inl ⟨arr, hk⟩, fun _ _ h => h⟩
 ·simp only [Env.pull];rw [if_neg (by omega)];split
  ·rename_i i hi;have := List.all_eq_true.1 hk _ (Ren.get_mem hi);simp only [Nat.blt_eq, rowsSt] at this hn;omega
  ·rfl
 ·obtain ⟨r, h1, rfl⟩ := rowsT_mem hi;obtain ⟨r', h2, rfl⟩ := rowsT_mem hj;obtain ⟨p, op, _, hp1, hp2, hp3, _⟩ := seePRows_mem k hd i r h1;obtain ⟨q, oq, _, hq1, hq2, hq3, _⟩ := seePRows_mem k hd j r' h2;obtain ⟨gi, _⟩ := H.is (Ren.src_is hp1);obtain ⟨gj, _⟩ := H.is (Ren.src_is hq1);rw [gi] at li;rw [gj] at lj;have := h.inj p q _ _ b hp2 hq2 (seeP_own hp3 oi) (seeP_own hq3 oj) li lj;subst this;exact Ren.src_inj hv ho hp1 hq1
 ·obtain ⟨r, h1, rfl⟩ := rowsT_mem hj;obtain ⟨i, oi, d, hs, hh, hse, hdu⟩ := seePRows_mem k hd j r h1;obtain ⟨g1, g2, g3⟩ := H.is (Ren.src_is hs);obtain ⟨kk, hl, hO⟩ := h.obj i oi hh;refine ⟨kk, by rw [g1]; exact hl, seeP_ok H hse hdu g2 g3 hO (fun hown => .inr ?_) (fun hown => ⟨hO.lt h.pool, ?_⟩) h.pool⟩
  ·simp only [patBase, Bool.not_eq_false', decide_eq_true_eq];exact ⟨(j, r), h1, hown, by rw [g1]; exact hl⟩
  ·cases hK : (patBase (e.pull ρ) rows w).K kk with
   | true => rfl
   | false =>
    obtain ⟨⟨j2, r2⟩, m1, m2, m3⟩ := patBase_mine hK;obtain ⟨i2, o2, d2, s1, s2, s3, s4⟩ := seePRows_mem k hd j2 r2 m1;obtain ⟨t1, _⟩ := H.is (Ren.src_is s1);simp only at m2 m3;rw [t1] at m3;obtain ⟨k2, u1, u2⟩ := h.obj i2 o2 s2;rw [m3] at u1;cases u1;have hmine : w0.mine kk := by
     rcases u2.own with ⟨_, g⟩ | ⟨g, _⟩
     ·exact g
     ·rw [seeP_own s3 (by rw [RW.obj_own]; exact m2)] at g; cases g
    have e1 := h.inj1 s2 hh hmine (h.apart i2 o2 kk s2 (seeP_own s3 (by rw [RW.obj_own]; exact m2)) m3) m3 hl;subst e1;have e2 := Ren.src_inj hv ho s1 hs;subst e2;have e3 : r = r2 := fst_unique hu h1 m1;subst e3;rw [m2] at hown; cases hown
 ·obtain ⟨r, h1, rfl⟩ := rowsT_mem hj;obtain ⟨i, oi, d, hs, hh, hse, hdu⟩ := seePRows_mem k hd j r h1;obtain ⟨g1, _⟩ := H.is (Ren.src_is hs);rw [g1] at lj;exact h.apart i oi b hh (seeP_own hse oo) lj

structure CSpec where
 args : List AV
 next : Nat
 rows : List (Nat × RW)
 pre : List (Q × Bool)
 res : AV
 frows : List (Nat × RW)
 same : List Nat

def CSpec.L (C : CSpec) : LSpec := { n := 0, next := C.next, pat := [], rows := C.rows, pre := C.pre, x := 0, fin := [(0, C.res)], frows := C.frows, same := C.same, chg := [] }
def CSpec.st (C : CSpec) : St := rowsSt C.rows C.next
def CSpec.fine (C : CSpec) : Bool := AV.clears C.args && (C.rows.all fun p => p.2.clear) && C.res.clear && (C.frows.all fun p => p.2.clear) && distinctB (C.rows.map (·.1))

structure CPost (C : CSpec) (Ω : Om) (B : Base) (e : Env) (E : Ending) (w : World) (e' : Env) : Prop where
 rel : ∃ N, Rel Ω B e' (rowsSt C.frows N) w
 res : ∃ x, E = .returned x ∧ VR e' C.res x
 same : ∀ i ∈ C.same, e'.loc i = e.loc i ∧ e'.spare i = e.spare i ∧ e'.base i = e.base i
 even : ∀ g, e'.spare (2 * g) = e.spare (2 * g) ∧ e'.base (2 * g) = e.base (2 * g)

def CHolds (P : Program) (g : FuncId) (C : CSpec) (f : Nat → D → D) : Prop := ∀ d, (∀ p ∈ C.pre, p.1.val ⟨fun _ => .bool false, d, f⟩ = p.2) → ∀ (v : Nat → Value) (B : Base) (e : Env) (w : World) (as : List Value), Rel ⟨v, d, f⟩ B e C.st w → VRs e C.args as →
 Calls P g as.toArray w fun E w' => ∃ e', CPost C ⟨v, d, f⟩ B e E w' e'

def seeArgs (s : St) (ρ : Ren) : List AV → List AV → Option (List Duty)
 | [], [] => some []
 | u :: us, v :: vs => match seeArg s ρ u v, seeArgs s ρ us vs with
  | some l, some m => some (l ++ m)
  | _, _ => none
 | _, _ => none

theorem seeArgs_vr {ρ : Ren} {Ω : Om} {w0 : Base} {e e' : Env} {s : St} {w : World} (h : Rel Ω w0 e s w) (H : RenOK ρ e e') : ∀ {u v : List AV} {l : List Duty}, seeArgs s ρ u v = some l → Duties e.opq l → ∀ {a : List Value}, VRs e u a → VRs e' v a
 | [], [], _, _, _, _, ha => by simpa only [VRs] using ha
 | u :: us, v :: vs, l, k, hd, a, ha => by
  simp only [seeArgs] at k;split at k
  ·rename_i l1 m1 h1 h2;simp only [sme] at k;subst k;obtain ⟨d1, d2⟩ := hd.app;simp only [VRs] at ha ⊢;obtain ⟨x, r, rfl, g1, g2⟩ := ha;exact ⟨x, r, rfl, seeArg_vr h H h1 d1 g1, seeArgs_vr h H h2 d2 g2⟩
  ·cases k
 | [], _ :: _, _, k, _, _, _ => by simp [seeArgs] at k
 | _ :: _, [], _, k, _, _, _ => by simp [seeArgs] at k

def solveArgs : List AV → List AV → Sol → Sol
 | v :: vs, u :: us, S => solveArgs vs us (solveArg v u S)
 | _, _, S => S
def solveRowP (o : AObj) (r : RW) (S : Sol) : Sol := match o, r with
 | .seq q, .eseq q' => solveE q'.n q.n (solveE q'.x q.x S)
 | .cells b, .eseq q' => match b.from 0 b.size with
  | some l => match seqOfL q'.k l with
   | some x => solveE q'.n (.int b.size) (solveE q'.x x S)
   | none => S
  | none => S
 | .ext b, .eseq q' => match b.from 0 b.size with
  | some l => match seqOfL q'.k l with
   | some x => solveE q'.n (.int b.size) (solveE q'.x x S)
   | none => S
  | none => S
 | .cells b, .ext l => solveCells b 0 l S
 | .peq q, .eseq q' => solveE q'.n q.n (solveE q'.x q.x S)
 | o, r => solveRow o r S
def solveRowsP (s : St) : List (Nat × RW) → Sol → Sol
 | [], S => S
 | (j, r) :: l, S => match S.2.src j with
  | some i => match s.heap.get i with
   | some o => solveRowsP s l (solveRowP o r S)
   | none => solveRowsP s l S
  | none => solveRowsP s l S

def CSpec.use (C : CSpec) (A : Ask) (args : List AV) (s : St) : Option (En × St) :=
 let S := solveRowsP s C.rows (solveArgs C.args args ([], []))
 let θ := lookE S.1
 let ρ := S.2
 let τ := newNames C.L ρ s.next C.frows 0 ++ oldNames ρ C.frows C.same
 let next' := s.next + C.frows.length
 match keysUnder ρ C.next && renB ρ && C.fine && distinctB (τ.map (·.2)) && namesOK C.L ρ τ s.next next' && (C.rows.all fun p => !p.2.own || Nat.beq (p.1 % 2) 1) && distinctB (C.frows.map (·.1)) with
 | true => match allMet A (seeArgs s ρ args (AV.subs θ C.args)) && allMet A (seePRows ρ s (RW.subs θ C.rows)) && (C.pre.all (askPre A θ)) && allMet A (seeOut τ θ [(0, C.res)]) && allMet A (seeOutR τ θ C.frows) with
  | true => some (.ret ((C.res.sub θ).ren (backName τ)), ⟨putRows (delRows s.heap ρ C.rows) (outRows τ θ C.frows), next'⟩)
  | false => none
 | false => none

theorem subs_own {θ : Nat → E} {rows : List (Nat × RW)} {j : Nat} {r : RW} (h : (j, r) ∈ RW.subs θ rows) : ∃ r0, (j, r0) ∈ rows ∧ r = r0.sub θ := by
 simp only [RW.subs, List.mem_map] at h;obtain ⟨p, hp1, hp2⟩ := h;simp only [pme] at hp2;exact ⟨p.2, by rw [← hp2.1]; exact hp1, hp2.2.symm⟩

theorem cuse_ok {P : Program} {g : FuncId} {C : CSpec} {f : Nat → D → D} (hH : CHolds P g C f) {Ω : Om} (hf : Ω.f = f) {w0 : Base} {A : Ask} (hA : AskOK Ω A) {args : List AV} {s : St} {en : En} {s' : St} (k : C.use A args s = some (en, s')) :
  ∀ e w as, Rel Ω w0 e s w → VRs e args as → Calls P g as.toArray w fun E w' => ∃ e', e.le e' ∧ Rel Ω w0 e' s' w' ∧ EnR e' en E := by
 unfold CSpec.use at k;simp only at k;generalize hS : solveRowsP s C.rows (solveArgs C.args args ([], [])) = S at k;generalize hθ : lookE S.1 = θ at k;generalize hρ : S.2 = ρ at k;generalize hτ : newNames C.L ρ s.next C.frows 0 ++ oldNames ρ C.frows C.same = τ at k;split at k
 ·rename_i hc;simp only [bae] at hc;obtain ⟨⟨⟨⟨⟨⟨c3, c4⟩, c5⟩, c6⟩, c7⟩, c9⟩, c10⟩ := hc;obtain ⟨nd, od⟩ := renB_split c4;have fine' := c5;simp only [CSpec.fine, bae] at fine';obtain ⟨⟨⟨⟨fn1, fn2⟩, fn3⟩, fn4⟩, fn5⟩ := fine';split at k
  ·rename_i hm;simp only [bae] at hm;obtain ⟨⟨⟨⟨m1, m2⟩, c8⟩, m3⟩, m4⟩ := hm;obtain ⟨ds1, p1, q1⟩ := allMet_ok hA m1;obtain ⟨ds2, p2, q2⟩ := allMet_ok hA m2;obtain ⟨ds3, p3, q3⟩ := allMet_ok hA m3;obtain ⟨ds4, p4, q4⟩ := allMet_ok hA m4;simp only [sme, pme] at k;obtain ⟨rfl, rfl⟩ := k;let d1 : Nat → D := fun i => (θ i).den Ω
   have hpre : ∀ p ∈ C.pre, p.1.val ⟨fun _ => .bool false, d1, f⟩ = p.2 := by
    intro p hp;have := List.all_eq_true.1 c8 p hp;unfold askPre at this;split at this
    ·rename_i bb hbb;have h1 := askQ_val hA hbb;rw [Q.subst_val] at h1;have h2 := val_same (Ω := Ω.sub θ) (Ω' := ⟨fun _ => .bool false, d1, f⟩) rfl hf.symm p.1;rw [h2, h1];simpa using this
    ·cases this
   intro e w as hr has;obtain rfl := hr.opq;have H0 := Env.pull_ok e ρ;let v1 : Nat → Value := fun _ => .bool false
   have hu : ((RW.subs θ C.rows).map (·.1)).Nodup := by
    have := distinctB_nodup fn5;simpa only [RW.subs, List.map_map, Function.comp_def] using this
   have rel0 := hr.seeP p2 q2 c3 nd od hu;have rel1 := rel0.subst;generalize hB : patBase (e.pull ρ) (RW.subs θ C.rows) w = B at rel0 rel1;have hBw : B.w = w := by rw [← hB]; rfl
   have hBh : B.h = e.h := by rw [← hB]; rfl
   have rel2 : Rel ⟨v1, d1, f⟩ B ((e.pull ρ).at ⟨v1, d1, f⟩) C.st w := by
    refine ⟨rfl, rel1.below, rel1.fresh, rel1.inj, fun i o ho => ?_, rel1.pool, rel1.apart, rel1.grow, rel1.hold⟩;obtain ⟨r, hr1, hr2⟩ := rowsT_mem ho;obtain ⟨kk, h1, h2⟩ := rel1.obj i o ho;subst hr2;have hcl := List.all_eq_true.1 fn2 _ hr1;exact ⟨kk, h1, ObjR.newV (e := (e.pull ρ).at (e.opq.sub θ)) (Ω := ⟨v1, d1, f⟩) rfl hf.symm hcl h2⟩
   have as2 : VRs ((e.pull ρ).at ⟨v1, d1, f⟩) C.args as := by
    have h1 := seeArgs_vr hr H0 p1 q1 has;have h2 := (VRs.sub (e := e.pull ρ) C.args as).1 h1;exact VRs.newV (e := (e.pull ρ).at (e.opq.sub θ)) (Ω := ⟨v1, d1, f⟩) rfl hf.symm C.args fn1 h2
   refine (hH d1 hpre v1 B _ w as rel2 as2).mono fun E w' ⟨ef, hpost⟩ => ?_
   obtain ⟨⟨N, hrel⟩, ⟨y, hE, hy⟩, hsame, heven⟩ := hpost;have hof : ef.opq = ⟨v1, d1, f⟩ := hrel.opq;let ec := ef.at e.opq
   have hecd : ((ec.opq).sub θ).d = ef.opq.d := by rw [hof]; rfl
   have hecf : ((ec.opq).sub θ).f = ef.opq.f := by rw [hof]; exact hf
   have same2 : ∀ i ∈ C.same, i % 2 = 1 → ∀ j, ρ.get i = some j → ef.loc i = e.loc j ∧ ef.spare i = e.spare j ∧ ef.base i = e.base j := by
    intro i hi ho j hj;obtain ⟨h1, h2, h3⟩ := hsame i hi;obtain ⟨g1, g2, g3⟩ := H0.odd i j hj ho;exact ⟨h1.trans g1, h2.trans g2, h3.trans g3⟩
   have fresh0 : ∀ n, s.next ≤ n → e.loc (2 * n + 1) = none := hr.fresh;have HO : RenOK τ ec (e.over ef τ) := by
    refine ⟨rfl, rfl, fun i j hij ho => ?_, fun g => ?_⟩
    ·simp only [Env.over, hij];rw [if_neg (by omega), if_neg (by omega), if_neg (by omega)];exact ⟨rfl, rfl, rfl⟩
    ·obtain ⟨h1, h2⟩ := heven g;have h3 : ((e.pull ρ).at ⟨v1, d1, f⟩).spare (2 * g) = e.spare (2 * g) := by simp [Env.at, Env.pull]
     have h4 : ((e.pull ρ).at ⟨v1, d1, f⟩).base (2 * g) = e.base (2 * g) := by simp [Env.at, Env.pull]
     simp only [Env.over];rw [if_pos (by omega), if_pos (by omega)];exact ⟨(h1.trans h3).symm, (h2.trans h4).symm⟩
   have hle : e.le (e.over ef τ) := by
    refine ⟨fun j bb hj => ?_, rfl, fun kk arr hk => hrel.hold kk arr (by rw [hBh]; exact hk)⟩;simp only [Env.over];by_cases he : j % 2 = 0
    ·rw [if_pos he, if_pos he, if_pos he]; exact ⟨hj, rfl, rfl⟩
    ·rw [if_neg he, if_neg he, if_neg he];split
     ·rename_i kk hk;rcases (namesOK_mem c7 hk).2 with ⟨g1, g2, g3⟩ | ⟨g1, _⟩
      ·obtain ⟨q1, q2, q3⟩ := same2 kk g1 g2 j g3;exact ⟨by rw [q1]; exact hj, q2, q3⟩
      ·have := fresh0 (j / 2) (by omega);rw [show 2 * (j / 2) + 1 = j by omega, hj] at this;cases this
     ·exact ⟨hj, rfl, rfl⟩
   have hb := hrel.below;rw [show Und B w' ↔ Und B w' from Iff.rfl] at hb;have stateRow : ∀ kk, B.K kk = false → ∃ j r0 i oi, (j, r0) ∈ C.rows ∧ r0.own = true ∧ ρ.src j = some i ∧ s.heap.get i = some oi ∧ e.loc i = some kk ∧ w0.mine kk ∧ e.h kk = none := by
    intro kk hK;rw [← hB] at hK;obtain ⟨⟨j, r⟩, g4, g2, g3⟩ := patBase_mine hK;obtain ⟨i, oi, d, q5, q6, q7, q8⟩ := seePRows_mem p2 q2 j r g4;obtain ⟨q9, _⟩ := H0.is (Ren.src_is q5);simp only at g2 g3;rw [q9] at g3;obtain ⟨r0, g5, g6⟩ := subs_own g4;have hown : r0.own = true := by rw [g6, RW.sub_own] at g2; exact g2
    refine ⟨j, r0, i, oi, g5, hown, q5, q6, g3, ?_, hr.apart i oi kk q6 (seeP_own q7 (by rw [RW.obj_own]; exact g2)) g3⟩;obtain ⟨k2, hk2, hO⟩ := hr.obj i oi q6;rw [g3] at hk2;cases hk2;rcases hO.own with ⟨_, g⟩ | ⟨g, _⟩
    ·exact g
    ·rw [seeP_own q7 (by rw [RW.obj_own]; exact g2)] at g; cases g
   have stay : ∀ id o kk, (delRows s.heap ρ C.rows).get id = some o → e.loc id = some kk → w'.heap[kk]? = w.heap[kk]? ∧ B.K kk = true := by
    intro id o kk hd hk;obtain ⟨h1, h2⟩ := delRows_get hd;have hlt := hr.loc_lt h1 hk;have hK : B.K kk = true := by
     cases hc : B.K kk with
     | true => rfl
     | false =>
      obtain ⟨j, r0, i, oi, g5, hown, q5, q6, g3, hmk, hnn⟩ := stateRow kk hc;have hid := hr.inj1 q6 h1 hmk hnn g3 hk;subst hid;unfold Ren.src at q5;split at q5
      ·rename_i hev;simp only [sme] at q5;subst q5;have hodd := List.all_eq_true.1 c9 _ g5;simp only [hown, Bool.not_true, Bool.false_or] at hodd;have hodd := beq_t hodd;have hev := beq_t hev;omega
      ·exact absurd q5 (h2 j r0 g5 hown)
    have := hb.block kk (by rw [hBw]; exact hlt) hK;rw [hBw] at this;exact ⟨this, hK⟩
   have mineBack : ∀ kk, B.mine kk → w0.mine kk := by
    intro kk hm;rcases hm with hm | hm
    ·left; have := hr.below.size; rw [hBw] at hm; omega
    ·obtain ⟨_, _, _, _, _, _, _, _, _, hmk, _⟩ := stateRow kk hm;exact hmk
   have keptStay : ∀ kk, w0.kept kk → w'.heap[kk]? = w.heap[kk]? := by
    intro kk hk;have := hb.block kk (by rw [hBw]; have := hk.1; have := hr.below.size; omega) (by
     cases hc : B.K kk with
     | true => rfl
     | false => exact absurd rfl (Base.mine_ne (mineBack kk (.inr hc)) hk))
    rw [hBw] at this;exact this
   have back : ∀ u : AV, u.clear = true → ∀ x : Value, VR ef u x → VR ec (u.sub θ) x := fun u hu x hv =>
    (VR.sub (e := ec) u x).2 (VR.newV (e := ef) (Ω := ec.opq.sub θ) hecd hecf u hu hv)
   have cases' : ∀ i o, (putRows (delRows s.heap ρ C.rows) (outRows τ θ C.frows)).get i = some o →
     (∃ p ∈ C.frows, i = backName τ p.1 ∧ o = ((p.2.sub θ).ren (backName τ)).obj ∧ (e.over ef τ).loc i = ef.loc p.1) ∨ ((delRows s.heap ρ C.rows).get i = some o ∧ (e.over ef τ).loc i = e.loc i) := by
    intro i o hio;rcases putRows_get hio with ⟨r, h1, h2⟩ | ⟨h1, _⟩
    ·simp only [outRows, List.mem_map] at h1;obtain ⟨p, hp, hpe⟩ := h1;simp only [pme] at hpe;obtain ⟨g1, g2, g3, _⟩ := seeOutR_mem p4 q4 p hp;refine .inl ⟨p, hp, hpe.1.symm, by rw [h2, hpe.2], ?_⟩;rw [← hpe.1];simp only [Env.over, g1];rw [if_neg (by omega)]
    ·refine .inr ⟨h1, ?_⟩;obtain ⟨h3, _⟩ := delRows_get h1;obtain ⟨kk, hk, _⟩ := hr.obj i o h3;rw [(hle.loc i kk hk).1, hk]
   have apart' : ∀ i o kk, (putRows (delRows s.heap ρ C.rows) (outRows τ θ C.frows)).get i = some o → o.own = true → (e.over ef τ).loc i = some kk → ef.h kk = none := by
    intro i o kk hi oo li;rcases cases' i o hi with ⟨p, hp, _, _, hl⟩ | ⟨hd, hl⟩
    ·rw [hl] at li;obtain ⟨op, hop⟩ := rowsT_live hp;obtain ⟨r', hr', hop'⟩ := rowsT_mem hop;refine hrel.apart p.1 op kk hop ?_ li;have := (seeOutR_mem p4 q4 (p.1, r') hr').2.2.1;subst hop';rw [RW.obj_own]; exact this
    ·rw [hl] at li;obtain ⟨h3, _⟩ := delRows_get hd;cases hh : ef.h kk with
     | none => rfl
     | some arr =>
      exfalso;rcases hrel.grow kk arr hh with ⟨a, ha⟩ | hm'
      ·rw [hBh, hr.apart i o kk h3 oo li] at ha;cases ha
      ·rcases hm' with hm' | hm'
       ·rw [hBw] at hm';have := hr.loc_lt h3 li;omega
       ·rw [(stay i o kk hd li).2] at hm'; cases hm'
   refine ⟨e.over ef τ, hle, ⟨rfl, ?_, fun n hn => ?_, fun i j o o' bb hi hj oi oj li lj => ?_, fun i o hi => ?_, hrel.pool, apart', fun kk arr hk => ?_, fun kk arr hk => hrel.hold kk arr (by rw [hBh]; exact hr.hold kk arr hk)⟩, ?_⟩
   ·have h1 := hb.os; have h2 := hb.tape; have h3 := hb.output; have h4 := hb.size;rw [hBw] at h1 h2 h3 h4;exact hr.below.step h1 h2 h3 h4 keptStay
   ·have hn : s.next + C.frows.length ≤ n := hn;have he := fresh0 n (by omega);simp only [Env.over];rw [if_neg (by omega)];split
    ·rename_i kk hk;rcases (namesOK_mem c7 hk).2 with ⟨g1, g2, g3⟩ | ⟨_, g2⟩
     ·rw [(same2 kk g1 g2 _ g3).1, he]
     ·omega
    ·exact he
   ·have om : ∀ (p : Nat × RW), p ∈ C.frows → ∀ op, (rowsT C.frows).get p.1 = some op → op.own = true := fun p hp op hop => by
     obtain ⟨r', hr', rfl⟩ := rowsT_mem hop;rw [RW.obj_own];exact (seeOutR_mem p4 q4 (p.1, r') hr').2.2.1
    have mixed : ∀ (p : Nat × RW), p ∈ C.frows → ∀ j o', (delRows s.heap ρ C.rows).get j = some o' → ef.loc p.1 = some bb → e.loc j = some bb → False := by
     intro p hp j o' hd' li lj;obtain ⟨op, hop⟩ := rowsT_live hp;obtain ⟨kk, hk, hO⟩ := hrel.obj p.1 op hop;rw [li] at hk;cases hk;obtain ⟨_, hK⟩ := stay j o' bb hd' lj;have hlt := hr.loc_lt (delRows_get hd').1 lj;rcases hO.own with ⟨_, hm'⟩ | ⟨g, _⟩
     ·rcases hm' with hm' | hm'
      ·rw [hBw] at hm'; omega
      ·rw [hK] at hm'; cases hm'
     ·rw [om p hp op hop] at g; cases g
    rcases cases' i o hi with ⟨p, hp, rfl, rfl, hl⟩ | ⟨hd, hl⟩ <;> rcases cases' j o' hj with ⟨q, hq, rfl, rfl, hl'⟩ | ⟨hd', hl'⟩
    ·rw [hl] at li;rw [hl'] at lj;obtain ⟨op, hop⟩ := rowsT_live hp;obtain ⟨oq, hoq⟩ := rowsT_live hq;rw [hrel.inj p.1 q.1 _ _ bb hop hoq (om p hp op hop) (om q hq oq hoq) li lj]
    ·rw [hl] at li;rw [hl'] at lj;exact (mixed p hp j o' hd' li lj).elim
    ·rw [hl] at li;rw [hl'] at lj;exact (mixed q hq i o hd lj li).elim
    ·rw [hl] at li;rw [hl'] at lj;exact hr.inj i j _ _ bb (delRows_get hd).1 (delRows_get hd').1 oi oj li lj
   ·have hi' := hi;rcases putRows_get hi with ⟨r, h1, h2⟩ | ⟨h1, _⟩
    ·simp only [outRows, List.mem_map] at h1;obtain ⟨p, hp, hpe⟩ := h1;simp only [pme] at hpe;obtain ⟨g1, g2, g3, d, g4, g5⟩ := seeOutR_mem p4 q4 p hp;obtain ⟨op, hop⟩ := rowsT_live hp;obtain ⟨hin1, hin2, hin3⟩ := HO.odd _ _ g1 g2;obtain ⟨r', hr', hop'⟩ := rowsT_mem hop;obtain ⟨kk, hk, hO⟩ := hrel.obj p.1 op hop;subst hop';have hpr : r' = p.2 := fst_unique (distinctB_nodup c10) hr' hp;subst hpr;have s1 := ObjR.newV (e := ef) (Ω := ec.opq.sub θ) hecd hecf (List.all_eq_true.1 fn4 p hp) hO;have s2 : ObjR B ec p.1 kk w' (p.2.sub θ).obj := (RW.sub_ok (e := ec)).2 s1;have s3 := seeO_ok HO g4 g5 hin2 hin3 s2;rw [← hpe.1, h2, ← hpe.2];refine ⟨kk, by rw [hin1]; exact hk, ?_⟩;have hown' : ((p.2.sub θ).ren (backName τ)).own = true := by
      cases hp2 : p.2 <;> rw [hp2] at g3 <;> first | rfl | cases g3
     revert s3 hown';generalize (p.2.sub θ).ren (backName τ) = rr;intro s3 hown';cases rr <;> first
      | exact ⟨mineBack kk s3.1, s3.2⟩
      | cases hown'
    ·obtain ⟨h3, _⟩ := delRows_get h1;obtain ⟨kk, hk, hO⟩ := hr.obj i o h3;exact ⟨kk, (hle.loc i kk hk).1, hO.mono hle hk (stay i o kk h1 hk).1⟩
   ·rcases hrel.grow kk arr hk with ⟨a, ha⟩ | hm'
    ·rw [hBh] at ha; exact hr.grow kk a ha
    ·exact .inr (mineBack kk hm')
   ·subst hE;obtain ⟨d, g4, g5⟩ := seeOut_mem p3 q3 (0, C.res) (by simp);exact seeA_vr HO _ _ d g4 g5 _ (back C.res fn3 y hy)
  ·cases k
 ·cases k

theorem Rel.newX {Ω : Om} {w0 : Base} {e : Env} {s : St} {w : World} (h : Rel Ω w0 e s w) (ob : AObj) (hob : ob.own = false) (k sp bs : Nat) (hR : ObjR w0 (e.newB s k sp bs) s.nid k w ob) :
  e.le (e.newB s k sp bs) ∧ Rel Ω w0 (e.newB s k sp bs) (s.newO ob) w := by
 have hf : e.loc s.nid = Option.none := h.fresh s.next (Nat.le_refl _);have hle := Env.le_newB hf k sp bs;refine ⟨hle, h.opq, h.below, ?_, ?_, ?_, h.pool, ?_, h.grow, h.hold⟩
 ·intro n hn;simp only [St.newO_eq] at hn;have : 2 * n + 1 ≠ s.nid := by unfold St.nid; omega
  simp [Env.newB, this, h.fresh n (by omega)]
 ·intro i j o o' bb hi hj oi oj li lj;simp only [St.newO_eq, T.get_put] at hi hj;simp only [Env.newB] at li lj;by_cases ei : i = s.nid <;> by_cases ej : j = s.nid
  ·rw [ei, ej]
  ·rw [if_pos ei] at hi;cases hi;rw [hob] at oi; cases oi
  ·rw [if_pos ej] at hj;cases hj;rw [hob] at oj; cases oj
  ·rw [if_neg ei] at hi li;rw [if_neg ej] at hj lj;exact h.inj i j o o' bb hi hj oi oj li lj
 ·intro id c hc;simp only [St.newO_eq, T.get_put] at hc;split at hc
  ·rename_i hid;subst hid;simp only [sme] at hc;subst hc;exact ⟨k, by simp [Env.newB], hR⟩
  ·rename_i hid;obtain ⟨j, hl, hO⟩ := h.obj id c hc;exact ⟨j, (hle.loc id j hl).1, hO.mono hle hl rfl⟩
 ·intro i o b hi oo li;simp only [St.newO_eq, T.get_put] at hi;simp only [Env.newB] at li;by_cases ei : i = s.nid
  ·rw [if_pos ei] at hi;cases hi;rw [hob] at oo; cases oo
  ·rw [if_neg ei] at hi li;exact h.apart i o b hi oo li

def matA (A : Ask) (s : St) (p u : AV) : AV × St := match p, u with
 | .sslice _ _ _ _ _, .pv (.int k) x => match askQ A (.le (.int 1) (.un .len x)) with
  | some true => (.sslice s.nid (.int 0) (.un .len x) (.un .len x) true, s.newO (.peq ⟨k, .un .len x, x⟩))
  | _ => (u, s)
 | .empty, .pv (.int _) x => match askQ A (.le (.int 1) (.un .len x)) with
  | some false => (.empty, s)
  | _ => (u, s)
 | _, _ => (u, s)

theorem matA_ok {Ω : Om} {A : Ask} (hA : AskOK Ω A) {w0 : Base} {e : Env} {s : St} {w : World} (h : Rel Ω w0 e s w) (p u : AV) {a : Value} (hu : VR e u a) :
  ∃ e', e.le e' ∧ Rel Ω w0 e' (matA A s p u).2 w ∧ VR e' (matA A s p u).1 a := by
 obtain rfl := h.opq;unfold matA;split
 ·rename_i i o l c b k x;split
  ·rename_i hq;have hq := askQ_val hA hq;simp only [Q.val, decide_eq_true_eq] at hq;have hlen : (E.un .len x).i e.opq = ((x.den e.opq).toList.length : Int) := rfl;have hnn : (E.un .len x).n e.opq = (x.den e.opq).toList.length := by simp [E.n, E.den, UO.den, D.nat]
   rw [hlen] at hq;have h1 : (E.int 1).i e.opq = 1 := rfl;simp only [VR] at hu;obtain ⟨hg, hu⟩ := pv_ints hu;rcases hu with ⟨h0, _⟩ | ⟨bb, oo, cp, arr, rfl, hle, hb, hel⟩
   ·rw [h0, h1] at hq; simp at hq
   ·have hls : (x.den e.opq).toList.length = (x.s e.opq).length := by simp [E.s, D.ints]
    obtain ⟨g1, g2⟩ := h.newX (.peq ⟨k, .un .len x, x⟩) rfl bb (cp - (x.den e.opq).toList.length) oo ⟨⟨by
      show (E.un .len x).i e.opq = _;rw [hlen, hls]; rfl, hg⟩, arr, hb, fun j n hj => by
      have : (e.newB s bb (cp - (x.den e.opq).toList.length) oo).base s.nid = oo := by simp [Env.newB]
      rw [this];exact hel j n hj⟩
    refine ⟨_, g1, g2, ?_⟩;simp only [VR];have hsp : (e.newB s bb (cp - (x.den e.opq).toList.length) oo).spare s.nid = cp - (x.den e.opq).toList.length := by simp [Env.newB]
    have hop : (e.newB s bb (cp - (x.den e.opq).toList.length) oo).opq = e.opq := rfl;refine ⟨bb, oo, by simp [Env.newB], ?_, fun _ => ?_, ?_, ?_, ?_⟩
    ·rw [hop, hnn, hsp];simp only [if_true];congr 1;omega
    ·have : (e.newB s bb (cp - (x.den e.opq).toList.length) oo).base s.nid = oo := by simp [Env.newB]
     rw [this]; rfl
    ·rw [hop, hlen]; omega
    ·exact Int.le_refl 0
    ·exact Int.le_refl _
  ·exact ⟨e, Env.le_refl e, h, hu⟩
 ·rename_i k x;split
  ·rename_i hq;have hq := askQ_val hA hq;simp only [Q.val, decide_eq_false_iff_not] at hq;have hlen : (E.un .len x).i e.opq = ((x.den e.opq).toList.length : Int) := rfl;have h1 : (E.int 1).i e.opq = 1 := rfl;rw [hlen, h1] at hq;refine ⟨e, Env.le_refl e, h, ?_⟩;simp only [VR] at hu ⊢;obtain ⟨hg, hu⟩ := pv_ints hu;rcases hu with ⟨_, h0⟩ | ⟨bb, oo, cp, arr, rfl, hle, hb, hel⟩
   ·exact h0
   ·exact .inr ⟨⟨bb, oo, none⟩, cp, by
     have : (x.den e.opq).toList.length = 0 := by omega
     rw [this]⟩
  ·exact ⟨e, Env.le_refl e, h, hu⟩
 ·exact ⟨e, Env.le_refl e, h, hu⟩

def matL (f : St → AV → AV → AV × St) : St → List AV → List AV → List AV × St
 | s, p :: ps, u :: us => match f s p u with
  | (a, s1) => match matL f s1 ps us with
   | (b, s2) => (a :: b, s2)
 | s, _, us => (us, s)
theorem matL_ok {Ω : Om} {w0 : Base} {w : World} {f : St → AV → AV → AV × St} (hf : ∀ {e : Env} {s : St}, Rel Ω w0 e s w → ∀ (p u : AV) {a : Value}, VR e u a → ∃ e', e.le e' ∧ Rel Ω w0 e' (f s p u).2 w ∧ VR e' (f s p u).1 a) :
  ∀ (us ps : List AV) {e : Env} {s : St}, Rel Ω w0 e s w → ∀ {as : List Value}, VRs e us as → ∃ e', e.le e' ∧ Rel Ω w0 e' (matL f s ps us).2 w ∧ VRs e' (matL f s ps us).1 as
 | [], ps, e, s, h, as, ha => by
  cases ps <;> exact ⟨e, Env.le_refl e, h, ha⟩
 | u :: us, [], e, s, h, as, ha => ⟨e, Env.le_refl e, h, ha⟩
 | u :: us, p :: ps, e, s, h, as, ha => by
  simp only [VRs] at ha;obtain ⟨x, r, rfl, h1, h2⟩ := ha;obtain ⟨e1, g1, g2, g3⟩ := hf h p u h1;obtain ⟨e2, q1, q2, q3⟩ := matL_ok hf us ps g2 (VRs.mono g1 _ _ h2);refine ⟨e2, Env.le_trans g1 q1, ?_, ?_⟩
  ·simp only [matL]; exact q2
  ·simp only [matL]; exact VRs_cons (VR.mono q1 _ _ g3) q3
def matG (A : Ask) (s : St) (p u : AV) : AV × St := match p, u with
 | .agg ps, .agg us => match matL (matA A) s ps us with
  | (b, s1) => (.agg b, s1)
 | p, u => matA A s p u
theorem matG_ok {Ω : Om} {A : Ask} (hA : AskOK Ω A) {w0 : Base} {w : World} {e : Env} {s : St} (h : Rel Ω w0 e s w) (p u : AV) {a : Value} (hu : VR e u a) :
  ∃ e', e.le e' ∧ Rel Ω w0 e' (matG A s p u).2 w ∧ VR e' (matG A s p u).1 a := by
 unfold matG;split
 ·rename_i ps us;simp only [VR] at hu;obtain ⟨as, rfl, hs⟩ := hu;obtain ⟨e1, g1, g2, g3⟩ := matL_ok (f := matA A) (fun {e s} hr p u {a} hv => matA_ok hA hr p u hv) us ps h hs;exact ⟨e1, g1, g2, by simp only [VR]; exact ⟨as, rfl, g3⟩⟩
 ·exact matA_ok hA h p u hu
def hasPV : AV → Bool
 | .pv (.int _) _ => true
 | .agg l => l.any fun v => match v with
  | .pv (.int _) _ => true
  | _ => false
 | _ => false
def CSpec.useM (C : CSpec) (A : Ask) (args : List AV) (s : St) : Option (En × St) := match C.use A args s with
 | some x => some x
 | none => match args.any hasPV with
  | true => match matL (matG A) s C.args args with
   | (args', s') => C.use A args' s'
  | false => none

def specCall : List (FuncId × CSpec) → Ask → Caller
 | [], _, _, _, _ => none
 | (g, C) :: r, A, f, args, s => match Nat.beq g f with
  | true => match C.useM A args s with
   | some x => some x
   | none => specCall r A f args s
  | false => specCall r A f args s

def SpecsOK (P : Program) (l : List (FuncId × CSpec)) (f : Nat → D → D) : Prop := ∀ p ∈ l, CHolds P p.1 p.2 f

theorem specCall_ok {P : Program} {f : Nat → D → D} {Ω : Om} (hf : Ω.f = f) {w0 : Base} {A : Ask} (hA : AskOK Ω A) : ∀ {l : List (FuncId × CSpec)}, SpecsOK P l f → CallOK P Ω w0 (specCall l A)
 | [], _, _, _, _, _, _, k => by cases k
 | (g, C) :: r, h, ff, args, s, en, s', k => by
  have ih := specCall_ok hf hA (w0 := w0) (l := r) (fun p hp => h p (List.mem_cons_of_mem _ hp));simp only [specCall] at k;split at k
  ·rename_i hg;obtain rfl := beq_t hg;split at k
   ·rename_i x hx;simp only [sme] at k;subst k;unfold CSpec.useM at hx;split at hx
    ·rename_i y hy;simp only [sme] at hx;subst hx;exact cuse_ok (h (g, C) (by simp)) hf hA hy
    ·split at hx
     ·intro e w as hr ha;obtain ⟨e1, g1, g2, g3⟩ := matL_ok (f := matG A) (fun {e s} hr p u {a} hv => matG_ok hA hr p u hv) args C.args hr ha;refine (cuse_ok (h (g, C) (by simp)) hf hA hx e1 w as g2 g3).mono fun E w' ⟨e', q1, q2, q3⟩ => ⟨e', Env.le_trans g1 q1, q2, q3⟩
     ·cases hx
   ·exact ih _ _ _ _ _ k
  ·exact ih _ _ _ _ _ k

end Go.Ev
