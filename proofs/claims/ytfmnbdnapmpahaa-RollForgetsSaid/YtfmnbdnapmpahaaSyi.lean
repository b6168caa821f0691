/- An evaluator of the model's code over abstract states, and its soundness: part 9: regions, in whatever order the tape gives; statements. No condition. -/
import Derived.Test.YtfmnbdnapmpahaaSyr
import Derived.Tactics
import Derived.Still
namespace Go.Ev
open Go.RowKit

structure Fr where
  t : T AV
  n : Nat
  defers : List (FuncId × List AV × List AV)

def DfR (e : Env) : List (FuncId × List AV × List AV) → List Deferred → Prop
  | [], l => l = []
  | (f, cs, as) :: r, l => ∃ xs ys rest, l = { target := .fn (.func f) xs, args := ys } :: rest ∧ VRs e cs xs.toList ∧ VRs e as ys.toList ∧ DfR e r rest

theorem DfR.mono {e e' : Env} (h : e.le e') : ∀ (d : List (FuncId × List AV × List AV)) (l : List Deferred), DfR e d l → DfR e' d l
  | [], _, H => H
  | (f, cs, as) :: r, _, H => by
    simp only [DfR] at H ⊢
    obtain ⟨xs, ys, rest, rfl, h1, h2, h3⟩ := H
    exact ⟨xs, ys, rest, rfl, h1.mono h, h2.mono h, DfR.mono h r rest h3⟩

structure FrR (e : Env) (fr : Fr) (a : Act) : Prop where
  size : a.tmps.size = fr.n
  ft : FT e fr.t a
  df : DfR e fr.defers a.defers

theorem FrR.mono {e e' : Env} (h : e.le e') {fr : Fr} {a : Act} (H : FrR e fr a) : FrR e' fr a :=
  ⟨H.size, fun i v hi => let ⟨x, hx, hv⟩ := H.ft i v hi; ⟨x, hx, hv.mono h⟩, H.df.mono h⟩

def putA (fr : Fr) (d : Option Tmp) (v : AV) : Option Fr :=
  match d with
  | none => some fr
  | some i => match fr with
    | ⟨t, n, df⟩ => match Nat.blt i n with
      | true => some ⟨t.put i (some v), n, df⟩
      | false => none

theorem FrR.put {e : Env} {fr fr' : Fr} {a : Act} (H : FrR e fr a) {d : Option Tmp} {v : AV} {x : Value} (hv : VR e v x) (k : putA fr d v = some fr') : FrR e fr' (a.put d x) := by
  obtain ⟨ft, fn, fd⟩ := fr
  unfold putA at k
  split at k
  · simp only [Option.some.injEq] at k; subst k; exact H
  · rename_i i
    simp only at k
    split at k
    · rename_i hi
      have hi : i < fn := by simpa [Nat.blt_eq] using hi
      simp only [Option.some.injEq] at k
      subst k
      refine ⟨by simpa [Act.put] using H.size, fun j u hj => ?_, H.df⟩
      simp only [T.get_put] at hj
      simp only [Act.put]
      split at hj
      · rename_i hji
        subst hji
        simp only [Option.some.injEq] at hj
        subst hj
        have hlt : j < a.tmps.size := by rw [H.size]; exact hi
        exact ⟨x, by rw [Array.getElem?_setIfInBounds_self_of_lt hlt], hv⟩
      · rename_i hji
        obtain ⟨y, hy, hu⟩ := H.ft j u hj
        exact ⟨y, by rw [Array.getElem?_setIfInBounds_ne (fun h => hji h.symm)]; exact hy, hu⟩
    · cases k

def deferA (fr : Fr) (f : FuncId) (cs as : List AV) : Fr := match fr with
  | ⟨t, n, d⟩ => ⟨t, n, (f, cs, as) :: d⟩
theorem deferA_eq (fr : Fr) (f : FuncId) (cs as : List AV) : deferA fr f cs as = { fr with defers := (f, cs, as) :: fr.defers } := by cases fr; rfl

def undefA : AV := .tuple []
theorem undefA_vr {e : Env} : VR e undefA undef := by simp only [undefA, VR]; exact ⟨#[], rfl, VRs_nil⟩

def wantedA (ops : Array Oper) (t : T AV) (o : Oper) : Option Bool :=
  match o.guard with
  | none => some true
  | some (j, want) => match (ops[j]?).bind (·.dst) with
    | none => some false
    | some d => match t.get d with
      | some (.bool b) => some (match b, want with | true, true => true | false, false => true | _, _ => false)
      | some (.tuple _) => some false
      | _ => none

theorem wantedA_ok {e : Env} {t : T AV} {a : Act} (h : FT e t a) {ops : Array Oper} {o : Oper} {b : Bool} (k : wantedA ops t o = some b) : Region.wanted o (yielded ops a.tmps) = b := by
  unfold wantedA at k
  split at k
  · rename_i hg; simp only [Option.some.injEq] at k; subst k; simp [Region.wanted, hg]
  · rename_i j want hg
    split at k
    · rename_i hd; simp only [Option.some.injEq] at k; subst k; simp [Region.wanted, hg, yielded, hd]
    · rename_i d hd
      split at k
      · rename_i c hc
        simp only [Option.some.injEq] at k
        obtain ⟨x, hx, hv⟩ := h _ _ hc
        simp only [VR] at hv
        subst hv
        subst k
        simp only [Region.wanted, hg, yielded, hd, Option.bind_some, hx]
        cases c <;> cases want <;> rfl
      · rename_i vs hc
        simp only [Option.some.injEq] at k
        obtain ⟨x, hx, hv⟩ := h _ _ hc
        simp only [VR] at hv
        obtain ⟨as, rfl, _⟩ := hv
        subst k
        simp [Region.wanted, hg, yielded, hd, hx]
      · cases k

inductive X where
  | normal
  | exit (i : Nat)
  | ret
  | panic (c : List (AV × Bool))

def XR (e : Env) : X → Exit → Prop
  | .normal, .normal => True
  | .exit i, .exit j => i = j
  | .ret, .ret => True
  | .panic c, .panic l => ChR e c l
  | _, _ => False

/-- The frame behind: whole; but behind a panic in a frame without deferred calls nothing is asked of its slots. -/
def FX (e : Env) (x : X) (fr : Fr) (a : Act) : Prop :=
  match x, fr.defers with
  | .panic _, [] => a.defers = []
  | _, _ => FrR e fr a

theorem FrR.fx {e : Env} {fr : Fr} {a : Act} (h : FrR e fr a) (x : X) : FX e x fr a := by
  unfold FX
  split
  · rename_i hd; have := h.df; rw [hd] at this; exact this
  · exact h

def CodePost (Ω : Om) (w0 : Base) (e : Env) (x : X) (fr : Fr) (s : St) : Exit → Act → World → Prop := fun ex a w => ∃ e', e.le e' ∧ Rel Ω w0 e' s w ∧ XR e' x ex ∧ FX e' x fr a

/-- The results of an operation, laid down. -/
def lay (fr : Fr) (o : Oper) : Res → Option (Fr × St)
  | .val v s => (putA fr o.dst v).map (·, s)
  | .skip s => (putA fr o.dst undefA).map (·, s)
  | _ => none

def opsRun (P : Program) (F : Facts) (call : Caller) (ops : Array Oper) : List Oper → Fr → St → Option (X × Fr × St)
  | [], fr, s => some (.normal, fr, s)
  | o :: rest, fr, s => match wantedA ops fr.t o with
    | some false => match putA fr o.dst undefA with
      | some fr' => opsRun P F call ops rest fr' s
      | none => none
    | some true => match quietA P (s.memF F) fr.t o with
      | some v => match putA fr o.dst v with
        | some fr' => opsRun P F call ops rest fr' s
        | none => none
      | none => match actB P F.ask call fr.t s o with
        | some (.val v s') => match putA fr o.dst v with
          | some fr' => opsRun P F call ops rest fr' s'
          | none => none
        | some (.skip s') => match putA fr o.dst undefA with
          | some fr' => opsRun P F call ops rest fr' s'
          | none => none
        | some (.pan c s') => some (.panic c, fr, s')
        | some (.dfr f cs as) => match putA (deferA fr f cs as) o.dst undefA with
          | some fr' => opsRun P F call ops rest fr' s
          | none => none
        | none => none
    | none => none

theorem opsRun_ok {P : Program} (S : Sound P) {Ω : Om} {w0 : Base} {call : Caller} (hc : CallOK P Ω w0 call) {F : Facts} (hF : FactsOK P Ω w0 F) (ops : Array Oper) : ∀ (l : List Oper) (fr : Fr) (s : St) (x : X) (fr' : Fr) (s' : St), opsRun P F call ops l fr s = some (x, fr', s') →
    ∀ (e : Env) (a : Act) (w : World), Rel Ω w0 e s w → FrR e fr a → ∀ Q : Exit → Act → World → Prop, (∀ ex a' w', CodePost Ω w0 e x fr' s' ex a' w' → Q ex a' w') → wpList P ops Q l a w
  | [], fr, s, x, fr', s', k, e, a, w, hr, hf, Q, H => by
    simp only [opsRun, Option.some.injEq, Prod.mk.injEq] at k
    obtain ⟨rfl, rfl, rfl⟩ := k
    exact H _ _ _ ⟨e, Env.le_refl e, hr, trivial, hf.fx _⟩
  | o :: rest, fr, s, x, fr', s', k, e, a, w, hr, hf, Q, H => by
    have next : ∀ (fr1 : Fr) (s1 : St), opsRun P F call ops rest fr1 s1 = some (x, fr', s') → ∀ e1 a1 w1, e.le e1 → Rel Ω w0 e1 s1 w1 → FrR e1 fr1 a1 → wpList P ops Q rest a1 w1 := fun fr1 s1 k1 e1 a1 w1 hle h1 h2 =>
      opsRun_ok S hc hF ops rest fr1 s1 x fr' s' k1 e1 a1 w1 h1 h2 Q fun ex a' w' ⟨e2, g1, g2, g3, g4⟩ => H ex a' w' ⟨e2, Env.le_trans hle g1, g2, g3, g4⟩
    unfold opsRun at k
    unfold wpList
    split at k
    · rename_i hw
      rw [if_neg (by rw [wantedA_ok hf.ft hw]; simp)]
      split at k
      · rename_i fr1 hp
        exact next fr1 s k e _ w (Env.le_refl e) hr (hf.put undefA_vr hp)
      · cases k
    · rename_i hw
      rw [if_pos (by rw [wantedA_ok hf.ft hw])]
      left
      split at k
      · rename_i v hq
        obtain ⟨y, hy, hrun⟩ := quietA_run (hr.readsF hF) hf.ft hq
        split at k
        · rename_i fr1 hp
          simp only [Oper.wp, hrun w rfl, Oper.upon_value]
          exact next fr1 s k e _ w (Env.le_refl e) hr (hf.put hy hp)
        · cases k
      · split at k
        · rename_i v s1 hact
          refine actB_run S hc hF.ask hf.ft hr hact _ Q ?_
          intro e1 y w1 g1 g2 g3
          split at k
          · rename_i fr1 hp
            exact next fr1 s1 k e1 _ w1 g1 g3 ((hf.mono g1).put g2 hp)
          · cases k
        · rename_i s1 hact
          refine actB_run S hc hF.ask hf.ft hr hact _ Q ?_
          intro w1 g3
          split at k
          · rename_i fr1 hp
            exact next fr1 s1 k e _ w1 (Env.le_refl e) g3 (hf.put undefA_vr hp)
          · cases k
        · rename_i c s1 hact
          refine actB_run S hc hF.ask hf.ft hr hact _ Q ?_
          intro e1 l w1 g1 g2 g3
          simp only [Option.some.injEq, Prod.mk.injEq] at k
          obtain ⟨rfl, rfl, rfl⟩ := k
          exact H _ _ _ ⟨e1, g1, g3, g2, (hf.mono g1).fx _⟩
        · rename_i f cs as hact
          refine actB_run S hc hF.ask hf.ft hr hact _ Q ?_
          intro xs ys g1 g2
          rw [deferA_eq] at k
          split at k
          · rename_i fr1 hp
            refine next fr1 s k e _ w (Env.le_refl e) hr (FrR.put (fr := { fr with defers := (f, cs, as) :: fr.defers }) (a := { a with defers := { target := .fn (.func f) xs.toArray, args := ys.toArray } :: a.defers }) ⟨hf.size, hf.ft, ?_⟩ undefA_vr hp)
            exact ⟨xs.toArray, ys.toArray, a.defers, rfl, by simpa using g1, by simpa using g2, hf.df⟩
          · cases k
        · cases k
    · cases k

/-! ### regions that draw their order -/
/-- Only reading: one walk of the text's order. -/
def stillRun (P : Program) (m : Mem) (ops : Array Oper) : List Oper → Fr → Option Fr
  | [], fr => some fr
  | o :: rest, fr => match wantedA ops fr.t o with
    | some false => match putA fr o.dst undefA with
      | some fr' => stillRun P m ops rest fr'
      | none => none
    | some true => match quietA P m fr.t o with
      | some v => match putA fr o.dst v with
        | some fr' => stillRun P m ops rest fr'
        | none => none
      | none => none
    | none => none

theorem stillRun_ok {P : Program} {Ω : Om} {w0 : Base} {F : Facts} (hF : FactsOK P Ω w0 F) {e : Env} {s : St} {w : World} (hr : Rel Ω w0 e s w) (ops : Array Oper) (Q : Act → Prop) : ∀ (l : List Oper) (fr fr' : Fr), stillRun P (s.memF F) ops l fr = some fr' → ∀ a, FrR e fr a → (∀ a', FrR e fr' a' → Q a') → wpStill P ops w Q l a
  | [], fr, fr', k, a, hf, H => by simp only [stillRun, Option.some.injEq] at k; subst k; exact H a hf
  | o :: rest, fr, fr', k, a, hf, H => by
    unfold stillRun at k
    unfold wpStill
    split at k
    · rename_i hw
      rw [if_neg (by rw [wantedA_ok hf.ft hw]; simp)]
      split at k
      · rename_i fr1 hp; exact stillRun_ok hF hr ops Q rest fr1 fr' k _ (hf.put undefA_vr hp) H
      · cases k
    · rename_i hw
      rw [if_pos (by rw [wantedA_ok hf.ft hw])]
      split at k
      · rename_i v hq
        obtain ⟨y, hy, hrun⟩ := quietA_run (hr.readsF hF) hf.ft hq
        split at k
        · rename_i fr1 hp
          simp only [Oper.still, hrun w rfl, Oper.stillUpon_value]
          exact stillRun_ok hF hr ops Q rest fr1 fr' k _ (hf.put hy hp) H
        · cases k
      · cases k
    · cases k

def sameCell : AV → AV → Bool
  | .bool a, .bool b => match a, b with | true, true => true | false, false => true | _, _ => false
  | .int k a, .int l b => decide (k = l) && decide (a = b)
  | .nilptr, .nilptr => true
  | .ptr i o, .ptr j p => Nat.beq i j && Nat.beq o p
  | .nilslice, .nilslice => true
  | .slice i o l c b, .slice i' o' l' c' b' => Nat.beq i i' && Nat.beq o o' && Nat.beq l l' && Nat.beq c c' && (b == b')
  | .str a, .str b => decide (a.data.toList = b.data.toList)
  | .niliface, .niliface => true
  | .nilmap, .nilmap => true
  | .nilfunc, .nilfunc => true
  | .mapv i, .mapv j => Nat.beq i j
  | .opq i, .opq j => Nat.beq i j
  | .byte i, .byte j => Nat.beq i j
  | .sint k x, .sint l y => decide (k = l) && x.beq y
  | _, _ => false

theorem sameCell_ok {e : Env} {u v : AV} (h : sameCell u v = true) {x y : Value} (hx : VR e u x) (hy : VR e v y) : x = y := by
  unfold sameCell at h
  split at h <;> (first | (cases h; done) | simp only [VR] at hx hy)
  · rename_i a b
    subst hx hy
    cases a <;> cases b <;> simp_all
  · simp only [Bool.and_eq_true, decide_eq_true_eq] at h; obtain ⟨rfl, rfl⟩ := h; rw [hx, hy]
  · rw [hx, hy]
  · simp only [Bool.and_eq_true] at h
    obtain rfl := beq_t h.1
    obtain rfl := beq_t h.2
    obtain ⟨b, hb, rfl⟩ := hx
    obtain ⟨c, hc, rfl⟩ := hy
    rw [hb] at hc; cases hc; rfl
  · rw [hx, hy]
  · simp only [Bool.and_eq_true, beq_iff_eq] at h
    obtain ⟨⟨⟨⟨h1, h2⟩, h3⟩, h4⟩, rfl⟩ := h
    obtain rfl := beq_t h1
    obtain rfl := beq_t h2
    obtain rfl := beq_t h3
    obtain rfl := beq_t h4
    obtain ⟨b, hb, rfl⟩ := hx
    obtain ⟨c, hc, rfl⟩ := hy
    rw [hb] at hc; cases hc; rfl
  · rename_i a b
    simp only [decide_eq_true_eq] at h
    have : a = b := by
      cases a; cases b
      simp only at h
      rw [Array.toList_inj.1 h]
    rw [hx, hy, this]
  · rw [hx, hy]
  · rw [hx, hy]
  · rw [hx, hy]
  · obtain rfl := beq_t h
    obtain ⟨b, hb, rfl⟩ := hx
    obtain ⟨c, hc, rfl⟩ := hy
    rw [hb] at hc; cases hc; rfl
  · obtain rfl := beq_t h
    rw [hx.1, hy.1]
  · obtain rfl := beq_t h
    obtain ⟨n, rfl, hn⟩ := hx
    obtain ⟨m, rfl, hm⟩ := hy
    rw [hn] at hm
    exact hm
  · simp only [Bool.and_eq_true, decide_eq_true_eq] at h
    obtain ⟨rfl, h⟩ := h
    obtain rfl := E.beq_eq h
    rw [hx.1, hy.1]

def isIn (id off : Nat) : List (Nat × Nat) → Bool
  | [] => false
  | (i, o) :: r => (Nat.beq i id && Nat.beq o off) || isIn id off r

theorem isIn_mem {id off : Nat} : ∀ {H : List (Nat × Nat)}, isIn id off H = true → (id, off) ∈ H
  | [], h => by simp [isIn] at h
  | (i, o) :: r, h => by
    simp only [isIn, Bool.or_eq_true, Bool.and_eq_true] at h
    rcases h with ⟨h1, h2⟩ | h
    · obtain rfl := beq_t h1
      obtain rfl := beq_t h2
      simp
    · exact List.mem_cons_of_mem _ (isIn_mem h)

/-- Cells that are held: they stay as they are till the region ends; of a row of numbers all; and what was there before the run. -/
def heldMem (A : Ask) (s : St) (H : List (Nat × Nat)) : Mem where
  cell id off := match s.heap.get id with
    | some (.ext b) => b.at off
    | some (.cells b) => match isIn id off H with
      | true => b.at off
      | false => none
    | some (.seq q) => match isIn id 0 H with
      | true => q.at off
      | false => none
    | _ => none
  apart _ _ := false
  fact := none
  ask := A
  z := s.zR
  seq id := match s.heap.get id with
    | some (.eseq q) => some q
    | some (.ext b) => b.nums
    | some (.seq q) => match isIn id 0 H with
      | true => some ⟨q.k, q.n, q.x⟩
      | false => none
    | _ => none

def Held (w0 : Base) (e : Env) (w1 : World) (s0 : St) (H : List (Nat × Nat)) (w : World) : Prop := Und w0 w ∧ ∀ p ∈ H, ∀ b, e.loc p.1 = some b → match s0.seqR p.1 with
  | some q => ∀ j n, (q.x.s e.opq)[j]? = some n → w.cell? ⟨b, e.base p.1 + j, none⟩ = some (.int q.k n)
  | none => w.cell? ⟨b, p.2, none⟩ = w1.cell? ⟨b, p.2, none⟩

theorem kept_cell {w0 : Base} {w w1 : World} (h : Und w0 w) (h1 : Und w0 w1) {k : Nat} (hk : w0.kept k) (o : Nat) : w.cell? ⟨k, o, none⟩ = w1.cell? ⟨k, o, none⟩ := by
  have := (h.block k hk.1 hk.2).trans (h1.block k hk.1 hk.2).symm
  simp only [World.cell?, this]

theorem held_reads {P : Program} {Ω : Om} {w0 : Base} {e e1 : Env} {s : St} {w1 : World} (hr : Rel Ω w0 e s w1) (hle : e.le e1) {A : Ask} (hA : AskOK Ω A) (H : List (Nat × Nat)) : Reads P e1 (heldMem A s H) (Held w0 e w1 s H) where
  cell id off v k := by
    simp only [heldMem] at k
    split at k
    · rename_i b hb
      obtain ⟨kk, x, hl, hv, hc⟩ := (hr.reads (P := P)).cell id off v (by simp only [St.mem, St.cellR, hb]; exact k)
      obtain ⟨k2, hl2, hO⟩ := hr.obj id _ hb
      rw [hl] at hl2
      cases hl2
      exact ⟨kk, x, (hle.loc _ _ hl).1, hv.mono hle, fun w' hw' => by rw [kept_cell hw'.1 hr.below hO.1]; exact hc w1 rfl⟩
    · rename_i b hb
      split at k
      · rename_i hin
        obtain ⟨kk, x, hl, hv, hc⟩ := (hr.reads (P := P)).cell id off v (by simp only [St.mem, St.cellR, hb]; exact k)
        refine ⟨kk, x, (hle.loc _ _ hl).1, hv.mono hle, fun w' hw' => ?_⟩
        have := hw'.2 _ (isIn_mem hin) kk hl
        simp only [St.seqR, hb] at this
        rw [this]; exact hc w1 rfl
      · cases k
    · rename_i q hb
      split at k
      · rename_i hin
        obtain ⟨kk, hl, _, h0, arr, fz, hrow, hR⟩ := hr.obj id _ hb
        obtain ⟨c, h1, h2⟩ := SB.at_ok k hR.n hR.rng
        refine ⟨kk, .int q.k c, (hle.loc _ _ hl).1, h2.mono hle, fun w' hw' => ?_⟩
        have := hw'.2 _ (isIn_mem hin) kk hl
        simp only [St.seqR, hb] at this
        have := this off c h1
        rw [h0, Nat.zero_add] at this
        exact this
      · cases k
    · cases k
  apart i j k := by cases k
  fact G hG := by cases hG
  ask := by rw [hle.opq, hr.opq]; exact hA
  zero id k := by
    have h0 := (hr.reads (P := P)).zero id k
    simp only [heldMem, St.zR] at k
    split at k
    · cases k
    · rename_i o ho hno
      obtain ⟨kk, hl, _⟩ := hr.obj id o hno
      rw [(hle.loc _ _ hl).2.2]; exact h0
    · cases k
  seq id q k := by
    simp only [heldMem] at k
    split at k
    · rename_i q' hb
      simp only [Option.some.injEq] at k
      subst k
      obtain ⟨kk, hl, hn, hg, hc⟩ := (hr.reads (P := P)).seq id q' (by simp only [St.mem, St.numsR, hb])
      obtain ⟨k2, hl2, hO⟩ := hr.obj id _ hb
      rw [hl] at hl2
      cases hl2
      refine ⟨kk, (hle.loc _ _ hl).1, by rw [hle.opq]; exact hn, by rw [hle.opq]; exact hg, fun w' hw' j n hj => ?_⟩
      rw [hle.opq] at hj
      rw [(hle.loc _ _ hl).2.2, kept_cell hw'.1 hr.below hO.1]
      exact hc w1 rfl j n hj
    · rename_i b hb
      obtain ⟨kk, hl, hn, hg, hc⟩ := (hr.reads (P := P)).seq id q (by simp only [St.mem, St.numsR, hb]; exact k)
      obtain ⟨k2, hl2, hO⟩ := hr.obj id _ hb
      rw [hl] at hl2
      cases hl2
      refine ⟨kk, (hle.loc _ _ hl).1, by rw [hle.opq]; exact hn, by rw [hle.opq]; exact hg, fun w' hw' j n hj => ?_⟩
      rw [hle.opq] at hj
      rw [(hle.loc _ _ hl).2.2, kept_cell hw'.1 hr.below hO.1]
      exact hc w1 rfl j n hj
    · rename_i q' hb
      split at k
      · rename_i hin
        simp only [Option.some.injEq] at k
        subst k
        obtain ⟨b, hb2, hn, hg, hc⟩ := (hr.reads (P := P)).seq id ⟨q'.k, q'.n, q'.x⟩ (by simp only [St.mem, St.numsR, hb])
        refine ⟨b, (hle.loc _ _ hb2).1, by rw [hle.opq]; exact hn, by rw [hle.opq]; exact hg, fun w' hw' j n hj => ?_⟩
        have := hw'.2 _ (isIn_mem hin) b hb2
        simp only [St.seqR, hb] at this
        rw [(hle.loc _ _ hb2).2.2]
        rw [hle.opq] at hj
        exact this j n hj
      · cases k
    · cases k

theorem St.seqR_nums {s : St} {id : Nat} {q : SQ} (h : s.seqR id = some q) : s.numsR id = some q := by
  unfold St.seqR at h
  unfold St.numsR
  split at h
  · rename_i c hc; rw [hc]; exact h
  · rename_i c hc; rw [hc]; exact h
  · cases h

/-- Are the held cells as they were? -/
def keeps (s0 s : St) : List (Nat × Nat) → Bool
  | [] => true
  | (i, o) :: r => match s0.seqR i with
    | some q => match s.seqR i with
      | some q' => decide (q.k = q'.k) && q.x.beq q'.x && keeps s0 s r
      | none => false
    | none => match s0.mem.cell i o, s.mem.cell i o with
      | some u, some v => sameCell u v && keeps s0 s r
      | _, _ => false

theorem keeps_ok {Ω : Om} {w0 : Base} {e e1 : Env} {s0 s : St} {w1 w : World} (h0 : Rel Ω w0 e s0 w1) (h1 : Rel Ω w0 e1 s w) (hle : e.le e1) (H : List (Nat × Nat)) (k : keeps s0 s H = true) : Held w0 e w1 s0 H w := by
  refine ⟨h1.below, ?_⟩
  induction H with
  | nil => intro p hp; cases hp
  | cons q0 r ih =>
    obtain ⟨i, o⟩ := q0
    intro p hp b hb
    simp only [keeps] at k
    split at k
    · rename_i q hq
      split at k
      · rename_i q' hq'
        simp only [Bool.and_eq_true, decide_eq_true_eq] at k
        obtain ⟨⟨k1, k2⟩, k3⟩ := k
        have k2 := E.beq_eq k2
        rcases List.mem_cons.1 hp with rfl | hp
        · simp only [hq]
          obtain ⟨b2, l2, _, _, c2⟩ := (h1.reads (P := default)).seq _ _ (St.seqR_nums hq')
          simp only at hb
          obtain rfl : b2 = b := by rw [(hle.loc _ _ hb).1] at l2; exact (Option.some.inj l2).symm
          intro j n hj
          have := c2 w rfl j n (by rw [← k2, hle.opq]; exact hj)
          rw [(hle.loc _ _ hb).2.2] at this
          rw [this, k1]
        · exact ih k3 p hp b hb
      · cases k
    · rename_i hq
      split at k
      · rename_i u v hu hv
        simp only [Bool.and_eq_true] at k
        rcases List.mem_cons.1 hp with rfl | hp
        · simp only [hq]
          obtain ⟨b1, x, l1, v1, c1⟩ := (h0.reads (P := default)).cell _ _ _ hu
          obtain ⟨b2, y, l2, v2, c2⟩ := (h1.reads (P := default)).cell _ _ _ hv
          simp only at hb
          obtain rfl : b1 = b := by rw [hb] at l1; exact (Option.some.inj l1).symm
          obtain rfl : b2 = b1 := by rw [(hle.loc _ _ hb).1] at l2; exact (Option.some.inj l2).symm
          rw [c1 w1 rfl, c2 w rfl, sameCell_ok k.1 (v1.mono hle) v2]
        · exact ih k.2 p hp b hb
      · cases k

theorem held_start {Ω : Om} {w0 : Base} {e : Env} {s : St} {w : World} (hr : Rel Ω w0 e s w) (H : List (Nat × Nat)) : Held w0 e w s H w := by
  refine ⟨hr.below, fun p _ b hb => ?_⟩
  split
  · rename_i q hq
    obtain ⟨b2, l2, _, _, c2⟩ := (hr.reads (P := default)).seq _ _ (St.seqR_nums hq)
    obtain rfl : b2 = b := by rw [hb] at l2; exact (Option.some.inj l2).symm
    exact c2 w rfl
  · rfl

/-! A region in whatever order, with a condition on the world that may hang on which operations have come up. -/
section
variable {P : Program} {ops : Array Oper} {Q : Exit → Act → World → Prop} {S : Array Bool → World → Prop}

def wpAnyD (P : Program) (ops : Array Oper) (Q : Exit → Act → World → Prop) (S : Array Bool → World → Prop) : Nat → Array Bool → Act → World → Prop
  | 0, listed, a, w => Region.ready .any ops listed = [] ∧ Q .normal a w
  | fuel + 1, listed, a, w =>
    (Region.ready .any ops listed = [] → Q .normal a w) ∧
    ∀ i ∈ Region.ready .any ops listed, wpOp P ops Q i (fun a' w' => S (listed.setIfInBounds i true) w' ∧ wpAnyD P ops Q S fuel (listed.setIfInBounds i true) a' w') a w

theorem wpAny_of_D : ∀ (fuel : Nat) (listed : Array Bool) (a : Act) (w : World), wpAnyD P ops Q S fuel listed a w → wpAny P .any ops Q fuel listed a w
  | 0, _, _, _, h => h
  | fuel + 1, _, _, _, h => ⟨h.1, fun i hi => wpOp_mono (fun a' w' h' => wpAny_of_D fuel _ a' w' h'.2) (h.2 i hi)⟩

/-- An operation that may come up may be taken first, if it yields its value in every world that can be met till it comes up. -/
theorem wpAnyD_first {i : Nat} {oi : Oper} {v : Value} (hi : ops[i]? = some oi) (hsel : ∀ (j : Nat) (o : Oper) cs b, ops[j]? = some o → o.op ≠ .select cs b)
    (hQ : ∀ c a w, Q (.panic c) (a.put oi.dst v) w → Q (.panic c) a w) (M : World → Prop) (good : Array Bool → Prop)
    (hstep : ∀ L j, good L → L.getD i true = false → j ∈ Region.ready .any ops L → j ≠ i → good (L.setIfInBounds j true))
    (hM : ∀ L w, good L → S L w → M w) (hup : ∀ L w, S L w → S (L.setIfInBounds i true) w) (hdn : ∀ L w, S (L.setIfInBounds i true) w → S L w) :
    ∀ (fuel : Nat) (listed : Array Bool) (a : Act) (w : World), good listed →
      (∀ j oj, ops[j]? = some oj → j ≠ i → listed.getD j true = false → (∀ e ∈ oj.after, Region.binds .any e = true → e.on ≠ i) → oi.apart ops oj = true) →
      i ∈ Region.ready .any ops listed → YieldsIf P ops M oi v a → S listed w →
      wpAnyD P ops Q S fuel (listed.setIfInBounds i true) (a.put oi.dst v) w → wpAnyD P ops Q S (fuel + 1) listed a w := by
  intro fuel
  induction fuel with
  | zero =>
    intro listed a w hg _ hr hy hS H
    refine ⟨fun h => (by rw [h] at hr; cases hr), fun j hj => ?_⟩
    by_cases hji : j = i
    · subst hji; exact hy.wpOp hi (hM _ _ hg hS) ⟨hup _ _ hS, H⟩
    · have := ready_mono hj hji
      rw [H.1] at this
      cases this
  | succ fuel ih =>
    intro listed a w hg hfree hr hy hS H
    refine ⟨fun h => (by rw [h] at hr; cases hr), fun j hj => ?_⟩
    by_cases hji : j = i
    · subst hji; exact hy.wpOp hi (hM _ _ hg hS) ⟨hup _ _ hS, H⟩
    · have h1 := H.2 j (ready_mono hj hji)
      obtain ⟨hjun, oj, hoj, hall⟩ := mem_ready.1 hj
      have hnot : ∀ e ∈ oj.after, Region.binds .any e = true → e.on ≠ i := fun e he hb heq => by
        have h1 := hall e he hb
        have h0 := (mem_ready.1 hr).1
        rw [heq] at h1
        rcases Nat.lt_or_ge i listed.size with h' | h'
        · simp [h'] at h0 h1; rw [h0] at h1; cases h1
        · simp [Array.getElem?_eq_none h'] at h1
      have h2 := wpOp_putIf hoj (hfree j oj hoj hji hjun hnot) (fun cs b => hsel i oi cs b hi) (fun cs b => hsel j oj cs b hoj) hQ hy h1
      have hfree' : ∀ k ok, ops[k]? = some ok → k ≠ i → (listed.setIfInBounds j true).getD k true = false →
          (∀ e ∈ ok.after, Region.binds .any e = true → e.on ≠ i) → oi.apart ops ok = true := fun k ok hk hki hun hno => by
        refine hfree k ok hk hki ?_ hno
        by_cases hjk : j = k
        · subst hjk; exact hjun
        · rw [getD_set_ne true hjk] at hun; exact hun
      refine wpOp_mono (fun a' w' h3 => ?_) h2
      have hcomm := Array.setIfInBounds_comm (xs := listed) true true (Ne.symm hji)
      have hS' : S (listed.setIfInBounds j true) w' := hdn _ _ (by rw [Array.setIfInBounds_comm _ _ hji]; exact h3.2.1)
      refine ⟨hS', ih (listed.setIfInBounds j true) a' w' (hstep _ _ hg (mem_ready.1 hr).1 hj hji) hfree' (ready_mono hr (Ne.symm hji)) h3.1 hS' ?_⟩
      rw [Array.setIfInBounds_comm _ _ hji]
      exact h3.2.2

theorem wpAnyD_all {rs : List Nat} {fuel : Nat} {listed : Array Bool} {a : Act} {w : World} (hr : Region.ready .any ops listed = rs) (hne : rs ≠ [])
    (h : ∀ i ∈ rs, wpOp P ops Q i (fun a' w' => S (listed.setIfInBounds i true) w' ∧ wpAnyD P ops Q S fuel (listed.setIfInBounds i true) a' w') a w) : wpAnyD P ops Q S (fuel + 1) listed a w :=
  ⟨fun h0 => absurd (hr ▸ h0) hne, hr ▸ h⟩

theorem wpAnyD_done {listed : Array Bool} {a : Act} {w : World} (hr : Region.ready .any ops listed = []) (h : Q .normal a w) : ∀ fuel, wpAnyD P ops Q S fuel listed a w
  | 0 => ⟨hr, h⟩
  | _ + 1 => ⟨fun _ => h, by rw [hr]; simp⟩
end

def isNum (i : Nat) : List Nat → Bool
  | [] => false
  | j :: r => Nat.beq i j || isNum i r

theorem isNum_mem {i : Nat} : ∀ {l : List Nat}, isNum i l = true → i ∈ l
  | [], h => by cases h
  | j :: r, h => by
    simp only [isNum, Bool.or_eq_true] at h
    rcases h with h | h
    · rw [beq_t h]; simp
    · exact List.mem_cons_of_mem _ (isNum_mem h)

/-- Whatever waits for operation i, through others or not. -/
def waiters (ops : Array Oper) (i : Nat) : Nat → Nat → List Nat → List Nat
  | 0, _, acc => acc
  | n + 1, k, acc => waiters ops i n (k + 1) (match ops[k]? with
    | some o => match o.after.any fun e => Region.binds .any e && (Nat.beq e.on i || isNum e.on acc) with
      | true => k :: acc
      | false => acc
    | none => acc)

/-- Every one of the list waits for i, or for one of the list. -/
def blocked (ops : Array Oper) (i : Nat) (E : List Nat) : Bool := E.all fun d => !Nat.beq d i && match ops[d]? with
  | some o => o.after.any fun e => Region.binds .any e && (Nat.beq e.on i || isNum e.on E)
  | none => false

def unlisted (listed : Array Bool) (E : List Nat) : Bool := E.all fun d => !listed.getD d false

theorem unlisted_mem {listed : Array Bool} {E : List Nat} (h : unlisted listed E = true) {d : Nat} (hd : d ∈ E) : listed.getD d false = false := by
  have := List.all_eq_true.1 h d hd
  simpa using this

theorem blocked_step {ops : Array Oper} {i : Nat} {E : List Nat} (h : blocked ops i E = true) (L : Array Bool) (j : Nat) (hg : unlisted L E = true) (hi : L.getD i true = false) (hj : j ∈ Region.ready .any ops L) : unlisted (L.setIfInBounds j true) E = true := by
  have hjE : j ∉ E := by
    intro hjE
    have hb := List.all_eq_true.1 h j hjE
    simp only [Bool.and_eq_true] at hb
    obtain ⟨_, oj, hoj, hall⟩ := mem_ready.1 hj
    rw [hoj] at hb
    obtain ⟨e, he, hbe⟩ := Array.any_eq_true'.1 hb.2
    simp only [Bool.and_eq_true, Bool.or_eq_true] at hbe
    have hl := hall e he hbe.1
    rcases hbe.2 with h1 | h1
    · have h1 := beq_t h1
      rw [h1] at hl
      rcases Nat.lt_or_ge i L.size with h' | h'
      · simp [h'] at hi hl; rw [hi] at hl; cases hl
      · simp [Array.getElem?_eq_none h'] at hl
    · rw [unlisted_mem hg (isNum_mem h1)] at hl
      cases hl
  refine List.all_eq_true.2 fun d hd => ?_
  have hne : j ≠ d := fun x => hjE (x ▸ hd)
  rw [getD_set_ne false hne]
  have := unlisted_mem hg hd
  simp [this]

def noMem (A : Ask) : Mem := ⟨fun _ _ => none, fun _ _ => false, none, A, fun _ => false, fun _ => none⟩
theorem noMem_reads (P : Program) (e : Env) {A : Ask} (hA : AskOK e.opq A) : Reads P e (noMem A) (fun _ => True) where
  cell _ _ _ k := by cases k
  apart _ _ k := by cases k
  fact _ k := by cases k
  ask := hA
  zero _ k := by cases k
  seq _ _ k := by cases k

/-- Till one of D has come up the held cells are as they were. -/
def HeldD (w0 : Base) (e : Env) (w1 : World) (s0 : St) (H : List (Nat × Nat)) (D : List Nat) (listed : Array Bool) (w : World) : Prop := unlisted listed D = true → Held w0 e w1 s0 H w

theorem unlisted_set {listed : Array Bool} {D : List Nat} {i : Nat} (h : isNum i D = false) : unlisted (listed.setIfInBounds i true) D = unlisted listed D := by
  unfold unlisted
  induction D with
  | nil => rfl
  | cons d D ih =>
    simp only [isNum, Bool.or_eq_false_iff] at h
    simp only [List.all_cons]
    rw [ih h.2, getD_set_ne false (beq_f h.1)]

theorem unlisted_down {listed : Array Bool} {D : List Nat} {i : Nat} (h : unlisted (listed.setIfInBounds i true) D = true) : unlisted listed D = true := by
  refine List.all_eq_true.2 fun d hd => ?_
  have := unlisted_mem h hd
  cases hl : listed.getD d false with
  | false => rfl
  | true => rw [getD_set_true hl] at this; cases this

/-- What may be taken first: its number, itself, its value. -/
def takeOne (P : Program) (ops : Array Oper) (m : Mem) (D : List Nat) (fr : Fr) (listed : Array Bool) : List Nat → Option (Nat × Oper × AV)
  | [] => none
  | i :: rs => match ops[i]? with
    | some o => match Region.free .any ops listed i && !isNum i D with
      | true => match wantedA ops fr.t o with
        | some false => some (i, o, undefA)
        | some true => match quietA P (noMem m.ask) fr.t o with
          | some v => some (i, o, v)
          | none => match quietA P m fr.t o with
            | some v => match (let E := waiters ops i ops.size 0 []; blocked ops i E && unlisted listed E && D.all (isNum · E)) with
              | true => some (i, o, v)
              | false => takeOne P ops m D fr listed rs
            | none => takeOne P ops m D fr listed rs
        | none => takeOne P ops m D fr listed rs
      | false => takeOne P ops m D fr listed rs
    | none => takeOne P ops m D fr listed rs

theorem takeOne_ok {P : Program} {ops : Array Oper} {m : Mem} {D : List Nat} {fr : Fr} {listed : Array Bool} {i : Nat} {o : Oper} {v : AV} : ∀ (l : List Nat), takeOne P ops m D fr listed l = some (i, o, v) →
    i ∈ l ∧ ops[i]? = some o ∧ Region.free .any ops listed i = true ∧ isNum i D = false ∧ ((wantedA ops fr.t o = some false ∧ v = undefA) ∨ (wantedA ops fr.t o = some true ∧ quietA P (noMem m.ask) fr.t o = some v) ∨
      (wantedA ops fr.t o = some true ∧ quietA P m fr.t o = some v ∧ ∃ E, blocked ops i E = true ∧ unlisted listed E = true ∧ D.all (isNum · E) = true))
  | [], k => by cases k
  | j :: l, k => by
    have onward : takeOne P ops m D fr listed l = some (i, o, v) → i ∈ j :: l ∧ ops[i]? = some o ∧ Region.free .any ops listed i = true ∧ isNum i D = false ∧ ((wantedA ops fr.t o = some false ∧ v = undefA) ∨ (wantedA ops fr.t o = some true ∧ quietA P (noMem m.ask) fr.t o = some v) ∨
      (wantedA ops fr.t o = some true ∧ quietA P m fr.t o = some v ∧ ∃ E, blocked ops i E = true ∧ unlisted listed E = true ∧ D.all (isNum · E) = true)) :=
      fun k => let ⟨h1, h2⟩ := takeOne_ok l k; ⟨List.mem_cons_of_mem _ h1, h2⟩
    unfold takeOne at k
    split at k
    · rename_i o' ho
      split at k
      · rename_i hfree
        simp only [Bool.and_eq_true, Bool.not_eq_true'] at hfree
        split at k
        · rename_i hw
          simp only [Option.some.injEq, Prod.mk.injEq] at k
          obtain ⟨rfl, rfl, rfl⟩ := k
          exact ⟨by simp, ho, hfree.1, hfree.2, .inl ⟨hw, rfl⟩⟩
        · rename_i hw
          split at k
          · rename_i u hu
            simp only [Option.some.injEq, Prod.mk.injEq] at k
            obtain ⟨rfl, rfl, rfl⟩ := k
            exact ⟨by simp, ho, hfree.1, hfree.2, .inr (.inl ⟨hw, hu⟩)⟩
          · split at k
            · rename_i u hu
              split at k
              · rename_i hb
                simp only [Bool.and_eq_true] at hb
                simp only [Option.some.injEq, Prod.mk.injEq] at k
                obtain ⟨rfl, rfl, rfl⟩ := k
                exact ⟨by simp, ho, hfree.1, hfree.2, .inr (.inr ⟨hw, hu, _, hb.1.1, hb.1.2, hb.2⟩)⟩
              · exact onward k
            · exact onward k
        · exact onward k
      · exact onward k
    · exact onward k

/-- Is what was held as it was, if that is still asked? -/
def keepsD (s0 s : St) (H : List (Nat × Nat)) (D : List Nat) (listed : Array Bool) : Bool :=
  match unlisted listed D with
  | true => keeps s0 s H
  | false => true

def anyRun (P : Program) (F : Facts) (call : Caller) (ops : Array Oper) (s0 : St) (H : List (Nat × Nat)) (D : List Nat) : Nat → Array Bool → Fr → St → Option (X × Fr × St)
  | n, listed, fr, s => match Region.ready .any ops listed with
    | [] => some (.normal, fr, s)
    | i0 :: rs => match n with
      | 0 => none
      | n + 1 => match takeOne P ops (heldMem F.ask s0 H) D fr listed (i0 :: rs) with
        | some (i, o, v) => match putA fr o.dst v with
          | some fr' => anyRun P F call ops s0 H D n (listed.setIfInBounds i true) fr' s
          | none => none
        | none => match rs, ops[i0]? with
          | [], some o => match wantedA ops fr.t o with
            | some false => match putA fr o.dst undefA with
              | some fr' => anyRun P F call ops s0 H D n (listed.setIfInBounds i0 true) fr' s
              | none => none
            | some true => match quietA P (s.memF F) fr.t o with
              | some v => match putA fr o.dst v with
                | some fr' => anyRun P F call ops s0 H D n (listed.setIfInBounds i0 true) fr' s
                | none => none
              | none => match actB P F.ask call fr.t s o with
                | some (.val v s') => match putA fr o.dst v, keepsD s0 s' H D (listed.setIfInBounds i0 true) with
                  | some fr', true => anyRun P F call ops s0 H D n (listed.setIfInBounds i0 true) fr' s'
                  | _, _ => none
                | some (.skip s') => match putA fr o.dst undefA, keepsD s0 s' H D (listed.setIfInBounds i0 true) with
                  | some fr', true => anyRun P F call ops s0 H D n (listed.setIfInBounds i0 true) fr' s'
                  | _, _ => none
                | some (.pan c s') => some (.panic c, fr, s')
                | _ => none
            | none => none
          | _, _ => none

theorem anyRun_ok {P : Program} (S : Sound P) {Ω : Om} {w0 : Base} {call : Caller} (hc : CallOK P Ω w0 call) {F : Facts} (hF : FactsOK P Ω w0 F) {ops : Array Oper} (hns : Region.noSelect ops = true) {s0 : St} {H : List (Nat × Nat)} {D : List Nat} {e : Env} {w1 : World} (h0 : Rel Ω w0 e s0 w1) {x : X} {fr' : Fr} {s' : St}
    (hx : ∀ c, x = .panic c → fr'.defers = []) : ∀ (n : Nat) (listed : Array Bool) (fr : Fr) (s : St), anyRun P F call ops s0 H D n listed fr s = some (x, fr', s') →
    ∀ (e1 : Env) (a : Act) (w : World), e.le e1 → Rel Ω w0 e1 s w → FrR e1 fr a → HeldD w0 e w1 s0 H D listed w → wpAnyD P ops (CodePost Ω w0 e x fr' s') (HeldD w0 e w1 s0 H D) n listed a w := by
  have hQ : ∀ (d : Option Tmp) (v : Value) c a w, CodePost Ω w0 e x fr' s' (.panic c) (a.put d v) w → CodePost Ω w0 e x fr' s' (.panic c) a w := by
    intro d v c a w ⟨e', g1, g2, g3, g4⟩
    refine ⟨e', g1, g2, g3, ?_⟩
    cases x with
    | panic cc =>
      have hd := hx cc rfl
      simp only [FX, hd] at g4 ⊢
      cases d <;> exact g4
    | normal => exact g3.elim
    | exit i => exact g3.elim
    | ret => exact g3.elim
  have down : ∀ (L : Array Bool) (i : Nat) (w : World), HeldD w0 e w1 s0 H D L w → HeldD w0 e w1 s0 H D (L.setIfInBounds i true) w := fun L i w h hu => h (unlisted_down hu)
  have up : ∀ (L : Array Bool) (i : Nat) (w : World), isNum i D = false → HeldD w0 e w1 s0 H D (L.setIfInBounds i true) w → HeldD w0 e w1 s0 H D L w := fun L i w hi h hu => h (by rw [unlisted_set hi]; exact hu)
  have keepD : ∀ (L : Array Bool) (e1 : Env) (s : St) (w : World), e.le e1 → Rel Ω w0 e1 s w → keepsD s0 s H D L = true → HeldD w0 e w1 s0 H D L w := by
    intro L e1 s w hle hr hk hu
    unfold keepsD at hk
    rw [hu] at hk
    exact keeps_ok h0 hr hle H hk
  intro n
  induction n with
  | zero =>
    intro listed fr s k e1 a w hle hr hf hh
    unfold anyRun at k
    split at k
    · rename_i hready
      simp only [Option.some.injEq, Prod.mk.injEq] at k
      obtain ⟨rfl, rfl, rfl⟩ := k
      exact wpAnyD_done hready ⟨e1, hle, hr, trivial, hf.fx _⟩ _
    · cases k
  | succ n ih =>
    intro listed fr s k e1 a w hle hr hf hh
    unfold anyRun at k
    split at k
    · rename_i hready
      simp only [Option.some.injEq, Prod.mk.injEq] at k
      obtain ⟨rfl, rfl, rfl⟩ := k
      exact wpAnyD_done hready ⟨e1, hle, hr, trivial, hf.fx _⟩ _
    · rename_i i0 rs hready
      simp only at k
      split at k
      · rename_i i o v htake
        obtain ⟨hmem, ho, hfree, hnD, hv⟩ := takeOne_ok _ htake
        split at k
        · rename_i fr1 hp
          have hin : i ∈ Region.ready .any ops listed := by rw [hready]; exact hmem
          have hdown := down listed i w hh
          rcases hv with ⟨hw, rfl⟩ | ⟨hw, hq⟩ | ⟨hw, hq, E, hE1, hE2, hE3⟩
          · exact wpAnyD_first ho (Region.noSelect_spec hns) (hQ _ _) (fun _ => True) (fun _ => True) (fun _ _ _ _ _ _ => trivial) (fun _ _ _ _ => trivial) (fun L w => down L i w) (fun L w => up L i w hnD) n listed a w trivial
              (Region.free_spec ho hfree) hin (.inr ⟨wantedA_ok hf.ft hw, rfl⟩) hh (ih _ _ _ k e1 _ w hle hr (hf.put undefA_vr hp) hdown)
          · obtain ⟨y, hy, hrun⟩ := quietA_run (noMem_reads P e1 (by rw [hle.opq, h0.opq]; exact hF.ask)) hf.ft hq
            exact wpAnyD_first ho (Region.noSelect_spec hns) (hQ _ _) (fun _ => True) (fun _ => True) (fun _ _ _ _ _ _ => trivial) (fun _ _ _ _ => trivial) (fun L w => down L i w) (fun L w => up L i w hnD) n listed a w trivial
              (Region.free_spec ho hfree) hin (.inl ⟨wantedA_ok hf.ft hw, fun w _ => hrun w trivial⟩) hh (ih _ _ _ k e1 _ w hle hr (hf.put hy hp) hdown)
          · obtain ⟨y, hy, hrun⟩ := quietA_run (held_reads h0 hle hF.ask H) hf.ft hq
            exact wpAnyD_first ho (Region.noSelect_spec hns) (hQ _ _) (Held w0 e w1 s0 H) (fun L => unlisted L E = true) (fun L j hg hi hj _ => blocked_step hE1 L j hg hi hj)
              (fun L w hg hS => hS (List.all_eq_true.2 fun d hd => by have := unlisted_mem hg (isNum_mem (List.all_eq_true.1 hE3 d hd)); simp [this])) (fun L w => down L i w) (fun L w => up L i w hnD) n listed a w hE2
              (Region.free_spec ho hfree) hin (.inl ⟨wantedA_ok hf.ft hw, hrun⟩) hh (ih _ _ _ k e1 _ w hle hr (hf.put hy hp) hdown)
        · cases k
      · split at k
        · rename_i o ho htk
          refine wpAnyD_all hready (by simp) ?_
          intro i hi
          obtain rfl : i = i0 := by simpa using hi
          unfold wpOp
          simp only [ho]
          have hdown := down listed i w hh
          split at k
          · rename_i hw
            rw [if_neg (by rw [wantedA_ok hf.ft hw]; simp)]
            split at k
            · rename_i fr1 hp; exact ⟨hdown, ih _ _ _ k e1 _ w hle hr (hf.put undefA_vr hp) hdown⟩
            · cases k
          · rename_i hw
            rw [if_pos (by rw [wantedA_ok hf.ft hw])]
            left
            split at k
            · rename_i v hq
              obtain ⟨y, hy, hrun⟩ := quietA_run (hr.readsF hF) hf.ft hq
              split at k
              · rename_i fr1 hp
                simp only [Oper.wp, hrun w rfl, Oper.upon_value]
                exact ⟨hdown, ih _ _ _ k e1 _ w hle hr (hf.put hy hp) hdown⟩
              · cases k
            · split at k
              · rename_i v s1 hact
                refine actB_run S hc hF.ask hf.ft hr hact _ _ ?_
                intro e2 y w2 g1 g2 g3
                split at k
                · rename_i fr1 hp hk
                  have hh2 := keepD _ e2 s1 w2 (Env.le_trans hle g1) g3 hk
                  exact ⟨hh2, ih _ _ _ k e2 _ w2 (Env.le_trans hle g1) g3 ((hf.mono g1).put g2 hp) hh2⟩
                · cases k
              · rename_i s1 hact
                refine actB_run S hc hF.ask hf.ft hr hact _ _ ?_
                intro w2 g3
                split at k
                · rename_i fr1 hp hk
                  have hh2 := keepD _ e1 s1 w2 hle g3 hk
                  exact ⟨hh2, ih _ _ _ k e1 _ w2 hle g3 (hf.put undefA_vr hp) hh2⟩
                · cases k
              · rename_i c s1 hact
                refine actB_run S hc hF.ask hf.ft hr hact _ _ ?_
                intro e2 l w2 g1 g2 g3
                simp only [Option.some.injEq, Prod.mk.injEq] at k
                obtain ⟨rfl, rfl, rfl⟩ := k
                exact ⟨e2, Env.le_trans hle g1, g3, g2, (hf.mono g1).fx _⟩
              · cases k
          · cases k
        · cases k

/-- The cells that a region's loads read, as far as they are known at its beginning. -/
def rangeOf (id : Nat) : Nat → Nat → List (Nat × Nat)
  | _, 0 => []
  | off, n + 1 => (id, off) :: rangeOf id (off + 1) n

def dryH (P : Program) (F : Facts) (s : St) (ops : Array Oper) : Nat → List Oper → T AV → List (Nat × Nat) × List Nat
  | _, [], _ => ([], [])
  | k, o :: rest, t => match wantedA ops t o with
    | some false => match o.dst with
      | some d => dryH P F s ops (k + 1) rest (t.put d (some undefA))
      | none => dryH P F s ops (k + 1) rest t
    | _ => match quietA P (s.memF F) t o with
      | some v =>
        let r := match o.dst with
          | some d => dryH P F s ops (k + 1) rest (t.put d (some v))
          | none => dryH P F s ops (k + 1) rest t
        match o.op with
        | .load ty x => match evalO t x, P.info? ty with
          | some (.ptr i off), some inf => match s.heap.get i with
            | some (.ext _) => r
            | some (.cells _) => (rangeOf i off inf.size ++ r.1, k :: r.2)
            | _ => ((i, 0) :: r.1, k :: r.2)
          | some (.sptr i _), some inf => match s.heap.get i with
            | some (.ext _) => r
            | some (.eseq _) => r
            | some (.cells b) => (rangeOf i 0 b.size ++ r.1, k :: r.2)
            | _ => ((i, 0) :: r.1, k :: r.2)
          | _, _ => r
        | _ => r
      | none => match o.dst with
        | some d => dryH P F s ops (k + 1) rest (t.put d none)
        | none => dryH P F s ops (k + 1) rest t

/-- What waits for all the loads. -/
def allWait (ops : Array Oper) : List Nat → List Nat
  | [] => []
  | [i] => waiters ops i ops.size 0 []
  | i :: r => (allWait ops r).filter (isNum · (waiters ops i ops.size 0 []))

def actsOp : Op → Bool
  | .store .. => true
  | .call .. => true
  | .alloc .. => true
  | .box .. => true
  | .buildSlice .. => true
  | .makeSlice .. => true
  | _ => false

/-- What waits for all the loads, and acts. -/
def lateD (ops : Array Oper) (l : List Nat) : List Nat := (allWait ops l).filter fun i => match ops[i]? with
  | some o => actsOp o.op
  | none => false

def drawnRun (P : Program) (F : Facts) (call : Caller) (ops : Array Oper) (fr : Fr) (s : St) : Option (X × Fr × St) :=
  match Region.noSelect ops with
  | true => match anyRun P F call ops s (dryH P F s ops 0 ops.toList fr.t).1 (lateD ops (dryH P F s ops 0 ops.toList fr.t).2) ops.size (Array.replicate ops.size false) fr s with
    | some (.panic c, fr', s') => match fr'.defers with
      | [] => some (.panic c, fr', s')
      | _ => none
    | r => r
  | false => none

def regionRun (P : Program) (F : Facts) (call : Caller) (ops : Array Oper) (draw : Bool) (fr : Fr) (s : St) : Option (X × Fr × St) :=
  match draw with
  | false => opsRun P F call ops ops.toList fr s
  | true => match Region.lexB .any ops with
    | true => match stillRun P (s.memF F) ops ops.toList fr with
      | some fr' => some (.normal, fr', s)
      | none => drawnRun P F call ops fr s
    | false => drawnRun P F call ops fr s

theorem regionRun_ok {P : Program} (S : Sound P) {Ω : Om} {w0 : Base} {call : Caller} (hc : CallOK P Ω w0 call) {F : Facts} (hF : FactsOK P Ω w0 F) {id : Nat} {ops : Array Oper} {draw : Bool} {fr : Fr} {s : St} {x : X} {fr' : Fr} {s' : St} (k : regionRun P F call ops draw fr s = some (x, fr', s'))
    {e : Env} {a : Act} {w : World} (hr : Rel Ω w0 e s w) (hf : FrR e fr a) : (Code.region id ops draw).wp P (CodePost Ω w0 e x fr' s') a w := by
  have later : drawnRun P F call ops fr s = some (x, fr', s') → (Code.region id ops true).wp P (CodePost Ω w0 e x fr' s') a w := by
    intro k
    unfold drawnRun at k
    split at k
    · rename_i hns
      have base : ∀ H D, anyRun P F call ops s H D ops.size (Array.replicate ops.size false) fr s = some (x, fr', s') → (∀ c, x = .panic c → fr'.defers = []) → (Code.region id ops true).wp P (CodePost Ω w0 e x fr' s') a w := fun H D hk hx =>
        wp_region_any S.mixed (wpAny_of_D _ _ _ _ (anyRun_ok S hc hF hns (H := H) (D := D) hr.drew hx _ _ _ _ hk e a _ (Env.le_refl e) hr.drew hf (fun _ => held_start hr.drew _)))
      split at k
      · rename_i c fr2 s2 hany
        split at k
        · rename_i hd
          simp only [Option.some.injEq, Prod.mk.injEq] at k
          obtain ⟨rfl, rfl, rfl⟩ := k
          exact base _ _ hany (fun _ _ => hd)
        · cases k
      · rename_i r hnp
        refine base _ _ k fun c hx => ?_
        subst hx
        exact (hnp c fr' s' k).elim
    · cases k
  unfold regionRun at k
  split at k
  · exact wp_region_list (opsRun_ok S hc hF ops _ fr s x fr' s' k e a w hr hf _ fun _ _ _ h => h)
  · split at k
    · rename_i hlex
      split at k
      · rename_i fr1 hst
        simp only [Option.some.injEq, Prod.mk.injEq] at k
        obtain ⟨rfl, rfl, rfl⟩ := k
        exact wp_region_still S.mixed hlex (stillRun_ok hF hr.drew ops _ _ _ _ hst a hf fun a' h => ⟨e, Env.le_refl e, hr.drew, trivial, h.fx _⟩)
      · exact later k
    · exact later k

/-! ### statements -/
def Code.child (d : Nat) : Code → Option Code
  | .seq a b => match d with
    | 0 => some a
    | 1 => some b
    | _ => none
  | .cond _ a b => match d with
    | 2 => some a
    | 3 => some b
    | _ => none
  | .block _ b => match d with
    | 4 => some b
    | _ => none
  | .loop b => match d with
    | 5 => some b
    | _ => none
  | _ => none

/-- The piece of a code to which a road leads (the last step comes first). -/
def codeAt (root : Code) : List Nat → Option Code
  | [] => some root
  | d :: p => (codeAt root p).bind (Code.child d)

/-- What is known of loops, by the road that leads to each. -/
abbrev Loops := List Nat → Fr → St → Option (X × Fr × St)
def LoopsOK (P : Program) (Ω : Om) (w0 : Base) (root : Code) (L : Loops) : Prop := ∀ p b fr s x fr' s', codeAt root p = some (.loop b) → L p fr s = some (x, fr', s') →
  ∃ m, ∀ e a w, Rel Ω w0 e s w → FrR e fr a → ∀ Q : Exit → Act → World → Prop, (∀ ex a w, CodePost Ω w0 e x fr' s' ex a w → Q ex a w) → Code.rounds P b Q m a w

def execC (P : Program) (F : Facts) (L : Loops) (call : Caller) : Nat → List Nat → Code → Fr → St → Option (X × Fr × St)
  | 0, _, _, _, _ => none
  | n + 1, p, c, fr, s => match c with
    | .skip => some (.normal, fr, s)
    | .label _ => some (.normal, fr, s)
    | .region _ ops draw => regionRun P F call ops draw fr s
    | .seq a b => match execC P F L call n (0 :: p) a fr s with
      | some (.normal, fr', s') => execC P F L call n (1 :: p) b fr' s'
      | r => r
    | .cond c a b => match evalO fr.t c with
      | some (.bool true) => execC P F L call n (2 :: p) a fr s
      | some (.bool false) => execC P F L call n (3 :: p) b fr s
      | _ => none
    | .block id b => match execC P F L call n (4 :: p) b fr s with
      | some (.exit j, fr', s') => match Nat.beq j id with
        | true => some (.normal, fr', s')
        | false => some (.exit j, fr', s')
      | r => r
    | .loop b => match L p fr s with
      | some r => some r
      | none => match execC P F L call n (5 :: p) b fr s with
        | some (.normal, fr', s') => execC P F L call n p (.loop b) fr' s'
        | r => r
    | .exit id => some (.exit id, fr, s)
    | .ret => some (.ret, fr, s)
    | _ => none

theorem CodePost.trans {Ω : Om} {w0 : Base} {e e1 : Env} {x : X} {fr : Fr} {s : St} (h : e.le e1) {ex : Exit} {a : Act} {w : World} (k : CodePost Ω w0 e1 x fr s ex a w) : CodePost Ω w0 e x fr s ex a w :=
  let ⟨e', g1, g2, g3, g4⟩ := k
  ⟨e', Env.le_trans h g1, g2, g3, g4⟩

theorem execC_ok {P : Program} (S : Sound P) {Ω : Om} {w0 : Base} {call : Caller} (hc : CallOK P Ω w0 call) {F : Facts} (hF : FactsOK P Ω w0 F) {root : Code} {L : Loops} (hL : LoopsOK P Ω w0 root L) : ∀ n : Nat,
    (∀ (p : List Nat) (c : Code) (fr : Fr) (s : St) (x : X) (fr' : Fr) (s' : St), codeAt root p = some c → execC P F L call n p c fr s = some (x, fr', s') → ∀ (e : Env) (a : Act) (w : World), Rel Ω w0 e s w → FrR e fr a → c.wp P (CodePost Ω w0 e x fr' s') a w) ∧
    (∀ (p : List Nat) (b : Code) (fr : Fr) (s : St) (x : X) (fr' : Fr) (s' : St), codeAt root p = some (.loop b) → execC P F L call n p (.loop b) fr s = some (x, fr', s') → ∃ m, ∀ (e : Env) (a : Act) (w : World), Rel Ω w0 e s w → FrR e fr a →
      ∀ Q : Exit → Act → World → Prop, (∀ ex a w, CodePost Ω w0 e x fr' s' ex a w → Q ex a w) → Code.rounds P b Q m a w)
  | 0 => ⟨fun _ _ _ _ _ _ _ _ k => (by cases k), fun _ _ _ _ _ _ _ _ k => (by cases k)⟩
  | n + 1 => by
    obtain ⟨ih, ihl⟩ := execC_ok S hc hF hL n
    have loops : ∀ (p : List Nat) (b : Code) (fr : Fr) (s : St) (x : X) (fr' : Fr) (s' : St), codeAt root p = some (.loop b) → execC P F L call (n + 1) p (.loop b) fr s = some (x, fr', s') → ∃ m, ∀ (e : Env) (a : Act) (w : World), Rel Ω w0 e s w → FrR e fr a →
        ∀ Q : Exit → Act → World → Prop, (∀ ex a w, CodePost Ω w0 e x fr' s' ex a w → Q ex a w) → Code.rounds P b Q m a w := by
      intro p b fr s x fr' s' hp k
      have hp5 : codeAt root (5 :: p) = some b := by simp [codeAt, hp, Code.child]
      unfold execC at k
      simp only at k
      split at k
      · rename_i r hr
        simp only [Option.some.injEq] at k
        subst k
        exact hL p b fr s x fr' s' hp hr
      · split at k
        · rename_i fr1 s1 h1
          obtain ⟨m, hm⟩ := ihl p b fr1 s1 x fr' s' hp k
          refine ⟨m + 1, fun e a w hr hf Q H => ?_⟩
          rw [rounds_succ]
          refine wp_mono (ih _ _ _ _ _ _ _ hp5 h1 e a w hr hf) fun ex a1 w1 ⟨e1, g1, g2, g3, g4⟩ => ?_
          cases ex <;> first
            | exact g3.elim
            | exact hm e1 a1 w1 g2 g4 Q fun ex a w h => H ex a w (h.trans g1)
        · rename_i hnn
          refine ⟨1, fun e a w hr hf Q H => ?_⟩
          rw [rounds_succ]
          refine wp_mono (ih _ _ _ _ _ _ _ hp5 k e a w hr hf) fun ex a1 w1 g => ?_
          have := H ex a1 w1 g
          cases ex with
          | normal =>
            obtain ⟨e1, g1, g2, g3, g4⟩ := g
            cases x with
            | normal => exact (hnn _ _ k).elim
            | exit i => exact g3.elim
            | ret => exact g3.elim
            | panic c => exact g3.elim
          | _ => exact this
    refine ⟨fun p c fr s x fr' s' hp k e a w hr hf => ?_, loops⟩
    have hk := k
    unfold execC at k
    cases c <;> simp only [reduceCtorEq] at k
    · simp only [Option.some.injEq, Prod.mk.injEq] at k
      obtain ⟨rfl, rfl, rfl⟩ := k
      exact wp_skip ⟨e, Env.le_refl e, hr, trivial, hf.fx _⟩
    · exact regionRun_ok S hc hF k hr hf
    · rename_i ca cb
      have hp0 : codeAt root (0 :: p) = some ca := by simp [codeAt, hp, Code.child]
      have hp1 : codeAt root (1 :: p) = some cb := by simp [codeAt, hp, Code.child]
      split at k
      · rename_i fr1 s1 h1
        refine wp_seq (wp_mono (ih _ _ _ _ _ _ _ hp0 h1 e a w hr hf) fun ex a1 w1 ⟨e1, g1, g2, g3, g4⟩ => ?_)
        cases ex <;> first
          | exact g3.elim
          | exact wp_mono (ih _ _ _ _ _ _ _ hp1 k e1 a1 w1 g2 g4) fun ex a w h => h.trans g1
      · rename_i hnn
        refine wp_seq (wp_mono (ih _ _ _ _ _ _ _ hp0 k e a w hr hf) fun ex a1 w1 g => ?_)
        cases ex with
        | normal =>
          obtain ⟨e1, g1, g2, g3, g4⟩ := g
          cases x with
          | normal => exact (hnn _ _ k).elim
          | exit i => exact g3.elim
          | ret => exact g3.elim
          | panic c => exact g3.elim
        | _ => exact g
    · rename_i cc ca cb
      have hp2 : codeAt root (2 :: p) = some ca := by simp [codeAt, hp, Code.child]
      have hp3 : codeAt root (3 :: p) = some cb := by simp [codeAt, hp, Code.child]
      split at k
      · rename_i hcnd
        have := evalO_vr hf.ft hcnd
        simp only [VR] at this
        exact wp_cond_true this (ih _ _ _ _ _ _ _ hp2 k e a w hr hf)
      · rename_i hcnd
        have := evalO_vr hf.ft hcnd
        simp only [VR] at this
        exact wp_cond_false this (ih _ _ _ _ _ _ _ hp3 k e a w hr hf)
      · cases k
    · rename_i id b
      have hp4 : codeAt root (4 :: p) = some b := by simp [codeAt, hp, Code.child]
      split at k
      · rename_i j fr1 s1 h1
        refine wp_block (wp_mono (ih _ _ _ _ _ _ _ hp4 h1 e a w hr hf) fun ex a1 w1 ⟨e1, g1, g2, g3, g4⟩ => ?_)
        cases ex <;> simp only [XR] at g3
        rename_i j'
        subst g3
        simp only [Exit.inBlock]
        split at k
        · rename_i hj
          have hj := beq_t hj
          simp only [Option.some.injEq, Prod.mk.injEq] at k
          obtain ⟨rfl, rfl, rfl⟩ := k
          rw [if_pos hj]
          exact ⟨e1, g1, g2, trivial, g4⟩
        · rename_i hj
          have hj := beq_f hj
          simp only [Option.some.injEq, Prod.mk.injEq] at k
          obtain ⟨rfl, rfl, rfl⟩ := k
          rw [if_neg hj]
          exact ⟨e1, g1, g2, rfl, g4⟩
      · rename_i hnn
        refine wp_block (wp_mono (ih _ _ _ _ _ _ _ hp4 k e a w hr hf) fun ex a1 w1 g => ?_)
        cases ex with
        | exit j =>
          obtain ⟨e1, g1, g2, g3, g4⟩ := g
          cases x with
          | exit i => exact (hnn _ _ _ k).elim
          | normal => exact g3.elim
          | ret => exact g3.elim
          | panic c => exact g3.elim
        | _ => exact g
    · obtain ⟨m, hm⟩ := loops _ _ _ _ _ _ _ hp hk
      exact wp_loop_rounds _ (hm e a w hr hf _ fun _ _ _ h => h)
    · simp only [Option.some.injEq, Prod.mk.injEq] at k
      obtain ⟨rfl, rfl, rfl⟩ := k
      exact wp_exit ⟨e, Env.le_refl e, hr, rfl, hf.fx _⟩
    · simp only [Option.some.injEq, Prod.mk.injEq] at k
      obtain ⟨rfl, rfl, rfl⟩ := k
      exact wp_label ⟨e, Env.le_refl e, hr, trivial, hf.fx _⟩
    · simp only [Option.some.injEq, Prod.mk.injEq] at k
      obtain ⟨rfl, rfl, rfl⟩ := k
      exact wp_ret ⟨e, Env.le_refl e, hr, trivial, hf.fx _⟩

end Go.Ev
