/- An evaluator of the model's code over abstract states, and its soundness: part 5: what an abstract memory says of a world. No condition. -/
import Derived.Test.YtdjejidlonfjnaaEvd
import Derived.Laws.MakeOwn
import Derived.Lib.ConvBytes
namespace Go.Ev
open Go.RowKit

/-- A row of cells: 'size' cells from its head on are told by 'cells', else by the pattern; 'opn': behind these there may be more, 'esz' for each spare place; 'str': made of a text. -/
structure AB where
  elem : TypeId
  size : Nat
  esz : Nat
  opn : Bool
  str : Bool
  pat : List AV
  cells : T AV

def AB.at (b : AB) (i : Nat) : Option AV :=
  match Nat.blt i b.size with
  | true => match b.cells.get i with
    | some v => some v
    | none => b.pat[i % b.pat.length]?
  | false => none

inductive AObj where
  | cells (b : AB)

structure St where
  heap : T AObj
  next : Nat

def St.row (s : St) (id : Nat) : Option AB :=
  match s.heap.get id with
  | some (.cells b) => some b
  | none => none

def St.mem (s : St) : Mem where
  cell id off := match s.row id with
    | some b => b.at off
    | none => none
  apart i j := match Nat.beq i j with
    | true => false
    | false => match s.row i, s.row j with
      | some b, some c => !b.str && !c.str
      | _, _ => false
  fact := none

abbrev Facts := Option (Op → List AV → Option AV)
def St.memF (s : St) (F : Facts) : Mem := { s.mem with fact := F }

/-- What is known besides is true, whatever the run has made. -/
def FactsOK (P : Program) (Ω : Nat → Value) (w0 : World) (F : Facts) : Prop :=
  ∀ G, F = some G → ∀ (e : Env), e.opq = Ω → ∀ (o : Oper) (a : Act) avs v, G o.op avs = some v → VRs e avs (o.op.operands.toList.map a.eval) → ∃ x, VR e v x ∧ ∀ w, Below w0.heap.size w0 w → (execOp a.eval o).run P w = .ok (.value x) w

structure RowR (e : Env) (id : Nat) (b : AB) (arr : Array Value) (fz : Nat × Nat) : Prop where
  size : arr.size = b.size + if b.opn then e.spare id * b.esz else 0
  cell : ∀ i v, b.at i = some v → ∃ x, arr[i]? = some x ∧ VR e v x
  frozen : ∀ off, off < arr.size → ¬ (fz.1 ≤ off ∧ off < fz.2)
  plain : b.str = false → fz = (0, 0)
  mark : b.str = true → fz = (arr.size, arr.size + 1)

structure Rel (Ω : Nat → Value) (w0 : World) (e : Env) (s : St) (w : World) : Prop where
  opq : e.opq = Ω
  below : Below w0.heap.size w0 w
  fresh : ∀ id, s.next ≤ id → e.loc id = none
  inj : ∀ i j o o' b, s.heap.get i = some o → s.heap.get j = some o' → e.loc i = some b → e.loc j = some b → i = j
  row : ∀ id b, s.heap.get id = some (.cells b) → ∃ k arr fz, e.loc id = some k ∧ w0.heap.size ≤ k ∧ w.heap[k]? = some (.cells arr b.elem fz) ∧ RowR e id b arr fz

theorem Rel.live {Ω : Nat → Value} {w0 : World} {e : Env} {s : St} {w : World} (h : Rel Ω w0 e s w) {id : Nat} {o : AObj} (k : s.heap.get id = some o) : id < s.next := by
  rcases Nat.lt_or_ge id s.next with h' | h'
  · exact h'
  · cases o with
    | cells b =>
      obtain ⟨_, _, _, hl, _⟩ := h.row id b k
      rw [h.fresh id h'] at hl
      cases hl

theorem St.row_some {s : St} {id : Nat} {b : AB} (h : s.row id = some b) : s.heap.get id = some (.cells b) := by
  unfold St.row at h
  split at h
  · rename_i c hc; simp only [Option.some.injEq] at h; subst h; exact hc
  · cases h

theorem Rel.loc_lt {Ω : Nat → Value} {w0 : World} {e : Env} {s : St} {w : World} (h : Rel Ω w0 e s w) {id : Nat} {b : AB} {k : Nat} (hr : s.heap.get id = some (.cells b)) (hk : e.loc id = some k) : k < w.heap.size := by
  obtain ⟨k', arr, fz, h1, _, h2, _⟩ := h.row id b hr
  obtain rfl : k' = k := by rw [hk] at h1; exact (Option.some.inj h1).symm
  exact (Array.getElem?_eq_some_iff.1 h2).1

theorem cell_row {w : World} {k : Nat} {arr : Array Value} {el : TypeId} {fz : Nat × Nat} (h : w.heap[k]? = some (.cells arr el fz)) (o : Nat) : w.cell? ⟨k, o, none⟩ = arr[o]? := by
  simp [World.cell?, h]
theorem frozen_row {w : World} {k : Nat} {arr : Array Value} {el : TypeId} {fz : Nat × Nat} (h : w.heap[k]? = some (.cells arr el fz)) (o : Nat) : w.frozen? ⟨k, o, none⟩ = (decide (fz.1 ≤ o) && decide (o < fz.2)) := by
  simp [World.frozen?, h]

theorem Rel.reads {P : Program} {Ω : Nat → Value} {w0 : World} {e : Env} {s : St} {w : World} (h : Rel Ω w0 e s w) : Reads P e s.mem (fun w' => w' = w) where
  cell id off v k := by
    simp only [St.mem] at k
    split at k
    · rename_i b hb
      obtain ⟨kk, arr, fz, hl, _, hr, hR⟩ := h.row id b (St.row_some hb)
      obtain ⟨x, hx, hv⟩ := hR.cell off v k
      exact ⟨kk, x, hl, hv, fun w' hw => by subst hw; rw [cell_row hr, hx]⟩
    · cases k
  apart i j k := by
    simp only [St.mem] at k
    split at k
    · cases k
    · rename_i hij
      have hij := beq_f hij
      split at k
      · rename_i b c hb hc
        simp only [Bool.and_eq_true, Bool.not_eq_true'] at k
        obtain ⟨k1, ar1, f1, l1, _, r1, R1⟩ := h.row i b (St.row_some hb)
        obtain ⟨k2, ar2, f2, l2, _, r2, R2⟩ := h.row j c (St.row_some hc)
        have z1 := R1.plain k.1
        have z2 := R2.plain k.2
        subst z1 z2
        have hne : k1 ≠ k2 := fun x => hij (h.inj i j _ _ k1 (St.row_some hb) (St.row_some hc) l1 (x ▸ l2))
        refine ⟨k1, k2, l1, l2, hne, fun w' hw o p => ?_⟩
        subst hw
        simp [sameAddr, hne, frozen_row r1, World.shape?, r1, r2, noView, viewAt, mayBeOne, stringish, frozen_row r2]
      · cases k
  fact F hF := by cases hF

theorem Rel.readsF {P : Program} {Ω : Nat → Value} {w0 : World} {e : Env} {s : St} {w : World} (h : Rel Ω w0 e s w) {F : Facts} (hF : FactsOK P Ω w0 F) : Reads P e (s.memF F) (fun w' => w' = w) :=
  ⟨(h.reads (P := P)).cell, (h.reads (P := P)).apart, fun G hG o a avs v hv hx =>
    let ⟨x, h1, h2⟩ := hF G hG e h.opq o a avs v hv hx
    ⟨x, h1, fun w' hw' => by subst hw'; exact h2 _ h.below⟩⟩

theorem Rel.drew {Ω : Nat → Value} {w0 : World} {e : Env} {s : St} {w : World} (h : Rel Ω w0 e s w) : Rel Ω w0 e s w.drew := ⟨h.opq, h.below.drew, h.fresh, h.inj, h.row⟩

def Env.new (e : Env) (id k sp : Nat) : Env where
  loc i := if i = id then some k else e.loc i
  spare i := if i = id then sp else e.spare i
  opq := e.opq
  one := e.one

theorem Env.le_new {e : Env} {id : Nat} (h : e.loc id = none) (k sp : Nat) : e.le (e.new id k sp) := by
  refine ⟨fun i b hi => ?_, rfl⟩
  have : i ≠ id := by intro x; subst x; rw [h] at hi; cases hi
  simp [Env.new, this, hi]

def St.new (s : St) (b : AB) : St := ⟨s.heap.put s.next (some (.cells b)), s.next + 1⟩

theorem RowR.mono {e e' : Env} (h : e.le e') {id : Nat} {b : AB} {arr : Array Value} {fz : Nat × Nat} {k : Nat} (hk : e.loc id = some k) (R : RowR e id b arr fz) : RowR e' id b arr fz :=
  ⟨by rw [(h.loc id k hk).2]; exact R.size, fun i v hv => let ⟨x, hx, hr⟩ := R.cell i v hv; ⟨x, hx, hr.mono h⟩, R.frozen, R.plain, R.mark⟩

/-- A new row: in the world it lies at 'k', which no row that lives has. -/
theorem Rel.newAt {Ω : Nat → Value} {w0 : World} {e : Env} {s : St} {w w' : World} (h : Rel Ω w0 e s w) (b : AB) (k sp : Nat) (hb : Below w0.heap.size w0 w') (hk : w0.heap.size ≤ k) {arr : Array Value} {fz : Nat × Nat}
    (hcell : w'.heap[k]? = some (.cells arr b.elem fz)) (hR : RowR (e.new s.next k sp) s.next b arr fz) (hold : ∀ id o, s.heap.get id = some o → ∀ j, e.loc id = some j → j ≠ k ∧ w'.heap[j]? = w.heap[j]?) :
    e.le (e.new s.next k sp) ∧ Rel Ω w0 (e.new s.next k sp) (s.new b) w' := by
  have hf := h.fresh s.next (Nat.le_refl _)
  have hle := Env.le_new hf k sp
  refine ⟨hle, h.opq, hb, ?_, ?_, ?_⟩
  · intro id hid
    simp only [St.new] at hid
    have : id ≠ s.next := by omega
    simp [Env.new, this, h.fresh id (by omega)]
  · intro i j o o' bb hi hj li lj
    simp only [St.new, T.get_put] at hi hj
    simp only [Env.new] at li lj
    by_cases ei : i = s.next <;> by_cases ej : j = s.next
    · rw [ei, ej]
    · rw [if_neg ej] at hj lj
      rw [if_pos ei] at li
      cases li
      exact absurd rfl (hold j o' hj _ lj).1
    · rw [if_neg ei] at hi li
      rw [if_pos ej] at lj
      cases lj
      exact absurd rfl (hold i o hi _ li).1
    · rw [if_neg ei] at hi li
      rw [if_neg ej] at hj lj
      exact h.inj i j o o' bb hi hj li lj
  · intro id c hc
    simp only [St.new, T.get_put] at hc
    split at hc
    · rename_i hid
      subst hid
      simp only [Option.some.injEq, AObj.cells.injEq] at hc
      subst hc
      exact ⟨k, arr, fz, by simp [Env.new], hk, hcell, hR⟩
    · rename_i hid
      obtain ⟨j, ar, f, hl, hj, hr, hRr⟩ := h.row id c hc
      exact ⟨j, ar, f, (hle.loc id j hl).1, hj, by rw [(hold id _ hc j hl).2]; exact hr, hRr.mono hle hl⟩

theorem Rel.alloc {Ω : Nat → Value} {w0 : World} {e : Env} {s : St} {w : World} (h : Rel Ω w0 e s w) (b : AB) (sp : Nat) {arr : Array Value} (hR : RowR (e.new s.next w.heap.size sp) s.next b arr (0, 0)) :
    e.le (e.new s.next w.heap.size sp) ∧ Rel Ω w0 (e.new s.next w.heap.size sp) (s.new b) (w.alloc (.cells arr b.elem)) :=
  h.newAt b w.heap.size sp (h.below.alloc h.below.size _) h.below.size (heap_alloc_new w _) hR fun id o hid j hj => by
    cases o with
    | cells c =>
      have := h.loc_lt hid hj
      exact ⟨by omega, heap_alloc_old w _ j this⟩

/-- A closed row out of a list of values. -/
def AB.ofL (el : TypeId) (l : List AV) : AB := ⟨el, l.length, 0, false, false, [], T.nil.putL 0 l⟩

theorem AB.at_ofL (el : TypeId) (l : List AV) (i : Nat) : (AB.ofL el l).at i = l[i]? := by
  unfold AB.at AB.ofL
  cases h : Nat.blt i l.length
  · have : ¬ i < l.length := fun x => by rw [show Nat.blt i l.length = true from by simpa [Nat.blt_eq] using x] at h; cases h
    simp [List.getElem?_eq_none (Nat.le_of_not_lt this)]
  · have h : i < l.length := by simpa [Nat.blt_eq] using h
    simp [T.get_putL, h]

theorem VRs.rowR {e : Env} {l : List AV} {arr : Array Value} (h : VRs e l arr.toList) (id : Nat) (el : TypeId) : RowR e id (AB.ofL el l) arr (0, 0) := by
  refine ⟨by have := h.length; simpa [AB.ofL] using this, fun i v hv => ?_, fun off _ => by omega, fun _ => rfl, fun hs => by simp [AB.ofL] at hs⟩
  rw [AB.at_ofL] at hv
  obtain ⟨x, hx, hr⟩ := h.at i v hv
  exact ⟨x, by simpa using hx, hr⟩

theorem Rel.allocL {Ω : Nat → Value} {w0 : World} {e : Env} {s : St} {w : World} (h : Rel Ω w0 e s w) (el : TypeId) {l : List AV} {arr : Array Value} (hl : VRs e l arr.toList) :
    e.le (e.new s.next w.heap.size 0) ∧ Rel Ω w0 (e.new s.next w.heap.size 0) (s.new (AB.ofL el l)) (w.alloc (.cells arr el)) :=
  h.alloc (AB.ofL el l) 0 ((hl.mono (Env.le_new (h.fresh _ (Nat.le_refl _)) _ _)).rowR _ _)

/-! ### stores -/
def AB.set (b : AB) (off : Nat) (v : AV) : AB := { b with cells := b.cells.put off (some v) }
def St.setRow (s : St) (id : Nat) (b : AB) : St := { s with heap := s.heap.put id (some (.cells b)) }

theorem AB.at_set (b : AB) (off : Nat) (v : AV) (i : Nat) : (b.set off v).at i = if i = off ∧ i < b.size then some v else b.at i := by
  unfold AB.at AB.set
  cases h : Nat.blt i b.size
  · have : ¬ i < b.size := fun x => by rw [show Nat.blt i b.size = true from by simpa [Nat.blt_eq] using x] at h; cases h
    simp [this]
  · have h : i < b.size := by simpa [Nat.blt_eq] using h
    simp only [T.get_put]
    by_cases e : i = off
    · simp [e]; omega
    · simp [e]

/-- A row's cells may change, if what is told of them is true. -/
theorem Rel.setRow {Ω : Nat → Value} {w0 : World} {e : Env} {s : St} {w w' : World} (h : Rel Ω w0 e s w) {id k : Nat} {b b' : AB} (hb : s.heap.get id = some (.cells b)) (hk : e.loc id = some k) {arr : Array Value} {fz : Nat × Nat}
    (hcell : w'.heap[k]? = some (.cells arr b'.elem fz)) (hR : RowR e id b' arr fz) (hother : ∀ j, j ≠ k → w'.heap[j]? = w.heap[j]?) (hos : w'.os = w.os) (ht : w'.tape = w.tape) (ho : w'.output = w.output) (hs : w.heap.size ≤ w'.heap.size) :
    Rel Ω w0 e (s.setRow id b') w' := by
  obtain ⟨k', arr0, fz0, hl, hk0, _, _⟩ := h.row id b hb
  obtain rfl : k' = k := by rw [hk] at hl; exact (Option.some.inj hl).symm
  refine ⟨h.opq, ⟨hos.trans h.below.os, ht.trans h.below.tape, ho.trans h.below.output, Nat.le_trans h.below.size hs, fun j hj => (hother j (by omega)).trans (h.below.block j hj)⟩, h.fresh, ?_, ?_⟩
  · have key : ∀ i o, (s.setRow id b').heap.get i = some o → ∃ o', s.heap.get i = some o' := by
      intro i o hi
      simp only [St.setRow, T.get_put] at hi
      split at hi
      · rename_i e1; subst e1; exact ⟨_, hb⟩
      · exact ⟨_, hi⟩
    intro i j o o' bb hi hj li lj
    obtain ⟨_, hi⟩ := key i o hi
    obtain ⟨_, hj⟩ := key j o' hj
    exact h.inj i j _ _ bb hi hj li lj
  · intro i c hc
    simp only [St.setRow, T.get_put] at hc
    split at hc
    · rename_i e1
      subst e1
      simp only [Option.some.injEq, AObj.cells.injEq] at hc
      subst hc
      exact ⟨k', arr, fz, hk, hk0, hcell, hR⟩
    · rename_i hne
      obtain ⟨j, ar, f, hlj, hj0, hr, hRr⟩ := h.row i c hc
      have : j ≠ k' := fun x => hne (h.inj i id _ _ k' hc hb (x ▸ hlj) hk)
      exact ⟨j, ar, f, hlj, hj0, by rw [hother j this]; exact hr, hRr⟩

theorem Rel.store {P : Program} {Ω : Nat → Value} {w0 : World} {e : Env} {s : St} {w : World} (h : Rel Ω w0 e s w) {id off k : Nat} {b : AB} (hb : s.heap.get id = some (.cells b)) (hk : e.loc id = some k) (ho : off < b.size) {v : AV} {x : Value}
    (hv : VR e v x) (h1 : v.one = true) : (store ⟨k, off, none⟩ x).run P w = .ok () (w.setCell ⟨k, off, none⟩ x) ∧ Rel Ω w0 e (s.setRow id (b.set off v)) (w.setCell ⟨k, off, none⟩ x) := by
  obtain ⟨k', arr, fz, hl, hk0, hr, hR⟩ := h.row id b hb
  obtain rfl : k' = k := by rw [hk] at hl; exact (Option.some.inj hl).symm
  have hoff : off < arr.size := by rw [hR.size]; omega
  have hc : w.cell? ⟨k', off, none⟩ = some arr[off] := by rw [cell_row hr]; simp [hoff]
  have hf : w.frozen? ⟨k', off, none⟩ = false := by
    rw [frozen_row hr]
    have := hR.frozen off hoff
    simp only [Bool.and_eq_false_iff, decide_eq_false_iff_not]
    omega
  refine ⟨by rw [run_store P w _ x _ (hv.one h1), hc]; simp [hf], ?_⟩
  have hnew : (w.setCell ⟨k', off, none⟩ x).heap[k']? = some (.cells (arr.setIfInBounds off x) b.elem fz) := by
    simp [World.setCell, Array.getElem?_modify, hr]
  refine h.setRow (b' := b.set off v) hb hk hnew ⟨by rw [Array.size_setIfInBounds]; exact hR.size, fun i u hu => ?_, fun o' ho' => hR.frozen o' (by simpa using ho'), hR.plain, fun hs => by rw [Array.size_setIfInBounds]; exact hR.mark hs⟩
    (fun j hj => Below.heap_setCell _ _ _ _ (by simpa using hj)) rfl rfl rfl (by simp [World.setCell])
  rw [AB.at_set] at hu
  split at hu
  · rename_i hc
    cases hu
    obtain ⟨rfl, _⟩ := hc
    exact ⟨x, by simp [hoff], hv⟩
  · rename_i hc
    obtain ⟨y, hy, hvr⟩ := hR.cell i u hu
    refine ⟨y, ?_, hvr⟩
    have hi : i < b.size := by
      unfold AB.at at hu
      split at hu
      · rename_i hh; simpa [Nat.blt_eq] using hh
      · cases hu
    rw [Array.getElem?_setIfInBounds_ne (by omega)]
    exact hy

/-- Cells one behind the other. -/
def storeL (s : St) (id : Nat) : Nat → List AV → Option St
  | _, [] => some s
  | off, l => match s.row id with
    | some b => match Nat.ble (off + l.length) b.size && l.all AV.one with
      | true => some (s.setRow id { b with cells := b.cells.putL off l })
      | false => none
    | none => none

theorem setRow_setRow (s : St) (id : Nat) (b c : AB) (i : Nat) : ((s.setRow id b).setRow id c).heap.get i = (s.setRow id c).heap.get i := by
  simp only [St.setRow, T.get_put]; split <;> rfl

theorem Rel.congr {Ω : Nat → Value} {w0 : World} {e : Env} {s s' : St} {w : World} (h : Rel Ω w0 e s w) (hn : s'.next = s.next) (hh : ∀ i, s'.heap.get i = s.heap.get i) : Rel Ω w0 e s' w :=
  ⟨h.opq, h.below, fun id hid => h.fresh id (by omega), fun i j o o' b hi hj => h.inj i j o o' b (by rw [← hh]; exact hi) (by rw [← hh]; exact hj), fun id b hb => h.row id b (by rw [← hh]; exact hb)⟩

theorem storeL_run {P : Program} {Ω : Nat → Value} {w0 : World} {e : Env} {id k : Nat} (hk : e.loc id = some k) : ∀ (l : List AV) (xs : List Value) (off j : Nat) (s : St) (b : AB) (w : World), Rel Ω w0 e s w → s.heap.get id = some (.cells b) → off + j + l.length ≤ b.size →
    l.all AV.one = true → VRs e l xs → ∃ w', (storeCells ⟨k, off, none⟩ xs j).run P w = .ok () w' ∧ Rel Ω w0 e (s.setRow id { b with cells := b.cells.putL (off + j) l }) w'
  | [], xs, off, j, s, b, w, h, hb, hs, h1, hv => by
    simp only [VRs] at hv
    subst hv
    refine ⟨w, by simp [storeCells], h.congr rfl fun i => ?_⟩
    simp only [St.setRow, T.get_put, T.putL]
    split
    · rename_i e1; subst e1; exact hb.symm
    · rfl
  | v :: l, xs, off, j, s, b, w, h, hb, hs, h1, hv => by
    simp only [VRs] at hv
    obtain ⟨x, r, rfl, hx, hr⟩ := hv
    simp only [List.all_cons, Bool.and_eq_true] at h1
    simp only [List.length_cons] at hs
    obtain ⟨hrun, hrel⟩ := h.store (P := P) hb hk (off := off + j) (by omega) hx h1.1
    obtain ⟨w', hrun', hrel'⟩ := storeL_run (P := P) hk l r off (j + 1) _ (b.set (off + j) v) _ hrel (by simp [St.setRow, T.get_put]) (by simp only [AB.set]; omega) h1.2 hr
    refine ⟨w', by simp only [storeCells, Sem.run_bind, add_none, hrun, Result.andThen_ok, hrun'], hrel'.congr rfl fun i => ?_⟩
    simp only [St.setRow, T.get_put, AB.set, T.putL]
    split <;> rfl

theorem storeL_ok {P : Program} {Ω : Nat → Value} {w0 : World} {e : Env} {s s' : St} {w : World} {id off k : Nat} {l : List AV} {xs : List Value} (h : Rel Ω w0 e s w) (hk : e.loc id = some k) (hs : storeL s id off l = some s') (hv : VRs e l xs) :
    ∃ w', (storeCells ⟨k, off, none⟩ xs).run P w = .ok () w' ∧ Rel Ω w0 e s' w' := by
  unfold storeL at hs
  split at hs
  · simp only [Option.some.injEq] at hs
    subst hs
    simp only [VRs] at hv
    subst hv
    exact ⟨w, by simp [storeCells], h⟩
  · split at hs
    · rename_i b hb
      split at hs
      · rename_i hc
        simp only [Bool.and_eq_true] at hc
        simp only [Option.some.injEq] at hs
        subst hs
        exact storeL_run hk l xs off 0 s b w h (St.row_some hb) (by have := ble_le hc.1; omega) hc.2 hv
      · cases hs
    · cases hs

end Go.Ev
