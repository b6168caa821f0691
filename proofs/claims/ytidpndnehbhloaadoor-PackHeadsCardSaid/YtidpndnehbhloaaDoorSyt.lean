/- Reading operations on rows and texts that are not known. No condition. -/
import Derived.Test.YtidpndnehbhloaaDoorSys
import Derived.Laws.Slices
import Derived.Laws.BytesString
namespace Go.Ev
open Go.RowKit

def consE (x y : E) : E := match x, y with
 | .int n, .lits l => .lits (n :: l)
 | x, y => .bi .app (.un .one x) y
theorem consE_s (Ω : Om) (x y : E) : (consE x y).s Ω = x.i Ω :: y.s Ω := by
 unfold consE;split
 ·simp [E.s, E.den, E.i]
 ·simp [E.s, E.den, E.i, BO.den, UO.den, D.ints]

def seqOfL0 (k : IntKind) : List AV → Option E
 | [] => some (.lits [])
 | v :: r => match toE v, seqOfL0 k r with
  | some (l, x), some y => match decide (l = k) with
   | true => some (consE x y)
   | false => none
  | _, _ => none

theorem seqOfL0_val {e : Env} {k : IntKind} : ∀ {l : List AV} {x : E}, seqOfL0 k l = some x → ∀ {as : List Value}, VRs e l as → as = (x.s e.opq).map (Value.int k) ∧ ∀ c ∈ x.s e.opq, inK k c
 | [], x, h, as, ha => by
  simp only [seqOfL0, sme] at h;subst h;simp only [VRs] at ha;subst ha;simp [E.s, E.den]
 | v :: r, x, h, as, ha => by
  simp only [seqOfL0] at h;split at h
  ·rename_i l x1 y h1 h2;split at h
   ·rename_i hk;obtain rfl := of_decide_eq_true hk;simp only [sme] at h;subst h;simp only [VRs] at ha;obtain ⟨a, rest, rfl, h3, h4⟩ := ha;obtain ⟨rfl, r1⟩ := toE_val h1 h3;obtain ⟨rfl, r2⟩ := seqOfL0_val h2 h4;rw [consE_s];refine ⟨by simp, fun c hc => ?_⟩;rcases List.mem_cons.1 hc with rfl | hc
    ·exact r1
    ·exact r2 c hc
   ·cases h
  ·cases h

def runOf (k : IntKind) (s : E) : Nat → List AV → Bool
 | _, [] => true
 | j, v :: r => match v with
  | .sint l (.bi .sel s' (.int i)) => decide (l = k) && decide (i = j) && s.beq s' && runOf k s (j + 1) r
  | _ => false
theorem runOf_val {e : Env} {k : IntKind} {s : E} : ∀ {l : List AV} {j : Nat}, runOf k s j l = true → ∀ {as : List Value}, VRs e l as →
  as = ((List.range l.length).map fun i => Value.int k (E.i e.opq (.bi .sel s (.int (j + i : Nat))))) ∧ ∀ i, i < l.length → inK k (E.i e.opq (.bi .sel s (.int (j + i : Nat))))
 | [], j, _, as, ha => by
  simp only [VRs] at ha;subst ha;exact ⟨rfl, fun i hi => absurd hi (Nat.not_lt_zero i)⟩
 | v :: r, j, h, as, ha => by
  simp only [runOf] at h;split at h
  ·rename_i l s' i;simp only [bae, decide_eq_true_eq] at h;obtain ⟨⟨⟨rfl, rfl⟩, h3⟩, h4⟩ := h;have h3 := E.beq_eq h3;subst h3;simp only [VRs] at ha;obtain ⟨a, rest, rfl, g1, g2⟩ := ha;simp only [VR] at g1;obtain ⟨rfl, g1⟩ := g1;obtain ⟨k1, k2⟩ := runOf_val h4 g2;refine ⟨?_, fun i hi => ?_⟩
   ·rw [k1];simp only [List.length_cons, List.range_succ_eq_map, List.map_cons, List.map_map, Nat.add_zero];congr 1;refine List.map_congr_left fun i _ => ?_
    simp only [Function.comp];rw [show j + 1 + i = j + (i + 1) by omega]
   ·cases i with
    | zero => exact g1
    | succ i =>
     have := k2 i (by simpa using hi);rw [show j + (i + 1) = j + 1 + i by omega];exact this
  ·cases h

def seqOfL (k : IntKind) (l : List AV) : Option E := match l with
 | .sint _ (.bi .sel s (.int 0)) :: _ :: _ => match runOf k s 0 l with
  | true => some (.tr .seg s (.int 0) (.int l.length))
  | false => seqOfL0 k l
 | l => seqOfL0 k l

theorem seg_s (Ω : Om) (s : E) (n : Nat) : (E.tr .seg s (.int 0) (.int n)).s Ω = (List.range n).map fun i => E.i Ω (.bi .sel s (.int (i : Nat))) := by
 simp only [E.s, E.den, TO.den, D.ints, D.toList_list, D.nat, D.toInt_int, List.map_map, Int.toNat_natCast];refine List.map_congr_left fun i _ => ?_
 simp only [Function.comp, E.i, E.den, BO.den, D.nat, D.toInt_int, Int.toNat_natCast]
 simp

theorem seqOfL_val {e : Env} {k : IntKind} {l : List AV} {x : E} (h : seqOfL k l = some x) {as : List Value} (ha : VRs e l as) : as = (x.s e.opq).map (Value.int k) ∧ ∀ c ∈ x.s e.opq, inK k c := by
 unfold seqOfL at h;split at h
 ·split at h
  ·rename_i s _ _ hr;simp only [sme] at h;subst h;obtain ⟨h1, h2⟩ := runOf_val hr ha;rw [seg_s];refine ⟨by rw [h1, List.map_map]; refine List.map_congr_left fun i _ => ?_; simp, fun c hc => ?_⟩;simp only [List.mem_map, List.mem_range] at hc;obtain ⟨i, hi, rfl⟩ := hc;have := h2 i hi;simpa using this
  ·exact seqOfL0_val h ha
 ·exact seqOfL0_val h ha

def mkSel (s i : E) : E := match s, i with
 | .tr .upd s' j v, i => match i.beq j with
  | true => v
  | false => .bi .sel (.tr .upd s' j v) i
 | .lits l, .int n => match decide (0 ≤ n), l[n.toNat]? with
  | true, some c => .int c
  | _, _ => .bi .sel (.lits l) (.int n)
 | .tr .seg s' (.int 0) _, i => .bi .sel s' i
 | s, i => .bi .sel s i

theorem ints_get (d : D) (j : Nat) : d.ints[j]? = (d.toList[j]?).map D.toInt := by simp [D.ints]

theorem sel_i (Ω : Om) (s i : E) {c : Int} (h : (s.s Ω)[i.n Ω]? = some c) : (E.bi .sel s i).i Ω = c := by
 simp only [E.s, ints_get] at h;simp only [E.i, E.den, BO.den];have : (s.den Ω).toList[(i.den Ω).nat]? = (s.den Ω).toList[i.n Ω]? := rfl;rw [this];cases hh : (s.den Ω).toList[i.n Ω]? with
 | none => rw [hh] at h; cases h
 | some d => rw [hh] at h; simpa using h

theorem mkSel_i (Ω : Om) (s i : E) {c : Int} (h : (s.s Ω)[i.n Ω]? = some c) : (mkSel s i).i Ω = c := by
 unfold mkSel;split
 ·rename_i s' j v;split
  ·rename_i hb;have := E.beq_eq hb;subst this;simp only [E.s, E.den, TO.den, ints_get, D.toList_list] at h;have hlt : i.n Ω < ((s'.den Ω).toList.set (i.den Ω).nat (v.den Ω)).length := by
    rcases Nat.lt_or_ge (i.n Ω) ((s'.den Ω).toList.set (i.den Ω).nat (v.den Ω)).length with h' | h'
    ·exact h'
    ·rw [List.getElem?_eq_none h'] at h; cases h
   have e1 : (i.den Ω).nat = i.n Ω := rfl;rw [e1] at h hlt;rw [List.getElem?_set_self (by simpa using hlt)] at h;simpa [E.i] using h
  ·exact sel_i Ω _ _ h
 ·rename_i l n;split
  ·rename_i c' h1 h2;simp only [E.s, E.den, D.ints_ofInts] at h;have e1 : (E.int n).n Ω = n.toNat := rfl;rw [e1, h2] at h;simp only [sme] at h;subst h; rfl
  ·exact sel_i Ω _ _ h
 ·rename_i s' z;simp only [E.s, E.den, TO.den, D.ints, D.toList_list, D.nat, D.toInt_int, List.map_map, List.getElem?_map] at h;simp only [Option.map_eq_some_iff, Function.comp] at h;obtain ⟨j, hj, rfl⟩ := h;have hji : j = i.n Ω := by
   obtain ⟨hl, hj⟩ := List.getElem?_eq_some_iff.1 hj;rw [List.getElem_range] at hj;exact hj.symm
  subst hji;simp only [E.i, E.den, BO.den, Int.toNat_zero, Nat.zero_add];rfl
 ·exact sel_i Ω _ _ h

theorem n_of_i {Ω : Om} {x : E} (h : 0 ≤ x.i Ω) : (x.n Ω : Int) = x.i Ω := by
 simp only [E.n, D.nat, E.i] at *; omega

theorem add_n {Ω : Om} {x y : E} (h1 : 0 ≤ x.i Ω) (h2 : 0 ≤ y.i Ω) : (x.add y).n Ω = x.n Ω + y.n Ω := by
 have := E.add_i Ω x y;have h3 := n_of_i (Ω := Ω) (x := x.add y) (by omega);have h4 := n_of_i h1;have h5 := n_of_i h2;omega
theorem sub_n {Ω : Om} {x y : E} (h1 : 0 ≤ y.i Ω) (h2 : y.i Ω ≤ x.i Ω) : (x.sub y).n Ω = x.n Ω - y.n Ω := by
 have := E.sub_i Ω x y;have h3 := n_of_i (Ω := Ω) (x := x.sub y) (by omega);have h4 := n_of_i (Ω := Ω) (x := x) (by omega);have h5 := n_of_i h1;omega

def selsE (q : SQ) (x : E) : Nat → Nat → List AV
 | _, 0 => []
 | j, n + 1 => mkS q.k (mkSel q.x (x.add (.int j))) :: selsE q x (j + 1) n

def sLoad (P : Program) (m : Mem) (ty : TypeId) (id : Nat) (x : E) : Option AV :=
 match m.seq id with
 | some q => match ge0 m.ask x with
  | true => match P.underlying ty with
   | some (.int _) => match ltB m.ask x q.n with
    | true => some (mkS q.k (mkSel q.x x))
    | false => none
   | some (.array _ _) => match P.info? ty with
    | some i => match leB m.ask (x.add (.int i.size)) q.n with
     | true => some (.agg (selsE q x 0 i.size))
     | false => none
    | none => none
   | _ => none
  | false => none
 | none => none

theorem selsE_cells {e : Env} {q : SQ} {x : E} (h0 : 0 ≤ x.i e.opq) (hg : ∀ c ∈ q.x.s e.opq, inK q.k c) : ∀ (n j : Nat), x.n e.opq + j + n ≤ (q.x.s e.opq).length →
  ∃ xs : List Value, VRs e (selsE q x j n) xs ∧ xs.length = n ∧ xs = (((q.x.s e.opq).drop (x.n e.opq + j)).take n).map (Value.int q.k)
 | 0, j, _ => ⟨[], VRs_nil, rfl, by simp⟩
 | n + 1, j, h => by
  obtain ⟨xs, h1, h2, h3⟩ := selsE_cells h0 hg n (j + 1) (by omega);have hlt : x.n e.opq + j < (q.x.s e.opq).length := by omega
  have hn : (x.add (.int j)).n e.opq = x.n e.opq + j := by
   rw [add_n h0 (by simp [E.i, E.den])]; rfl
  have hs : (q.x.s e.opq)[(x.add (.int j)).n e.opq]? = some ((q.x.s e.opq)[x.n e.opq + j]) := by rw [hn]; simp [hlt]
  have hi := mkSel_i e.opq q.x (x.add (.int j)) hs;refine ⟨.int q.k ((q.x.s e.opq)[x.n e.opq + j]) :: xs, VRs_cons ?_ h1, by simp [h2], ?_⟩
  ·have := mkS_vr (e := e) (k := q.k) (x := mkSel q.x (x.add (.int j))) (by rw [hi]; exact hg _ (List.getElem_mem hlt));rw [hi] at this; exact this
  ·rw [List.drop_eq_getElem_cons hlt, List.take_succ_cons, List.map_cons, h3];simp [Nat.add_assoc]

theorem sLoad_run {P : Program} {e : Env} {m : Mem} {M : World → Prop} (R : Reads P e m M) {ty id : Nat} {x : E} {v : AV} (k : sLoad P m ty id x = some v) {b : Nat} (hb : e.loc id = some b) :
  ∃ y, VR e v y ∧ ∀ w, M w → (loadVar ty ⟨b, e.base id + x.n e.opq, none⟩).run P w = .ok y w := by
 unfold sLoad at k;split at k
 ·rename_i q hq;obtain ⟨b', hb', hn, hg, hc⟩ := R.seq id q hq;obtain rfl : b' = b := by rw [hb] at hb'; exact (Option.some.inj hb').symm
  split at k
  ·rename_i h0;have h0 := ge0_val R.ask h0;have hxn := n_of_i h0;split at k
   ·rename_i kk hu;split at k
    ·rename_i hl;have hl := ltB_val R.ask hl;simp only [sme] at k;subst k;have hlt : x.n e.opq < (q.x.s e.opq).length := by omega
     have hs : (q.x.s e.opq)[x.n e.opq]? = some (q.x.s e.opq)[x.n e.opq] := by simp [hlt]
     have hi := mkSel_i e.opq q.x x hs;refine ⟨.int q.k (q.x.s e.opq)[x.n e.opq], ?_, fun w hw => ?_⟩
     ·have := mkS_vr (e := e) (k := q.k) (x := mkSel q.x x) (by rw [hi]; exact hg _ (List.getElem_mem hlt));rw [hi] at this; exact this
     ·simp [loadVar, isAgg, run_underlying hu, hc w hw _ _ hs]
    ·cases k
   ·rename_i n el hu;split at k
    ·rename_i i hinf;split at k
     ·rename_i hl;have hl := leB_val R.ask hl;rw [E.add_i] at hl;have hl : x.i e.opq + (i.size : Int) ≤ q.n.i e.opq := hl;simp only [sme] at k;subst k;obtain ⟨xs, h1, h2, h3⟩ := selsE_cells (e := e) (q := q) (x := x) h0 hg i.size 0 (by omega);refine ⟨.agg xs.toArray, by simp only [VR]; exact ⟨_, rfl, by simpa using h1⟩, fun w hw => ?_⟩;have hr := run_loadCells_at (P := P) w b' (e.base id + x.n e.opq) i.size xs h2 fun j y hj => by
       have hjn : j < i.size := by rw [← h2]; exact (List.getElem?_eq_some_iff.1 hj).1
       rw [h3] at hj;simp only [List.getElem?_map, List.getElem?_take, hjn, if_true, List.getElem?_drop, Option.map_eq_some_iff] at hj;obtain ⟨c, hc1, rfl⟩ := hj;have := hc w hw (x.n e.opq + 0 + j) c hc1;rw [Nat.add_assoc];simpa using this
      simp [loadVar, isAgg, run_underlying hu, sizeOf, typeInfo, hinf, hr]
     ·cases k
    ·cases k
   ·cases k
  ·cases k
 ·cases k

def runE (cell : Nat → Option AV) (k : IntKind) : Nat → Nat → List E
 | 0, _ => []
 | n + 1, off => match cell off with
  | some v => match toE v with
   | some (l, x) => match decide (l = k) with
    | true => x :: runE cell k n (off + 1)
    | false => []
   | none => []
  | none => []
theorem runE_at {cell : Nat → Option AV} {k : IntKind} : ∀ (n off j : Nat) (x : E), (runE cell k n off)[j]? = some x → ∃ v, cell (off + j) = some v ∧ toE v = some (k, x)
 | 0, off, j, x, h => by simp [runE] at h
 | n + 1, off, j, x, h => by
  simp only [runE] at h;split at h
  ·rename_i v hv;split at h
   ·rename_i l y hy;split at h
    ·rename_i hd;have hd := of_decide_eq_true hd;subst hd;cases j with
     | zero =>
      simp only [List.getElem?_cons_zero, sme] at h;subst h;exact ⟨v, hv, hy⟩
     | succ j =>
      obtain ⟨u, h1, h2⟩ := runE_at n (off + 1) j x (by simpa using h);exact ⟨u, by rw [← h1]; congr 1; omega, h2⟩
    ·simp at h
   ·simp at h
  ·simp at h

def allSel (s : E) : Nat → List E → Bool
 | _, [] => true
 | i, x :: r => match x with
  | .bi .sel s' (.int j) => s.beq s' && decide (j = i) && allSel s (i + 1) r
  | _ => false
def listE : List E → E
 | [] => .lits []
 | x :: r => consE x (listE r)
def segE (l : List E) : E := match l with
 | .bi .sel s (.int 0) :: _ => match allSel s 0 l with
  | true => s
  | false => listE l
 | _ => listE l

theorem allSel_at {s : E} : ∀ (l : List E) (i j : Nat) (x : E), allSel s i l = true → l[j]? = some x → x = .bi .sel s (.int (i + j))
 | [], i, j, x, _, h => by simp at h
 | y :: r, i, j, x, k, h => by
  simp only [allSel] at k;split at k
  ·rename_i s' j';simp only [bae, decide_eq_true_eq] at k;obtain ⟨⟨k1, k2⟩, k3⟩ := k;have k1 := E.beq_eq k1;subst k1 k2;cases j with
   | zero =>
    simp only [List.getElem?_cons_zero, sme] at h;subst h; simp
   | succ j =>
    have := allSel_at r (i + 1) j x k3 (by simpa using h);rw [this]; congr 2; push_cast; omega
  ·cases k
theorem listE_s (Ω : Om) : ∀ l : List E, (listE l).s Ω = l.map (E.i Ω)
 | [] => by simp [listE, E.s, E.den]
 | x :: r => by simp only [listE, consE_s, listE_s Ω r, List.map_cons]

theorem segE_sel (Ω : Om) {l : List E} {i : E} {x : E} (h : l[i.n Ω]? = some x) (h0 : 0 ≤ i.i Ω) : (E.bi .sel (segE l) i).i Ω = x.i Ω := by
 have plain : (E.bi .sel (listE l) i).i Ω = x.i Ω := sel_i Ω _ _ (by rw [listE_s, List.getElem?_map, h]; rfl);unfold segE;split
 ·split
  ·rename_i s _ ha;have := allSel_at _ 0 _ _ ha h;subst this;have e1 : (((0 : Nat) : Int) + (i.n Ω : Nat)) = i.i Ω := by have := n_of_i h0; omega
   simp only [E.i, E.den, BO.den, D.nat, D.toInt_int];rw [e1]; rfl
  ·exact plain
 ·exact plain

def offE (b : Bool) (off : Nat) (i : E) : E := match b with
 | true => (E.int off).add i
 | false => .bi .add i (.int off)
theorem offE_i (Ω : Om) (b : Bool) (off : Nat) (i : E) : (offE b off i).i Ω = off + i.i Ω := by
 unfold offE;split
 ·rw [E.add_i]; rfl
 ·simp only [E.i, E.den, BO.den, D.toInt_int]; omega
theorem offE_n {Ω : Om} {b : Bool} {off : Nat} {i : E} (h : 0 ≤ i.i Ω) : (offE b off i).n Ω = off + i.n Ω := by
 have h1 := offE_i Ω b off i;have h2 := n_of_i h;have h3 := n_of_i (Ω := Ω) (x := offE b off i) (by omega);omega

theorem ints_set (d : D) (j : Nat) (v : D) : D.ints (.list (d.toList.set j v)) = d.ints.set j v.toInt := by simp [D.ints, List.map_set]
def lenB (A : Ask) : E → Nat → Bool
 | .tr .upd s _ _, n => lenB A s n
 | .lits l, n => Nat.ble n l.length
 | .bi .app (.un .one _) r, n => match n with
  | 0 => true
  | n + 1 => lenB A r n
 | x, n => leB A (.int n) (.un .len x)
theorem lenB_ok {Ω : Om} {A : Ask} (hA : AskOK Ω A) : ∀ (x : E) (n : Nat), lenB A x n = true → n ≤ (x.s Ω).length := by
 have plain : ∀ (x : E) (n : Nat), leB A (.int n) (.un .len x) = true → n ≤ (x.s Ω).length := by
  intro x n h;have := leB_val hA h;simp only [E.i, E.den, UO.den, D.toInt_int] at this;simp only [E.s, D.ints, List.length_map];omega
 intro x;induction x with
 | tr o x y z ihx _ _ =>
  intro n h;cases o with
  | upd =>
   have := ihx n h;simp only [E.s, E.den, TO.den, ints_set, List.length_set] at this ⊢;exact this
  | cut => exact plain _ _ h
  | splice => exact plain _ _ h
  | seg => exact plain _ _ h
 | lits l => intro n h; have := ble_le h; simpa [E.s, E.den] using this
 | bi o x y _ ihy =>
  intro n h;unfold lenB at h;split at h
  ·rename_i he; cases he
  ·rename_i he; cases he
  ·rename_i u v he;cases he;split at h
   ·omega
   ·rename_i m;have := ihy m h;simp only [E.s, E.den, BO.den, UO.den, D.ints, D.toList_list, List.length_map, List.length_append, List.length_cons, List.length_nil] at this ⊢;omega
  ·exact plain _ _ h
 | var i => intro n h; exact plain _ _ h
 | int m => intro n h; exact plain _ _ h
 | fn f x _ => intro n h; exact plain _ _ h
 | un o x _ => intro n h; exact plain _ _ h

def sLoadC (P : Program) (m : Mem) (ty : TypeId) (id : Nat) (x : E) : Option AV :=
 match x, P.underlying ty with
 | .bi .add i (.int off), some (.int k) => match decide (0 ≤ off) && m.z id && ge0 m.ask i with
  | true =>
   let l := runE (m.cell id) k 4096 off.toNat
   match ltB m.ask i (.int l.length) with
   | true => match lenB m.ask (segE l) l.length with
    | true => some (mkS k (mkSel (segE l) i))
    | false => some (mkS k (.bi .sel (segE l) i))
   | false => none
  | false => none
 | _, _ => none

theorem sLoadC_run {P : Program} {e : Env} {m : Mem} {M : World → Prop} (R : Reads P e m M) {ty id : Nat} {x : E} {v : AV} (k : sLoadC P m ty id x = some v) {b : Nat} (hb : e.loc id = some b) :
  ∃ y, VR e v y ∧ ∀ w, M w → (loadVar ty ⟨b, e.base id + x.n e.opq, none⟩).run P w = .ok y w := by
 unfold sLoadC at k;split at k
 ·rename_i i off kk hu;split at k
  ·rename_i hc;simp only [bae, decide_eq_true_eq] at hc;obtain ⟨⟨c1, c2⟩, c3⟩ := hc;have h0 := ge0_val R.ask c3;have hz := R.zero id c2;simp only at k;split at k
   ·rename_i hl;have hl := ltB_val R.ask hl;have hl : i.i e.opq < ((runE (m.cell id) kk 4096 off.toNat).length : Int) := hl;have hin := n_of_i h0;have hlt : i.n e.opq < (runE (m.cell id) kk 4096 off.toNat).length := by omega
    have hs : (runE (m.cell id) kk 4096 off.toNat)[i.n e.opq]? = some (runE (m.cell id) kk 4096 off.toNat)[i.n e.opq] := by simp [hlt]
    obtain ⟨u, g1, g2⟩ := runE_at _ _ _ _ hs;obtain ⟨b', y, l1, l2, l3⟩ := R.cell id _ u g1;obtain rfl : b' = b := by rw [hb] at l1; exact (Option.some.inj l1).symm
    obtain ⟨rfl, hr⟩ := toE_val g2 l2;have hsel := segE_sel e.opq hs h0;have hv : ∃ z : E, v = mkS kk z ∧ z.i e.opq = (runE (m.cell id) kk 4096 off.toNat)[i.n e.opq].i e.opq := by
     split at k
     ·rename_i hlen;simp only [sme] at k;refine ⟨_, k.symm, ?_⟩;have hlen := lenB_ok R.ask _ _ hlen;have hg : (((segE (runE (m.cell id) kk 4096 off.toNat)).s e.opq)[i.n e.opq]?) = some ((segE (runE (m.cell id) kk 4096 off.toNat)).s e.opq)[i.n e.opq] := by simp
      rw [mkSel_i e.opq _ _ hg, ← hsel, sel_i e.opq _ _ hg]
     ·simp only [sme] at k;exact ⟨_, k.symm, hsel⟩
    obtain ⟨z, rfl, hz2⟩ := hv;refine ⟨_, mkS_vr (by rw [hz2]; exact hr), fun w hw => ?_⟩;have hxn : (E.bi .add i (.int off)).n e.opq = off.toNat + i.n e.opq := by
     simp only [E.n, E.den, BO.den, D.nat, D.toInt_int];simp only [E.i] at h0;omega
    simp [loadVar, isAgg, run_underlying hu, hz, hxn, l3 w hw, hz2]
   ·cases k
  ·cases k
 ·cases k

def sLoadAt (P : Program) (m : Mem) (ty : TypeId) (id : Nat) (x : E) : Option AV := match m.seq id with
 | some _ => sLoad P m ty id x
 | none => sLoadC P m ty id x
theorem sLoadAt_run {P : Program} {e : Env} {m : Mem} {M : World → Prop} (R : Reads P e m M) {ty id : Nat} {x : E} {v : AV} (k : sLoadAt P m ty id x = some v) {b : Nat} (hb : e.loc id = some b) :
  ∃ y, VR e v y ∧ ∀ w, M w → (loadVar ty ⟨b, e.base id + x.n e.opq, none⟩).run P w = .ok y w := by
 unfold sLoadAt at k;split at k
 ·exact sLoad_run R k hb
 ·exact sLoadC_run R k hb

def sIndexAddr (P : Program) (m : Mem) (t : TypeId) (x ix : AV) : Option AV :=
 match x, toE ix with
 | .sslice id off len _ _, some (_, i) => match P.underlying t with
  | some (.slice el) => match P.info? el with
   | some inf => match Nat.beq inf.size 1 && ge0 m.ask i && ltB m.ask i len with
    | true => some (.sptr id (off.add i))
    | false => none
   | none => none
  | _ => none
 | .slice id off len _ _, some (_, i) => match P.underlying t with
  | some (.slice el) => match P.info? el with
   | some inf => match Nat.beq inf.size 1 && m.z id && ge0 m.ask i && ltB m.ask i (.int len) with
    | true => some (.sptr id ((E.int off).add i))
    | false => none
   | none => none
  | _ => none
 | .ptr id off, some (_, i) => match P.underlying t with
  | some (.array len el) => match P.info? el with
   | some inf => match Nat.beq inf.size 1 && m.z id && ge0 m.ask i && ltB m.ask i (.int len) with
    | true => some (.sptr id (offE (m.seq id).isSome off i))
    | false => none
   | none => none
  | _ => none
 | _, _ => none

theorem sIndexAddr_run {P : Program} {e : Env} {m : Mem} {M : World → Prop} (R : Reads P e m M) {t : TypeId} {x ix v : AV} (k : sIndexAddr P m t x ix = some v) {x' ix' : Value} (hx : VR e x x') (hi : VR e ix ix') :
  ∃ y, VR e v y ∧ ∀ w, (Instr.indexAt t x' ix').run P w = .ok y w := by
 have hA := R.ask;unfold sIndexAddr at k;split at k
 ·rename_i id off len cap opn kk i hix;obtain ⟨rfl, _⟩ := toE_val hix hi;split at k
  ·rename_i el hu;split at k
   ·rename_i inf hinf;split at k
    ·rename_i hc;simp only [bae] at hc;have h1 := beq_t hc.1.1;have h0 := ge0_val hA hc.1.2;have hl := ltB_val hA hc.2;simp only [sme] at k;subst k;simp only [VR] at hx;obtain ⟨b, p, hb, rfl, hp, l0, o0, lc⟩ := hx;have hin := n_of_i h0;have hln := n_of_i l0;have hcn := n_of_i (Ω := e.opq) (x := cap) (by omega);have hp := hp (by omega);refine ⟨.pointer (some ⟨b, e.base id + (off.add i).n e.opq, none⟩), by simp only [VR]; exact ⟨b, hb, rfl⟩, fun w => ?_⟩;rw [add_n o0 h0];have e1 : (i.i e.opq).toNat = i.n e.opq := rfl;have hlt : i.i e.opq < (len.n e.opq : Int) := by omega
     simp [Instr.indexAt, asIntOf, run_underlying hu, h0, hlt, sizeOf, typeInfo, hinf, add_none, h1, hp, e1, Nat.add_assoc]
    ·cases k
   ·cases k
  ·cases k
 ·rename_i id off len cap opn kk i hix;obtain ⟨rfl, _⟩ := toE_val hix hi;split at k
  ·rename_i el hu;split at k
   ·rename_i inf hinf;split at k
    ·rename_i hc;simp only [bae] at hc;have h1 := beq_t hc.1.1.1;have hz := R.zero id hc.1.1.2;have h0 := ge0_val hA hc.1.2;have hl := ltB_val hA hc.2;have hl : i.i e.opq < (len : Int) := hl;simp only [sme] at k;subst k;simp only [VR] at hx;obtain ⟨b, hb, rfl⟩ := hx;have hin := n_of_i h0;refine ⟨.pointer (some ⟨b, e.base id + ((E.int off).add i).n e.opq, none⟩), by simp only [VR]; exact ⟨b, hb, rfl⟩, fun w => ?_⟩;have ho : (0 : Int) ≤ (E.int off).i e.opq := by simp [E.i, E.den]
     rw [add_n ho h0, hz];have e1 : (i.i e.opq).toNat = i.n e.opq := rfl;have e2 : (E.int off).n e.opq = off := by simp [E.n, E.den, D.nat]
     simp [Instr.indexAt, asIntOf, run_underlying hu, h0, hl, sizeOf, typeInfo, hinf, add_none, h1, e1, e2]
    ·cases k
   ·cases k
  ·cases k
 ·rename_i id off kk i hix;obtain ⟨rfl, _⟩ := toE_val hix hi;split at k
  ·rename_i len el hu;split at k
   ·rename_i inf hinf;split at k
    ·rename_i hc;simp only [bae] at hc;have h1 := beq_t hc.1.1.1;have hz := R.zero id hc.1.1.2;have h0 := ge0_val hA hc.1.2;have hl := ltB_val hA hc.2;have hl : i.i e.opq < (len : Int) := hl;simp only [sme] at k;subst k;simp only [VR] at hx;obtain ⟨b, hb, rfl⟩ := hx;have hin := n_of_i h0;refine ⟨.pointer (some ⟨b, e.base id + (offE (m.seq id).isSome off i).n e.opq, none⟩), by simp only [VR]; exact ⟨b, hb, rfl⟩, fun w => ?_⟩;rw [offE_n h0, hz];have e1 : (i.i e.opq).toNat = i.n e.opq := rfl;simp [Instr.indexAt, asIntOf, run_underlying hu, Instr.sureAddr, h0, hl, sizeOf, typeInfo, hinf, add_none, h1, e1]
    ·cases k
   ·cases k
  ·cases k
 ·cases k

def sIndex (P : Program) (A : Ask) (t : TypeId) (x ix : AV) : Option AV :=
 match toS x, toE ix with
 | some (n, s), some (_, i) => match P.underlying t with
  | some .string => match ge0 A i && ltB A i n with
   | true => some (mkS .u8 (mkSel s i))
   | false => none
  | _ => none
 | _, _ => none

theorem sIndex_run {P : Program} {e : Env} {A : Ask} (hA : AskOK e.opq A) {t : TypeId} {x ix v : AV} (k : sIndex P A t x ix = some v) {x' ix' : Value} (hx : VR e x x') (hi : VR e ix ix') :
  ∃ y, VR e v y ∧ ∀ w, (Instr.index t x' ix').run P w = .ok y w := by
 unfold sIndex at k;split at k
 ·rename_i n s kk i hs hix;obtain ⟨rfl, _⟩ := toE_val hix hi;obtain ⟨rfl, hn, hg⟩ := toS_val hs hx;split at k
  ·rename_i hu;split at k
   ·rename_i hc;simp only [bae] at hc;have h0 := ge0_val hA hc.1;have hl := ltB_val hA hc.2;simp only [sme] at k;subst k;have hin := n_of_i h0;have hlt : i.n e.opq < (s.s e.opq).length := by omega
    have hsel : (s.s e.opq)[i.n e.opq]? = some (s.s e.opq)[i.n e.opq] := by simp [hlt]
    have hii := mkSel_i e.opq s i hsel;have hgc := hg _ (List.getElem_mem hlt);refine ⟨.int .u8 (s.s e.opq)[i.n e.opq], ?_, fun w => ?_⟩
    ·have := mkS_vr (e := e) (k := .u8) (x := mkSel s i) (by rw [hii]; exact hgc);rw [hii] at this; exact this
    ·have e1 : (i.i e.opq).toNat = i.n e.opq := rfl;have e2 : (strOf (s.s e.opq))[i.n e.opq]? = some (UInt8.ofNat ((s.s e.opq)[i.n e.opq]).toNat) := by
      have : i.n e.opq < (strOf (s.s e.opq)).size := by rw [strOf_size]; exact hlt
      rw [getElem?_pos (strOf (s.s e.opq)) (i.n e.opq) this];congr 1;have hd := strOf_data (s.s e.opq);have : (strOf (s.s e.opq))[i.n e.opq] = ((strOf (s.s e.opq)).data.toList)[i.n e.opq]'(by rw [hd]; simpa using hlt) := rfl;rw [this];simp [hd]
     simp only [Instr.index, asIntOf, Sem.run_bind, Sem.run_pure, Result.andThen_ok, run_underlying hu, h0, if_true, e1, e2];rw [u8_toNat hgc]
   ·cases k
  ·cases k
 ·cases k

def pickE (A : Ask) (i : E) : Nat → Nat → Option Nat
 | 0, _ => none
 | f + 1, j => match askQ A (.eq i (.int j)) with
  | some true => some j
  | some false => pickE A i f (j + 1)
  | none => none
theorem pickE_val {Ω : Om} {A : Ask} (hA : AskOK Ω A) {i : E} : ∀ {f j n : Nat}, pickE A i f j = some n → i.i Ω = n
 | 0, _, _, h => by simp [pickE] at h
 | f + 1, j, n, h => by
  simp only [pickE] at h;split at h
  ·rename_i hq;have := askQ_val hA hq;simp only [sme] at h;subst h;exact of_decide_eq_true this
  ·exact pickE_val hA h
  ·cases h
def shortN (P : Program) (t : TypeId) (x : AV) : Nat := match P.underlying t, x with
 | some (.array len _), .ptr _ _ => if len ≤ 32 then len else 0
 | some (.slice _), .slice _ _ len _ _ => if len ≤ 32 then len else 0
 | _, _ => 0
def sIndexAddr2 (P : Program) (m : Mem) (t : TypeId) (x ix : AV) : Option AV :=
 match sIndexAddr P m t x ix with
 | some v => some v
 | none => match toE ix with
  | some (k, i) => match pickE m.ask i (shortN P t x) 0 with
   | some j => indexA P t x (.int k j)
   | none => none
  | none => none
theorem sIndexAddr2_run {P : Program} {e : Env} {m : Mem} {M : World → Prop} (R : Reads P e m M) {t : TypeId} {x ix v : AV} (k : sIndexAddr2 P m t x ix = some v) {x' ix' : Value} (hx : VR e x x') (hi : VR e ix ix') :
  ∃ y, VR e v y ∧ ∀ w, (Instr.indexAt t x' ix').run P w = .ok y w := by
 unfold sIndexAddr2 at k;split at k
 ·rename_i u hu;simp only [sme] at k;subst k;exact sIndexAddr_run R hu hx hi
 ·split at k
  ·rename_i kk i hix;obtain ⟨rfl, _⟩ := toE_val hix hi;split at k
   ·rename_i j hj;have := pickE_val R.ask hj;refine indexA_run k hx ?_;simp only [VR];rw [this]
   ·cases k
  ·cases k

def bndE (d : E) : Option AV → Option E
 | none => some d
 | some v => match toE v with
  | some (_, x) => some x
  | none => none

theorem bndE_val {e : Env} {x : Option AV} {a : Option Value} {d l : E} (h : OR e x a) (k : bndE d x = some l) : (a = none ∧ x = none ∧ l = d) ∨ ∃ kk, a = some (.int kk (l.i e.opq)) ∧ x ≠ none := by
 cases x with
 | none => simp only [bndE, sme] at k; exact .inl ⟨h, rfl, k.symm⟩
 | some v =>
  obtain ⟨y, rfl, hy⟩ := h;simp only [bndE] at k;split at k
  ·rename_i kk x hx;simp only [sme] at k;subst k;obtain ⟨rfl, _⟩ := toE_val hx hy;exact .inr ⟨kk, rfl, by simp⟩
  ·cases k

def sSlice (P : Program) (A : Ask) (t : TypeId) (x : AV) (lo hi mx : Option AV) : Option AV :=
 match P.underlying t, x with
 | some (.slice el), .sslice id off len cap opn => match P.info? el with
  | some inf => match bndE (.int 0) lo, bndE len hi, bndE cap mx with
   | some l, some h, some m => match Nat.beq inf.size 1 && ge0 A l && leB A l h && leB A h m && leB A m cap && (hi.isSome || mx.isNone) with
    | true => some (.sslice id (off.add l) (h.sub l) (m.sub l) (opn && mx.isNone))
    | false => none
   | _, _, _ => none
  | none => none
 | some .string, x => match toS x with
  | some (n, s) => match bndE (.int 0) lo, bndE n hi, mx with
   | some l, some h, none => match ge0 A l && leB A l h && leB A h n with
    | true => some (.sstr (h.sub l) (mkCut s n l h))
    | false => none
   | _, _, _ => none
  | none => none
 | _, _ => none

theorem strOf_extract (l : List Int) (a b : Nat) : (strOf l).extract a b = strOf ((l.take b).drop a) := by
 refine bytes_ext ?_;rw [strOf_data];have : ((strOf l).extract a b).data.toList = ((strOf l).data.toList.take b).drop a := by
  simp [ByteArray.extract, ByteArray.copySlice, List.drop_take]
 rw [this, strOf_data, List.map_drop, List.map_take]

theorem sSlice_run {P : Program} {e : Env} {A : Ask} (hA : AskOK e.opq A) {t : TypeId} {x v : AV} {lo hi mx : Option AV} (k : sSlice P A t x lo hi mx = some v) {x' : Value} {lo' hi' mx' : Option Value}
  (hx : VR e x x') (h1 : OR e lo lo') (h2 : OR e hi hi') (h3 : OR e mx mx') : ∃ y, VR e v y ∧ ∀ w, (Instr.sliceAt t x' lo' hi' mx').run P w = .ok y w := by
 unfold sSlice at k;split at k
 ·rename_i el id off len cap opn hu;split at k
  ·rename_i inf hinf;split at k
   ·rename_i l h m hl hh hm;split at k
    ·rename_i hc;simp only [bae, Bool.or_eq_true] at hc;obtain ⟨⟨⟨⟨⟨c0, c1⟩, c2⟩, c3⟩, c4⟩, c5⟩ := hc;have c0 := beq_t c0;have c1 := ge0_val hA c1;have c2 := leB_val hA c2;have c3 := leB_val hA c3;have c4 := leB_val hA c4;simp only [sme] at k;subst k;simp only [VR] at hx;obtain ⟨b, p, hb, rfl, hp, g1, g2, g3⟩ := hx;have n1 := n_of_i c1;have n2 := n_of_i (Ω := e.opq) (x := h) (by omega);have n3 := n_of_i (Ω := e.opq) (x := m) (by omega);have n4 := n_of_i (Ω := e.opq) (x := cap) (by omega);have n5 := n_of_i g1;generalize hsp : (if opn = true then e.spare id else 0) = sp at *
     -- the bounds
     have hb1 : (lo' = none ∧ l.n e.opq = 0) ∨ ∃ k, lo' = some (.int k (l.n e.opq)) := by
      rcases bndE_val h1 hl with ⟨q1, _, q3⟩ | ⟨kk, q1, _⟩
      ·subst q3; exact .inl ⟨q1, rfl⟩
      ·exact .inr ⟨kk, by rw [q1, n1]⟩
     have hb2 : (hi' = none ∧ mx' = none ∧ h.n e.opq = len.n e.opq) ∨ ∃ k, hi' = some (.int k (h.n e.opq)) := by
      rcases bndE_val h2 hh with ⟨q1, q2, q3⟩ | ⟨kk, q1, _⟩
      ·subst q2 q3;simp only [Option.isSome_none, Bool.false_eq_true, false_or, Option.isNone_iff_eq_none] at c5;subst c5;exact .inl ⟨q1, h3, rfl⟩
      ·exact .inr ⟨kk, by rw [q1, n2]⟩
     by_cases hmx : mx = none
     ·subst hmx;have hm' : m = cap := by simpa [bndE] using hm.symm
      subst hm';have hmx' : mx' = none := h3;subst hmx';have hr := run_bounds (P := P) (w := default) true (len.n e.opq) (m.n e.opq + sp) lo' hi' none (l.n e.opq) (h.n e.opq) (m.n e.opq + sp) hb1 hb2 (.inl ⟨rfl, rfl⟩) (by omega) (by omega) (by omega);refine ⟨.slice (some (if m.n e.opq + sp = l.n e.opq then ⟨b, p, none⟩ else ⟨b, p + l.n e.opq, none⟩)) (h.n e.opq - l.n e.opq) (m.n e.opq + sp - l.n e.opq), ?_, fun w => ?_⟩
      ·simp only [VR, Option.isNone_none, Bool.and_true, hsp];refine ⟨b, if m.n e.opq + sp = l.n e.opq then p else p + l.n e.opq, hb, ?_, ?_, ?_, ?_, ?_⟩
       ·rw [sub_n c1 c2, sub_n c1 (by omega)];have : m.n e.opq - l.n e.opq + sp = m.n e.opq + sp - l.n e.opq := by omega
        rw [this];split <;> rfl
       ·intro hne;rw [sub_n c1 (by omega)] at hne;rw [if_neg (by omega), hp (by omega), add_n g2 c1]; omega
       ·rw [E.sub_i]; omega
       ·rw [E.add_i]; omega
       ·rw [E.sub_i, E.sub_i]; omega
      ·have hr := run_bounds (P := P) w true (len.n e.opq) (m.n e.opq + sp) lo' hi' none (l.n e.opq) (h.n e.opq) (m.n e.opq + sp) hb1 hb2 (.inl ⟨rfl, rfl⟩) (by omega) (by omega) (by omega);simp only [Instr.sliceAt, Sem.run_bind, run_underlying hu, Result.andThen_ok, Instr.slice, hr, sizeOf, typeInfo, run_program, hinf, Sem.run_pure, c0, Nat.mul_one];congr 2;split <;> simp [add_none]
     ·have hb3 : ∃ k, mx' = some (.int k (m.n e.opq)) := by
       rcases bndE_val h3 hm with ⟨q1, q2, q3⟩ | ⟨kk, q1, _⟩
       ·exact absurd q2 hmx
       ·exact ⟨kk, by rw [q1, n3]⟩
      have hmn : mx.isNone = false := by cases mx <;> simp_all
      refine ⟨.slice (some (if m.n e.opq = l.n e.opq then ⟨b, p, none⟩ else ⟨b, p + l.n e.opq, none⟩)) (h.n e.opq - l.n e.opq) (m.n e.opq - l.n e.opq), ?_, fun w => ?_⟩
      ·simp only [VR, hmn, Bool.and_false, Bool.false_eq_true, if_false, Nat.add_zero];refine ⟨b, if m.n e.opq = l.n e.opq then p else p + l.n e.opq, hb, ?_, ?_, ?_, ?_, ?_⟩
       ·rw [sub_n c1 c2, sub_n c1 (by omega)];split <;> rfl
       ·intro hne;rw [sub_n c1 (by omega)] at hne;rw [if_neg (by omega), hp (by omega), add_n g2 c1]; omega
       ·rw [E.sub_i]; omega
       ·rw [E.add_i]; omega
       ·rw [E.sub_i, E.sub_i]; omega
      ·have hr := run_bounds (P := P) w true (len.n e.opq) (cap.n e.opq + sp) lo' hi' mx' (l.n e.opq) (h.n e.opq) (m.n e.opq) hb1 hb2 (.inr hb3) (by omega) (by omega) (by omega);simp only [Instr.sliceAt, Sem.run_bind, run_underlying hu, Result.andThen_ok, Instr.slice, hr, sizeOf, typeInfo, run_program, hinf, Sem.run_pure, c0, Nat.mul_one];congr 2;split <;> simp [add_none]
    ·cases k
   ·cases k
  ·cases k
 ·rename_i x hu;split at k
  ·rename_i n s hs;obtain ⟨rfl, hn, hg⟩ := toS_val hs hx;split at k
   ·rename_i l h hl hh;split at k
    ·rename_i hc;simp only [bae] at hc;have c1 := ge0_val hA hc.1.1;have c2 := leB_val hA hc.1.2;have c3 := leB_val hA hc.2;simp only [sme] at k;subst k;have hmx' : mx' = none := h3;subst hmx';have n1 := n_of_i c1;have n2 := n_of_i (Ω := e.opq) (x := h) (by omega);have n3 := n_of_i (Ω := e.opq) (x := n) (by omega);have hb1 : (lo' = none ∧ l.n e.opq = 0) ∨ ∃ k, lo' = some (.int k (l.n e.opq)) := by
      rcases bndE_val h1 hl with ⟨q1, _, q3⟩ | ⟨kk, q1, _⟩
      ·subst q3; exact .inl ⟨q1, rfl⟩
      ·exact .inr ⟨kk, by rw [q1, n1]⟩
     have hsz : (strOf (s.s e.opq)).size = n.n e.opq := by rw [strOf_size]; omega
     have hb2 : (hi' = none ∧ (none : Option Value) = none ∧ h.n e.opq = n.n e.opq) ∨ ∃ k, hi' = some (.int k (h.n e.opq)) := by
      rcases bndE_val h2 hh with ⟨q1, q2, q3⟩ | ⟨kk, q1, _⟩
      ·subst q3; exact .inl ⟨q1, rfl, rfl⟩
      ·exact .inr ⟨kk, by rw [q1, n2]⟩
     refine ⟨.string (strOf (((s.s e.opq).take (h.n e.opq)).drop (l.n e.opq))), ?_, fun w => ?_⟩
     ·simp only [VR];rw [mkCut_s hn];refine ⟨rfl, ?_, fun c hc => hg c (List.mem_of_mem_take (List.mem_of_mem_drop hc))⟩;rw [E.sub_i]; simp; omega
     ·have hr := run_bounds (P := P) w false (n.n e.opq) (n.n e.opq) lo' hi' none (l.n e.opq) (h.n e.opq) (n.n e.opq) hb1 hb2 (.inl ⟨rfl, rfl⟩) (by omega) (by omega) (by omega);simp only [Instr.sliceAt, Sem.run_bind, run_underlying hu, Result.andThen_ok, Instr.slice, Option.isSome_none, Bool.false_eq_true, if_false, Sem.run_pure, hsz, hr, strOf_extract]
    ·cases k
   ·cases k
  ·cases k
 ·cases k

def empC : AV → Bool
 | .nilslice | .hollow | .empty => true
 | _ => false
theorem empC_vr {e : Env} {x : AV} {a : Value} (h : empC x = true) (hx : VR e x a) : a = .slice none 0 0 ∨ ∃ ad c, a = .slice (some ad) 0 c := by
 cases x <;> simp only [empC, Bool.false_eq_true] at h
 ·simp only [VR] at hx; exact .inl hx
 ·simp only [VR] at hx; exact .inr hx
 ·simp only [VR] at hx; exact hx

def sSlice2 (P : Program) (m : Mem) (t : TypeId) (x : AV) (lo hi mx : Option AV) : Option AV :=
 match sSlice P m.ask t x lo hi mx with
 | some v => some v
 | none => match P.underlying t, x, mx with
  | some (.array n el), .ptr id off, none => match P.info? el, bndE (.int 0) lo, bndE (.int n) hi with
   | some inf, some l, some h => match Nat.beq inf.size 1 && m.z id && ge0 m.ask l && leB m.ask l h && leB m.ask h (.int n) with
    | true => some (.sslice id (offE (m.seq id).isSome off l) (h.sub l) ((E.int n).sub l) false)
    | false => none
   | _, _, _ => none
  | some (.slice el), .slice id off len cap false, none => match P.info? el, bndE (.int 0) lo, bndE (.int len) hi with
   | some inf, some l, some h => match Nat.beq inf.size 1 && m.z id && ge0 m.ask l && leB m.ask l h && leB m.ask h (.int cap) with
    | true => some (.sslice id (offE (m.seq id).isSome off l) (h.sub l) ((E.int cap).sub l) false)
    | false => none
   | _, _, _ => none
  | some (.slice el), y, none => match P.info? el, bndE (.int 0) lo, bndE (.int 0) hi with
   | some _, some l, some h => match empC y && ge0 m.ask l && leB m.ask l h && leB m.ask h (.int 0) with
    | true => some .empty
    | false => none
   | _, _, _ => none
  | _, _, _ => none

theorem sSlice2_run {P : Program} {e : Env} {m : Mem} {M : World → Prop} (R : Reads P e m M) {t : TypeId} {x v : AV} {lo hi mx : Option AV} (k : sSlice2 P m t x lo hi mx = some v) {x' : Value} {lo' hi' mx' : Option Value}
  (hx : VR e x x') (h1 : OR e lo lo') (h2 : OR e hi hi') (h3 : OR e mx mx') : ∃ y, VR e v y ∧ ∀ w, (Instr.sliceAt t x' lo' hi' mx').run P w = .ok y w := by
 unfold sSlice2 at k;split at k
 ·rename_i v' hv;simp only [sme] at k;subst k;exact sSlice_run (P := P) R.ask hv hx h1 h2 h3
 ·have hA := R.ask;split at k
  ·rename_i n el id off hu _;split at k
   ·rename_i inf l h hinf hl hh;split at k
    ·rename_i hc;simp only [bae] at hc;obtain ⟨⟨⟨⟨c0, cz⟩, c1⟩, c2⟩, c3⟩ := hc;have c0 := beq_t c0;have hz := R.zero id cz;have c1 := ge0_val hA c1;have c2 := leB_val hA c2;have c3 : h.i e.opq ≤ (n : Int) := leB_val hA c3;simp only [sme] at k;subst k;simp only [VR] at hx;obtain ⟨b, hb, rfl⟩ := hx;have hmx' : mx' = none := h3;subst hmx';have n1 := n_of_i c1;have n2 := n_of_i (Ω := e.opq) (x := h) (by omega);have hb1 : (lo' = none ∧ l.n e.opq = 0) ∨ ∃ k, lo' = some (.int k (l.n e.opq)) := by
      rcases bndE_val h1 hl with ⟨q1, _, q3⟩ | ⟨kk, q1, _⟩
      ·subst q3; exact .inl ⟨q1, rfl⟩
      ·exact .inr ⟨kk, by rw [q1, n1]⟩
     have hb2 : (hi' = none ∧ (none : Option Value) = none ∧ h.n e.opq = n) ∨ ∃ k, hi' = some (.int k (h.n e.opq)) := by
      rcases bndE_val h2 hh with ⟨q1, q2, q3⟩ | ⟨kk, q1, _⟩
      ·subst q3; exact .inl ⟨q1, rfl, rfl⟩
      ·exact .inr ⟨kk, by rw [q1, n2]⟩
     have en : (E.int (n : Int)).i e.opq = n := rfl;refine ⟨.slice (some (if n = l.n e.opq then ⟨b, off, none⟩ else ⟨b, off + l.n e.opq, none⟩)) (h.n e.opq - l.n e.opq) (n - l.n e.opq), ?_, fun w => ?_⟩
     ·simp only [VR, Bool.false_eq_true, if_false, Nat.add_zero];refine ⟨b, if n = l.n e.opq then off else off + l.n e.opq, hb, ?_, ?_, ?_, ?_, ?_⟩
      ·rw [sub_n c1 c2, sub_n c1 (by rw [en]; omega)];have : (E.int (n : Int)).n e.opq = n := by simp [E.n, E.den, D.nat]
       rw [this];split <;> rfl
      ·intro hne;rw [sub_n c1 (by rw [en]; omega)] at hne;have : (E.int (n : Int)).n e.opq = n := by simp [E.n, E.den, D.nat]
       rw [this] at hne;rw [if_neg (by omega), hz, Nat.zero_add, offE_n c1]
      ·rw [E.sub_i]; omega
      ·rw [offE_i]; omega
      ·rw [E.sub_i, E.sub_i, en]; omega
     ·have hr := run_bounds (P := P) w false n n lo' hi' none (l.n e.opq) (h.n e.opq) n hb1 hb2 (.inl ⟨rfl, rfl⟩) (by omega) (by omega) (by omega);simp only [Instr.sliceAt, Sem.run_bind, run_underlying hu, Result.andThen_ok, Instr.sureAddr, hr, sizeOf, typeInfo, run_program, hinf, Sem.run_pure, c0, Nat.mul_one];congr 2;split <;> simp [add_none]
    ·cases k
   ·cases k
  ·rename_i el id off len cap hu _;split at k
   ·rename_i inf l h hinf hl hh;split at k
    ·rename_i hc;simp only [bae] at hc;obtain ⟨⟨⟨⟨c0, cz⟩, c1⟩, c2⟩, c3⟩ := hc;have c0 := beq_t c0;have hz := R.zero id cz;have c1 := ge0_val hA c1;have c2 := leB_val hA c2;have c3 : h.i e.opq ≤ (cap : Int) := leB_val hA c3;simp only [sme] at k;subst k;simp only [VR] at hx;obtain ⟨b, hb, rfl⟩ := hx;have hmx' : mx' = none := h3;subst hmx';have n1 := n_of_i c1;have n2 := n_of_i (Ω := e.opq) (x := h) (by omega);have hb1 : (lo' = none ∧ l.n e.opq = 0) ∨ ∃ k, lo' = some (.int k (l.n e.opq)) := by
      rcases bndE_val h1 hl with ⟨q1, _, q3⟩ | ⟨kk, q1, _⟩
      ·subst q3; exact .inl ⟨q1, rfl⟩
      ·exact .inr ⟨kk, by rw [q1, n1]⟩
     have hb2 : (hi' = none ∧ (none : Option Value) = none ∧ h.n e.opq = len) ∨ ∃ k, hi' = some (.int k (h.n e.opq)) := by
      rcases bndE_val h2 hh with ⟨q1, q2, q3⟩ | ⟨kk, q1, _⟩
      ·subst q3; exact .inl ⟨q1, rfl, rfl⟩
      ·exact .inr ⟨kk, by rw [q1, n2]⟩
     have en : (E.int (cap : Int)).i e.opq = cap := rfl;have enn : (E.int (cap : Int)).n e.opq = cap := by simp [E.n, E.den, D.nat]
     refine ⟨.slice (some (if cap = l.n e.opq then ⟨b, off, none⟩ else ⟨b, off + l.n e.opq, none⟩)) (h.n e.opq - l.n e.opq) (cap - l.n e.opq), ?_, fun w => ?_⟩
     ·simp only [VR, Bool.false_eq_true, if_false, Nat.add_zero];refine ⟨b, if cap = l.n e.opq then off else off + l.n e.opq, hb, ?_, ?_, ?_, ?_, ?_⟩
      ·rw [sub_n c1 c2, sub_n c1 (by rw [en]; omega), enn];split <;> rfl
      ·intro hne;rw [sub_n c1 (by rw [en]; omega), enn] at hne;rw [if_neg (by omega), hz, Nat.zero_add, offE_n c1]
      ·rw [E.sub_i]; omega
      ·rw [offE_i]; omega
      ·rw [E.sub_i, E.sub_i, en]; omega
     ·have hr := run_bounds (P := P) w true len cap lo' hi' none (l.n e.opq) (h.n e.opq) cap hb1 hb2 (.inl ⟨rfl, rfl⟩) (by omega) (by omega) (by omega);simp only [Instr.sliceAt, Sem.run_bind, run_underlying hu, Result.andThen_ok, Instr.slice, Bool.false_eq_true, if_false, Nat.add_zero, hr, sizeOf, typeInfo, run_program, hinf, Sem.run_pure, c0, Nat.mul_one];congr 2;split <;> simp [add_none]
    ·cases k
   ·cases k
  ·rename_i el y hu _ _;split at k
   ·rename_i inf l h hinf hl hh;split at k
    ·rename_i hc;simp only [bae] at hc;obtain ⟨⟨⟨c0, c1⟩, c2⟩, c3⟩ := hc;have c1 := ge0_val hA c1;have c2 := leB_val hA c2;have c3 : h.i e.opq ≤ 0 := leB_val hA c3;simp only [sme] at k;subst k;have hmx' : mx' = none := h3;subst hmx';have n1 := n_of_i c1;have n2 := n_of_i (Ω := e.opq) (x := h) (by omega);have hb1 : (lo' = none ∧ (0 : Nat) = 0) ∨ ∃ k, lo' = some (.int k ((0 : Nat) : Int)) := by
      rcases bndE_val h1 hl with ⟨q1, _, q3⟩ | ⟨kk, q1, _⟩
      ·exact .inl ⟨q1, rfl⟩
      ·refine .inr ⟨kk, ?_⟩;rw [q1];congr 2;omega
     have hb2 : (hi' = none ∧ (none : Option Value) = none ∧ (0 : Nat) = 0) ∨ ∃ k, hi' = some (.int k ((0 : Nat) : Int)) := by
      rcases bndE_val h2 hh with ⟨q1, q2, q3⟩ | ⟨kk, q1, _⟩
      ·exact .inl ⟨q1, rfl, rfl⟩
      ·refine .inr ⟨kk, ?_⟩;rw [q1];congr 2;omega
     rcases empC_vr c0 hx with rfl | ⟨ad, c, rfl⟩
     ·have hr : ∀ w, (Instr.sliceBounds true 0 0 lo' hi' none).run P w = .ok (0, 0, 0) w := fun w => run_bounds w true 0 0 lo' hi' none 0 0 0 hb1 hb2 (.inl ⟨rfl, rfl⟩) (Nat.le_refl 0) (Nat.le_refl 0) (Nat.le_refl 0)
      refine ⟨.slice none 0 0, ?_, fun w => ?_⟩
      ·exact .inl rfl
      ·simp [Instr.sliceAt, Sem.run_bind, run_underlying hu, Result.andThen_ok, Instr.slice, hr, sizeOf, typeInfo, run_program, hinf, Sem.run_pure]
     ·have hr : ∀ w, (Instr.sliceBounds true 0 c lo' hi' none).run P w = .ok (0, 0, c) w := fun w => run_bounds w true 0 c lo' hi' none 0 0 c hb1 hb2 (.inl ⟨rfl, rfl⟩) (Nat.le_refl 0) (Nat.zero_le c) (Nat.le_refl c)
      refine ⟨.slice (if c = 0 then some ad else (some ad).map (·.add (0 * inf.size))) (0 - 0) (c - 0), ?_, fun w => ?_⟩
      ·simp only [VR];split
       ·exact .inr ⟨ad, c, rfl⟩
       ·exact .inr ⟨_, c, rfl⟩
      ·simp only [Instr.sliceAt, Sem.run_bind, run_underlying hu, Result.andThen_ok, Instr.slice, hr, sizeOf, typeInfo, run_program, hinf, Sem.run_pure]
    ·cases k
   ·cases k
  ·cases k

def sLen (P : Program) (A : Ask) (t : TypeId) (x : AV) : Option AV :=
 match P.underlying t, x with
 | some (.slice _), .sslice _ _ len _ _ => match fitB A .i64 len with
  | true => some (mkS .i64 len)
  | false => none
 | some .string, x => match toS x with
  | some (n, _) => match fitB A .i64 n with
   | true => some (mkS .i64 n)
   | false => none
  | none => none
 | _, _ => none

theorem sLen_run {P : Program} {e : Env} {A : Ask} (hA : AskOK e.opq A) {t ty : TypeId} {x v : AV} (k : sLen P A t x = some v) {x' : Value} (hx : VR e x x') : ∃ y, VR e v y ∧ ∀ w, (Builtin.len_ #[t] ty #[x']).run P w = .ok y w := by
 unfold sLen at k;split at k
 ·rename_i el id off len cap opn hu;split at k
  ·rename_i hf;have hf := fitB_val hA hf;simp only [sme] at k;subst k;simp only [VR] at hx;obtain ⟨b, p, hb, rfl, _, g1, _⟩ := hx;refine ⟨_, mkS_vr hf, fun w => ?_⟩;simp [Builtin.len_, run_underlying hu, goInt, n_of_i g1]
  ·cases k
 ·rename_i x hu;split at k
  ·rename_i n s hs;split at k
   ·rename_i hf;have hf := fitB_val hA hf;simp only [sme] at k;subst k;obtain ⟨rfl, hn, _⟩ := toS_val hs hx;refine ⟨_, mkS_vr hf, fun w => ?_⟩;simp [Builtin.len_, run_underlying hu, goInt, strOf_size, hn]
   ·cases k
  ·cases k
 ·cases k

def sCap (P : Program) (A : Ask) (t : TypeId) (x : AV) : Option AV :=
 match P.underlying t, x with
 | some (.slice _), .sslice _ _ _ cap false => match fitB A .i64 cap with
  | true => some (mkS .i64 cap)
  | false => none
 | some (.slice _), .slice _ _ _ cap false => some (.int .i64 cap)
 | _, _ => none

theorem sCap_run {P : Program} {e : Env} {A : Ask} (hA : AskOK e.opq A) {t ty : TypeId} {x v : AV} (k : sCap P A t x = some v) {x' : Value} (hx : VR e x x') : ∃ y, VR e v y ∧ ∀ w, (Builtin.cap_ #[t] ty #[x']).run P w = .ok y w := by
 unfold sCap at k;split at k
 ·rename_i el id off len cap hu;split at k
  ·rename_i hf;have hf := fitB_val hA hf;simp only [sme] at k;subst k;simp only [VR] at hx;obtain ⟨b, p, hb, rfl, _, g1, _, g3⟩ := hx;refine ⟨_, mkS_vr hf, fun w => ?_⟩;simp [Builtin.cap_, run_underlying hu, goInt, n_of_i (Ω := e.opq) (x := cap) (by omega)]
  ·cases k
 ·rename_i el id off len cap hu;simp only [sme] at k;subst k;simp only [VR] at hx;obtain ⟨b, hb, rfl⟩ := hx;refine ⟨.int .i64 cap, by simp only [VR], fun w => ?_⟩;simp [Builtin.cap_, run_underlying hu, goInt]
 ·cases k

def sArr (P : Program) (A : Ask) (arr : TypeId) (x : AV) : Option AV :=
 match P.underlying arr, x with
 | some (.array n _), .slice id off len _ _ => match Nat.ble n len with
  | true => some (.ptr id off)
  | false => none
 | some (.array n _), .sslice id off len _ _ => match Nat.blt 0 n && leB A (.int n) len with
  | true => some (.sptr id off)
  | false => none
 | _, _ => none

theorem sArr_run {P : Program} {e : Env} {A : Ask} (hA : AskOK e.opq A) {arr : TypeId} {x v : AV} (k : sArr P A arr x = some v) {x' : Value} (hx : VR e x x') : ∃ y, VR e v y ∧ ∀ w, (Instr.arrayAt arr x').run P w = .ok y w := by
 unfold sArr at k;split at k
 ·rename_i n el id off len cap opn hu;split at k
  ·rename_i hl;have hl := ble_le hl;simp only [sme] at k;subst k;simp only [VR] at hx;obtain ⟨b, hb, rfl⟩ := hx;refine ⟨.pointer (some ⟨b, off, none⟩), by simp only [VR]; exact ⟨b, hb, rfl⟩, fun w => ?_⟩;have : ¬ len < n := by omega
   simp [Instr.arrayAt, run_underlying hu, this]
  ·cases k
 ·rename_i n el id off len cap opn hu;split at k
  ·rename_i hl;simp only [bae] at hl;have hn : 0 < n := by simpa [Nat.blt_eq] using hl.1
   have hl := leB_val hA hl.2;have hl : (n : Int) ≤ len.i e.opq := hl;simp only [sme] at k;subst k;simp only [VR] at hx;obtain ⟨b, p, hb, rfl, hp, g1, g2, g3⟩ := hx;have n1 := n_of_i g1;have n2 := n_of_i (Ω := e.opq) (x := cap) (by omega);have hp := hp (by omega);subst hp;refine ⟨.pointer (some ⟨b, e.base id + off.n e.opq, none⟩), by simp only [VR]; exact ⟨b, hb, rfl⟩, fun w => ?_⟩;have : ¬ len.n e.opq < n := by omega
   simp [Instr.arrayAt, run_underlying hu, this]
  ·cases k
 ·cases k

def sText (P : Program) (m : Mem) (src dst : TypeId) (x : AV) : Option AV :=
 match P.underlying src, P.underlying dst, x with
 | some (.slice el), some .string, .sslice id off len _ _ => match P.underlying el with
  | some (.int .u8) => match m.seq id with
   | some q => match decide (q.k = .u8) && leB m.ask (off.add len) q.n with
    | true => some (.sstr len (mkCut q.x q.n off (off.add len)))
    | false => none
   | none => none
  | _ => none
 | some (.slice el), some .string, .slice id off len _ _ => match P.underlying el with
  | some (.int .u8) => match readL m id off len with
   | some l => match seqOfL .u8 l with
    | some q => some (.sstr (.int len) q)
    | none => none
   | none => none
  | _ => none
 | _, _, _ => none

theorem sText_run {P : Program} {e : Env} {m : Mem} {M : World → Prop} (R : Reads P e m M) {src dst : TypeId} {x v : AV} (k : sText P m src dst x = some v) {y : Value} (hx : VR e x y) :
  ∃ z, VR e v z ∧ ∀ w, M w → (convert src dst y).run P w = .ok z w := by
 unfold sText at k;split at k
 ·rename_i el id off len cap opn hs hd;split at k
  ·rename_i he;split at k
   ·rename_i q hq;split at k
    ·rename_i hc;simp only [bae, decide_eq_true_eq] at hc;obtain ⟨hk, hl⟩ := hc;have hl := leB_val R.ask hl;rw [E.add_i] at hl;simp only [sme] at k;subst k;obtain ⟨b, hb, hn, hg, hcell⟩ := R.seq id q hq;rw [hk] at hg hcell;simp only [VR] at hx;obtain ⟨b', p, hb', rfl, hp, g1, g2, g3⟩ := hx;obtain rfl : b' = b := by rw [hb] at hb'; exact (Option.some.inj hb').symm
     have n1 := n_of_i g1;have n2 := n_of_i g2;have n3 := n_of_i (Ω := e.opq) (x := cap) (by omega);have hcut : (mkCut q.x q.n off (off.add len)).s e.opq = ((q.x.s e.opq).drop (off.n e.opq)).take (len.n e.opq) := by
      rw [mkCut_s hn, add_n g2 g1, List.drop_take]; congr 1; omega
     refine ⟨.string (strOf (((q.x.s e.opq).drop (off.n e.opq)).take (len.n e.opq))), ?_, fun w hw => ?_⟩
     ·simp only [VR];rw [hcut];refine ⟨rfl, ?_, fun c hc => hg c (List.mem_of_mem_drop (List.mem_of_mem_take hc))⟩
      simp; omega
     ·rw [run_convert_bytes_string w src dst el _ _ _ hs he hd];refine run_bytesToString w _ _ _ _ ?_;by_cases h0 : len.n e.opq = 0
      ·rw [h0]; simp [loadCells, loadCellsFrom]
      ·have hp := hp (by omega);subst hp;refine run_loadCells_at (P := P) w b' (e.base id + off.n e.opq) (len.n e.opq) _ (by simp; omega) fun j y hj => ?_
       simp only [List.getElem?_map, Option.map_eq_some_iff] at hj;obtain ⟨c, hc1, rfl⟩ := hj;have hjl : j < len.n e.opq := by
        rw [List.getElem?_take] at hc1;split at hc1
        ·assumption
        ·cases hc1
       rw [List.getElem?_take, if_pos hjl, List.getElem?_drop] at hc1;rw [Nat.add_assoc];exact hcell w hw _ c hc1
    ·cases k
   ·cases k
  ·cases k
 ·rename_i el id off len cap opn hs hd;split at k
  ·rename_i he;split at k
   ·rename_i l hl;split at k
    ·rename_i q hq;simp only [sme] at k;subst k;simp only [VR] at hx;obtain ⟨b, hb, rfl⟩ := hx;obtain ⟨xs, h1, h2, h3⟩ := readL_cells R hb _ _ _ hl;obtain ⟨rfl, hr⟩ := seqOfL_val hq h1;refine ⟨.string (strOf (q.s e.opq)), ?_, fun w hw => ?_⟩
     ·simp only [VR];refine ⟨trivial, ?_, hr⟩;simp only [List.length_map] at h2;rw [h2]; rfl
     ·rw [run_convert_bytes_string w src dst el _ _ _ hs he hd];exact run_bytesToString w _ len _ _ (run_loadCells_at (P := P) w b off len _ h2 (h3 w hw))
    ·cases k
   ·cases k
  ·cases k
 ·cases k

def sMin (A : Ask) (lesser : Bool) (a b : AV) : Option AV :=
 match toE a, toE b with
 | some (k, x), some (l, y) => match decide (k = l) with
  | true => match lesser with
   | true => match askQ A (.le x y) with
    | some true => some (mkS k x)
    | some false => some (mkS k y)
    | none => none
   | false => match askQ A (.le y x) with
    | some true => some (mkS k x)
    | some false => some (mkS k y)
    | none => none
  | false => none
 | _, _ => none

theorem sMin_run {P : Program} {e : Env} {A : Ask} (hA : AskOK e.opq A) {a b v : AV} {lesser : Bool} (h : sMin A lesser a b = some v) {x y : Value} (hx : VR e a x) (hy : VR e b y) (ts : Array TypeId) (ty : TypeId) :
  ∃ z, VR e v z ∧ ∀ w, ((match lesser with | true => Builtin.min_ | false => Builtin.max_) ts ty #[x, y]).run P w = .ok z w := by
 unfold sMin at h;split at h
 ·rename_i k x1 l y1 h1 h2;obtain ⟨rfl, r1⟩ := toE_val h1 hx;obtain ⟨rfl, r2⟩ := toE_val h2 hy;split at h
  ·rename_i hk;obtain rfl := of_decide_eq_true hk;split at h
   ·split at h
    ·rename_i hq;have hq := of_decide_eq_true (askQ_val hA hq);simp only [sme] at h; subst h;have : ¬ y1.i e.opq < x1.i e.opq := by omega
     exact ⟨_, mkS_vr r1, fun w => by simp [Builtin.min_, Builtin.min2, this]⟩
    ·rename_i hq;have hq := of_decide_eq_false (askQ_val hA hq);simp only [sme] at h; subst h;have : y1.i e.opq < x1.i e.opq := by omega
     exact ⟨_, mkS_vr r2, fun w => by simp [Builtin.min_, Builtin.min2, this]⟩
    ·cases h
   ·split at h
    ·rename_i hq;have hq := of_decide_eq_true (askQ_val hA hq);simp only [sme] at h; subst h;have : ¬ x1.i e.opq < y1.i e.opq := by omega
     exact ⟨_, mkS_vr r1, fun w => by simp [Builtin.max_, Builtin.max2, this]⟩
    ·rename_i hq;have hq := of_decide_eq_false (askQ_val hA hq);simp only [sme] at h; subst h;have : x1.i e.opq < y1.i e.opq := by omega
     exact ⟨_, mkS_vr r2, fun w => by simp [Builtin.max_, Builtin.max2, this]⟩
    ·cases h
  ·cases h
 ·cases h

def quietS (P : Program) (m : Mem) (t : T AV) (o : Oper) : Option AV :=
 match o.op with
 | .binOp op ty x y _ => match evalO t x, evalO t y with
  | some (.agg xs), some (.agg ys) => sAgg P m.ask op ty xs ys
  | some a, some b => match toE a, toE b with
   | some (k, p), some (l, q) => match op with
    | .shl | .shr => sShift m.ask op k p q
    | _ => match decide (k = l) with
     | true => sArith m.ask op k p q
     | false => none
   | _, _ => match toS a, toS b with
    | some (n, p), some (u, q) => sStr m.ask op n p u q
    | _, _ => none
  | _, _ => none
 | .unOp op _ x => match evalO t x with
  | some a => match toE a with
   | some (k, p) => sNeg m.ask op k p
   | none => none
  | none => none
 | .convert src dst x => match evalO t x with
  | some a => match toE a with
   | some (k, p) => match P.underlying src, P.underlying dst with
    | some _, some (.int k2) => some (sConv m.ask k2 k p)
    | _, _ => none
   | none => sText P m src dst a
  | none => none
 | .load ty x => match evalO t x with
  | some (.sptr id p) => sLoadAt P m ty id p
  | _ => none
 | .nilCheck x => match evalO t x with
  | some (.sptr id p) => some (.sptr id p)
  | _ => none
 | .indexAddr ty x ix => match evalO t x, evalO t ix with
  | some a, some b => sIndexAddr2 P m ty a b
  | _, _ => none
 | .index ty x ix => match evalO t x, evalO t ix with
  | some a, some b => sIndex P m.ask ty a b
  | _, _ => none
 | .slice ty x lo hi mx => match evalO t x, optO t lo, optO t hi, optO t mx with
  | some a, some l, some h, some c => sSlice2 P m ty a l h c
  | _, _, _, _ => none
 | .sliceToArrayPointer arr x => match evalO t x with
  | some a => sArr P m.ask arr a
  | none => none
 | .call { callee := .builtin .len, args := args, argTypes := tys } => match args.toList, tys.toList with
  | [x], [ty] => match evalO t x with
   | some v => sLen P m.ask ty v
   | none => none
  | _, _ => none
 | .call { callee := .builtin .cap, args := args, argTypes := tys } => match args.toList, tys.toList with
  | [x], [ty] => match evalO t x with
   | some v => sCap P m.ask ty v
   | none => none
  | _, _ => none
 | .call { callee := .builtin .min, args := args, argTypes := _ } => match args.toList with
  | [x, y] => match evalO t x, evalO t y with
   | some a, some b => sMin m.ask true a b
   | _, _ => none
  | _ => none
 | .call { callee := .builtin .max, args := args, argTypes := _ } => match args.toList with
  | [x, y] => match evalO t x, evalO t y with
   | some a, some b => sMin m.ask false a b
   | _, _ => none
  | _ => none
 | _ => none

theorem toList_one' {α : Type} {a : Array α} {x : α} (h : a.toList = [x]) : a = #[x] := by cases a; simp_all
theorem toList_two' {α : Type} {a : Array α} {x y : α} (h : a.toList = [x, y]) : a = #[x, y] := by cases a; simp_all

theorem quietS_run {P : Program} {e : Env} {m : Mem} {M : World → Prop} (R : Reads P e m M) {t : T AV} {a : Act} (h : FT e t a) {o : Oper} {v : AV} (k : quietS P m t o = some v) :
  ∃ x, VR e v x ∧ ∀ w, M w → (execOp a.eval o).run P w = .ok (.value x) w := by
 have lift : ∀ (s : Sem Value) (op' : execOp a.eval o = (do pure (.value (← s)))), (∃ z, VR e v z ∧ ∀ w, M w → s.run P w = .ok z w) → ∃ x, VR e v x ∧ ∀ w, M w → (execOp a.eval o).run P w = .ok (.value x) w := by
  intro s he ⟨z, h1, h2⟩;exact ⟨z, h1, fun w hw => by rw [he, Sem.run_bind, h2 w hw]; rfl⟩
 have call1 : ∀ {b : Builtin} {args : Array Operand} {tys : Array TypeId} (s : Sem Value), o.op = .call { callee := .builtin b, args := args, argTypes := tys } → (∀ c, builtin b tys o.type c (args.map a.eval) = (do pure (.value (← s)))) →
   (∃ z, VR e v z ∧ ∀ w, M w → s.run P w = .ok z w) → ∃ x, VR e v x ∧ ∀ w, M w → (execOp a.eval o).run P w = .ok (.value x) w := by
  intro b args tys s hop hb ⟨z, h1, h2⟩;refine ⟨z, h1, fun w hw => ?_⟩;simp only [execOp, hop, resolve, invoke, Sem.run_bind, Sem.run_pure, Result.andThen_ok, hb, h2 w hw]
 unfold quietS at k;split at k;case h_1 op ty x y yt hop =>
  have he : execOp a.eval o = (do pure (.value (← (do eqGuard op ty x y (a.eval x) (a.eval y); binOp op ty (a.eval x) (a.eval y) : Sem Value)))) := by simp only [execOp, hop]
  split at k
  ·rename_i xs ys hx hy;obtain ⟨z, h1, h2⟩ := sAgg_run (P := P) R.ask k (evalO_vr h hx) (evalO_vr h hy) x y;exact lift _ he ⟨z, h1, fun w _ => h2 w⟩
  ·rename_i a' b' _ hx hy;split at k
   ·rename_i kk p l q h1 h2;obtain ⟨e1, r1⟩ := toE_val h1 (evalO_vr h hx);obtain ⟨e2, r2⟩ := toE_val h2 (evalO_vr h hy);rw [e1, e2] at he;have sh : sShift m.ask op kk p q = some v → _ := fun k => sShift_run (P := P) (yk := l) R.ask k r1 ty x y
    split at k
    ·obtain ⟨z, g1, g2⟩ := sh k;exact lift _ he ⟨z, g1, fun w _ => g2 w⟩
    ·obtain ⟨z, g1, g2⟩ := sh k;exact lift _ he ⟨z, g1, fun w _ => g2 w⟩
    ·split at k
     ·rename_i hk;obtain rfl := of_decide_eq_true hk;obtain ⟨z, g1, g2⟩ := sArith_run (P := P) R.ask k r1 ty x y;exact lift _ he ⟨z, g1, fun w _ => g2 w⟩
     ·cases k
   ·split at k
    ·rename_i n p u q h1 h2;obtain ⟨e1, r1, r1'⟩ := toS_val h1 (evalO_vr h hx);obtain ⟨e2, r2, r2'⟩ := toS_val h2 (evalO_vr h hy);rw [e1, e2] at he;obtain ⟨z, g1, g2⟩ := sStr_run (P := P) R.ask k r1 r1' r2 r2' ty x y;exact lift _ he ⟨z, g1, fun w _ => g2 w⟩
    ·cases k
  ·cases k
 case h_2 op ty x hop =>
  split at k
  ·rename_i a' hx;split at k
   ·rename_i kk p h1;obtain ⟨e1, r1⟩ := toE_val h1 (evalO_vr h hx);obtain ⟨z, g1, g2⟩ := sNeg_run (P := P) R.ask k;exact lift (Op.unary op (a.eval x)) (by simp only [execOp, hop]) ⟨z, g1, fun w _ => by rw [e1]; exact g2 w⟩
   ·cases k
  ·cases k
 case h_3 src dst x hop =>
  split at k
  ·rename_i a' hx;split at k
   ·rename_i kk p h1;obtain ⟨e1, r1⟩ := toE_val h1 (evalO_vr h hx);split at k
    ·rename_i d k2 hs hd;simp only [sme] at k;subst k;refine lift (convert src dst (a.eval x)) (by simp only [execOp, hop]) ⟨_, sConv_vr R.ask r1, fun w _ => ?_⟩;rw [e1];simp [convert, run_underlying hs, run_underlying hd, Conv.intToInt]
    ·cases k
   ·obtain ⟨z, g1, g2⟩ := sText_run R k (evalO_vr h hx);exact lift (convert src dst (a.eval x)) (by simp only [execOp, hop]) ⟨z, g1, g2⟩
  ·cases k
 case h_4 ty x hop =>
  split at k
  ·rename_i id p hx;have := evalO_vr h hx;simp only [VR] at this;obtain ⟨b, hb, hv⟩ := this;obtain ⟨z, g1, g2⟩ := sLoadAt_run R k hb;exact lift (Instr.loadAt ty (a.eval x)) (by simp only [execOp, hop]) ⟨z, g1, fun w hw => by rw [hv]; simp [Instr.loadAt, Instr.sureAddr, g2 w hw]⟩
  ·cases k
 case h_5 x hop =>
  split at k
  ·rename_i id p hx;have hv := evalO_vr h hx;simp only [sme] at k;subst k;refine ⟨_, hv, fun w _ => ?_⟩;simp only [VR] at hv;obtain ⟨b, hb, hv⟩ := hv;simp [execOp, hop, hv]
  ·cases k
 case h_6 ty x ix hop =>
  split at k
  ·rename_i a' b' hx hy;obtain ⟨z, g1, g2⟩ := sIndexAddr2_run R k (evalO_vr h hx) (evalO_vr h hy);exact lift (Instr.indexAt ty (a.eval x) (a.eval ix)) (by simp only [execOp, hop]) ⟨z, g1, fun w _ => g2 w⟩
  ·cases k
 case h_7 ty x ix hop =>
  split at k
  ·rename_i a' b' hx hy;obtain ⟨z, g1, g2⟩ := sIndex_run (P := P) R.ask k (evalO_vr h hx) (evalO_vr h hy);exact lift (Instr.index ty (a.eval x) (a.eval ix)) (by simp only [execOp, hop]) ⟨z, g1, fun w _ => g2 w⟩
  ·cases k
 case h_8 ty x lo hi mx hop =>
  split at k
  ·rename_i a' l' h' c' hx hl hh hc;obtain ⟨z, g1, g2⟩ := sSlice2_run (P := P) R k (evalO_vr h hx) (optO_or h hl) (optO_or h hh) (optO_or h hc);exact lift (Instr.sliceAt ty (a.eval x) (lo.map a.eval) (hi.map a.eval) (mx.map a.eval)) (by simp only [execOp, hop]) ⟨z, g1, fun w _ => g2 w⟩
  ·cases k
 case h_9 arr x hop =>
  split at k
  ·rename_i a' hx;obtain ⟨z, g1, g2⟩ := sArr_run (P := P) R.ask k (evalO_vr h hx);exact lift (Instr.arrayAt arr (a.eval x)) (by simp only [execOp, hop]) ⟨z, g1, fun w _ => g2 w⟩
  ·cases k
 case h_10 args tys hop =>
  split at k
  ·rename_i x ty ha ht;split at k
   ·rename_i v' hx;obtain ⟨z, g1, g2⟩ := sLen_run (P := P) (ty := o.type) R.ask k (evalO_vr h hx);exact call1 (Builtin.len_ #[ty] o.type #[a.eval x]) hop (fun c => by simp [builtin, toList_one' ha, toList_one' ht]) ⟨z, g1, fun w _ => g2 w⟩
   ·cases k
  ·cases k
 case h_11 args tys hop =>
  split at k
  ·rename_i x ty ha ht;split at k
   ·rename_i v' hx;obtain ⟨z, g1, g2⟩ := sCap_run (P := P) (ty := o.type) R.ask k (evalO_vr h hx);exact call1 (Builtin.cap_ #[ty] o.type #[a.eval x]) hop (fun c => by simp [builtin, toList_one' ha, toList_one' ht]) ⟨z, g1, fun w _ => g2 w⟩
   ·cases k
  ·cases k
 case h_12 args tys hop =>
  split at k
  ·rename_i x y ha;split at k
   ·rename_i a' b' hx hy;obtain ⟨z, g1, g2⟩ := sMin_run (P := P) R.ask k (evalO_vr h hx) (evalO_vr h hy) tys o.type;exact call1 (Builtin.min_ tys o.type #[a.eval x, a.eval y]) hop (fun c => by simp [builtin, toList_two' ha]) ⟨z, g1, fun w _ => g2 w⟩
   ·cases k
  ·cases k
 case h_13 args tys hop =>
  split at k
  ·rename_i x y ha;split at k
   ·rename_i a' b' hx hy;obtain ⟨z, g1, g2⟩ := sMin_run (P := P) R.ask k (evalO_vr h hx) (evalO_vr h hy) tys o.type;exact call1 (Builtin.max_ tys o.type #[a.eval x, a.eval y]) hop (fun c => by simp [builtin, toList_two' ha]) ⟨z, g1, fun w _ => g2 w⟩
   ·cases k
  ·cases k
 case h_14 => cases k

def qCmp (op : BinOp) (x y : Int) : Option AV :=
 match op with
 | .eql => some (.bool (decide (x = y)))
 | .neq => some (.bool (!decide (x = y)))
 | .lss => some (.bool (decide (x < y)))
 | .leq => some (.bool (decide (x ≤ y)))
 | .gtr => some (.bool (decide (x > y)))
 | .geq => some (.bool (decide (x ≥ y)))
 | _ => none

def qArith (op : BinOp) (k : IntKind) (x y : Int) : Option AV :=
 match op with
 | .add => some (.int k (k.wrap (x + y)))
 | .sub => some (.int k (k.wrap (x - y)))
 | .mul => some (.int k (k.wrap (x * y)))
 | .and => some (.int k (iopI .and k x y))
 | .or => some (.int k (iopI .or k x y))
 | .xor => some (.int k (iopI .xor k x y))
 | op => qCmp op x y

def qShift (op : BinOp) (k : IntKind) (x y : Int) : Option AV :=
 match decide (0 ≤ y) with
 | true => match op with
  | .shl => some (.int k (iopI .shl k x y))
  | .shr => some (.int k (iopI .shr k x y))
  | _ => none
 | false => none

def qBin (op : BinOp) (a b : AV) : Option AV :=
 match a, b with
 | .int k x, .int l y => match decide (k = l) with
  | true => match qArith op k x y with
   | some v => some v
   | none => qShift op k x y
  | false => qShift op k x y
 | _, _ => none

def qConv (P : Program) (src dst : TypeId) (a : AV) : Option AV :=
 match a with
 | .int _ n => match P.underlying src, P.underlying dst with
  | some _, some (.int k2) => some (.int k2 (k2.wrap n))
  | _, _ => none
 | _ => none

def qBinO (t : T AV) (op : BinOp) (x y : Operand) : Option AV :=
 match evalO t x with
 | some a => match evalO t y with
  | some b => qBin op a b
  | none => none
 | none => none
def qConvO (P : Program) (t : T AV) (src dst : TypeId) (x : Operand) : Option AV :=
 match evalO t x with
 | some a => qConv P src dst a
 | none => none
def qLoadO (P : Program) (m : Mem) (t : T AV) (ty : TypeId) (x : Operand) : Option AV :=
 match evalO t x with
 | some (.ptr i off) => loadA P m ty i off
 | _ => none
def qIdxO (P : Program) (t : T AV) (ty : TypeId) (x ix : Operand) : Option AV :=
 match evalO t x with
 | some a => match evalO t ix with
  | some b => indexA P ty a b
  | none => none
 | none => none

def quietQ (P : Program) (m : Mem) (t : T AV) (o : Oper) : Option AV :=
 match o.op with
 | .move x => evalO t x
 | .assign x => evalO t x
 | .load ty x => qLoadO P m t ty x
 | .binOp op _ x y _ => qBinO t op x y
 | .indexAddr ty x ix => qIdxO P t ty x ix
 | .convert src dst x => qConvO P t src dst x
 | _ => none

theorem qBin_run {P : Program} {e : Env} {op : BinOp} {a b v : AV} (k : qBin op a b = some v) {x y : Value} (hx : VR e a x) (hy : VR e b y) (t : TypeId) (xo yo : Operand) :
  ∃ z, VR e v z ∧ ∀ w, (do eqGuard op t xo yo x y; binOp op t x y : Sem Value).run P w = .ok z w := by
 unfold qBin at k;split at k
 ·rename_i k1 x1 l1 y1;simp only [VR] at hx hy;subst hx hy;have shift : ∀ {v}, qShift op k1 x1 y1 = some v → ∃ z, VR e v z ∧ ∀ w, (do eqGuard op t xo yo (.int k1 x1) (.int l1 y1); binOp op t (.int k1 x1) (.int l1 y1) : Sem Value).run P w = .ok z w := by
   intro v k;unfold qShift at k;split at k
   ·rename_i h0;have h0 := of_decide_eq_true h0;have hn : ¬ y1 < 0 := by omega
    split at k
    ·simp only [sme] at k; subst k;exact ⟨_, by simp only [VR]; rfl, fun w => by simp [eqGuard, binOp, Op.shift, hn, iopI]⟩
    ·simp only [sme] at k; subst k;exact ⟨_, by simp only [VR]; rfl, fun w => by simp [eqGuard, binOp, Op.shift, hn, iopI]⟩
    ·cases k
   ·cases k
  split at k
  ·rename_i hk;obtain rfl := of_decide_eq_true hk;split at k
   ·rename_i u hu;simp only [sme] at k;subst k;unfold qArith at hu;split at hu
    ·simp only [sme] at hu; subst hu;exact ⟨_, by simp only [VR]; rfl, fun w => by simp [eqGuard, binOp, Op.intArith]⟩
    ·simp only [sme] at hu; subst hu;exact ⟨_, by simp only [VR]; rfl, fun w => by simp [eqGuard, binOp, Op.intArith]⟩
    ·simp only [sme] at hu; subst hu;exact ⟨_, by simp only [VR]; rfl, fun w => by simp [eqGuard, binOp, Op.intArith]⟩
    ·simp only [sme] at hu; subst hu;exact ⟨_, by simp only [VR]; rfl, fun w => by simp [eqGuard, binOp, Op.intBits, iopI]⟩
    ·simp only [sme] at hu; subst hu;exact ⟨_, by simp only [VR]; rfl, fun w => by simp [eqGuard, binOp, Op.intBits, iopI]⟩
    ·simp only [sme] at hu; subst hu;exact ⟨_, by simp only [VR]; rfl, fun w => by simp [eqGuard, binOp, Op.intBits, iopI]⟩
    ·unfold qCmp at hu;split at hu
     ·simp only [sme] at hu; subst hu;exact ⟨_, by simp only [VR]; rfl, fun w => by simp [eqGuard, binOp, Op.intCmp, ibeq]⟩
     ·simp only [sme] at hu; subst hu;exact ⟨_, by simp only [VR]; rfl, fun w => by simp [eqGuard, binOp, Op.intCmp, ibeq, bne]⟩
     ·simp only [sme] at hu; subst hu;exact ⟨_, by simp only [VR]; rfl, fun w => by simp [eqGuard, binOp, Op.intCmp]⟩
     ·simp only [sme] at hu; subst hu;exact ⟨_, by simp only [VR]; rfl, fun w => by simp [eqGuard, binOp, Op.intCmp]⟩
     ·simp only [sme] at hu; subst hu;exact ⟨_, by simp only [VR]; rfl, fun w => by simp [eqGuard, binOp, Op.intCmp]⟩
     ·simp only [sme] at hu; subst hu;exact ⟨_, by simp only [VR]; rfl, fun w => by simp [eqGuard, binOp, Op.intCmp]⟩
     ·cases hu
   ·exact shift k
  ·exact shift k
 ·cases k

theorem quietQ_run {P : Program} {e : Env} {m : Mem} {M : World → Prop} (R : Reads P e m M) {t : T AV} {a : Act} (h : FT e t a) {o : Oper} {v : AV} (k : quietQ P m t o = some v) :
  ∃ x, VR e v x ∧ ∀ w, M w → (execOp a.eval o).run P w = .ok (.value x) w := by
 have lift : ∀ (s : Sem Value) (op' : execOp a.eval o = (do pure (.value (← s)))), (∃ z, VR e v z ∧ ∀ w, M w → s.run P w = .ok z w) → ∃ x, VR e v x ∧ ∀ w, M w → (execOp a.eval o).run P w = .ok (.value x) w := by
  intro s he ⟨z, h1, h2⟩;exact ⟨z, h1, fun w hw => by rw [he, Sem.run_bind, h2 w hw]; rfl⟩
 unfold quietQ at k;split at k;case h_1 x hop => exact ⟨_, evalO_vr h k, fun w _ => by simp [execOp, hop]⟩
 case h_2 x hop => exact ⟨_, evalO_vr h k, fun w _ => by simp [execOp, hop]⟩
 case h_3 ty x hop =>
  unfold qLoadO at k;split at k
  ·rename_i i off hx;have hv := evalO_vr h hx;simp only [VR] at hv;obtain ⟨b, hb, hv⟩ := hv;obtain ⟨z, g1, g2⟩ := loadA_run R k hb;exact lift (Instr.loadAt ty (a.eval x)) (by simp only [execOp, hop]) ⟨z, g1, fun w hw => by rw [hv]; simp [Instr.loadAt, Instr.sureAddr, g2 w hw]⟩
  ·cases k
 case h_4 op ty x y yt hop =>
  unfold qBinO at k;split at k
  ·rename_i u hu;split at k
   ·rename_i u' hu';obtain ⟨z, g1, g2⟩ := qBin_run (P := P) k (evalO_vr h hu) (evalO_vr h hu') ty x y;exact lift (do eqGuard op ty x y (a.eval x) (a.eval y); binOp op ty (a.eval x) (a.eval y)) (by simp only [execOp, hop]) ⟨z, g1, fun w _ => g2 w⟩
   ·cases k
  ·cases k
 case h_5 ty x ix hop =>
  unfold qIdxO at k;split at k
  ·rename_i u hu;split at k
   ·rename_i u' hu';obtain ⟨z, g1, g2⟩ := indexA_run (P := P) k (evalO_vr h hu) (evalO_vr h hu');exact lift (Instr.indexAt ty (a.eval x) (a.eval ix)) (by simp only [execOp, hop]) ⟨z, g1, fun w _ => g2 w⟩
   ·cases k
  ·cases k
 case h_6 src dst x hop =>
  unfold qConvO at k;split at k
  ·rename_i u hu;unfold qConv at k;split at k
   ·rename_i kk n;split at k
    ·rename_i d k2 hs hd;simp only [sme] at k;subst k;have hv := evalO_vr h hu;simp only [VR] at hv;refine lift (convert src dst (a.eval x)) (by simp only [execOp, hop]) ⟨.int k2 (k2.wrap n), by simp only [VR], fun w _ => ?_⟩;rw [hv];simp [convert, run_underlying hs, run_underlying hd, Conv.intToInt]
    ·cases k
   ·cases k
  ·cases k
 case h_7 => cases k

end Go.Ev
