/- A package's variables that are laid by the program's text: what their cells hold; the state of memory in which these are known. No condition. -/
import Derived.Test.YtidpndnehbhloaaDoorSyl
import Derived.LaidMore
import Derived.FnData
namespace Go.Ev
open Go.ChangeShapes Go.WideShapes Go.ChangeAt Go.RowKit

mutual
def readD {H : Type} (P : Program) : Nat → TypeId → DataW H → Option (List Value)
 | 0, _, _ => none
 | n + 1, t, d => match P.underlying t, d with
  | some (.int k), .lit (.int k' m) => match decide (k = k') with
   | true => some [.int k m]
   | false => none
  | some .bool, .lit (.bool b) => some [.bool b]
  | some .string, .lit (.string l) => some [.string ⟨l.toArray⟩]
  | some (.array len el), .agg parts => match Nat.beq parts.length len && Nat.beq (P.cellsOf t) (len * P.cellsOf el) with
   | true => readDs P n el (P.cellsOf el) parts
   | false => none
  | some (.struct fs), .agg parts => match Nat.beq parts.length fs.size with
   | true => readDf P n 0 (P.cellsOf t) fs.toList parts
   | false => none
  | _, _ => none
def readDs {H : Type} (P : Program) : Nat → TypeId → Nat → List (DataW H) → Option (List Value)
 | _, _, _, [] => some []
 | 0, _, _, _ => none
 | n + 1, el, c, d :: r => match readD P n el d, readDs P n el c r with
  | some a, some b => match Nat.beq a.length c with
   | true => some (a ++ b)
   | false => none
  | _, _ => none
def readDf {H : Type} (P : Program) : Nat → Nat → Nat → List Field → List (DataW H) → Option (List Value)
 | _, off, size, [], [] => match Nat.beq off size with
  | true => some []
  | false => none
 | n + 1, off, size, f :: fs, d :: r => match Nat.beq f.offset off with
  | true => match readD P n f.type d with
   | some a => match Nat.beq a.length (P.cellsOf f.type) with
    | true => match readDf P n (off + P.cellsOf f.type) size fs r with
     | some b => some (a ++ b)
     | none => none
    | false => none
   | none => none
  | false => none
 | _, _, _, _, _ => none
end

section
variable {H : Type} {enc : TypeId × Value → H} {P : Program} {w : World} {base : Nat} {spare : Nat → Bool} {held : Bool}

mutual
theorem readD_trod : ∀ (n : Nat) (t : TypeId) (d : DataW H) (fuel : Nat) (cs vs : List Value) (ps : List MemPlace), readD P n t d = some vs → DataW.trod enc P w base spare held fuel t cs = some (d, ps) → cs = vs
 | 0, _, _, _, _, _, _, k, _ => by simp [readD] at k
 | n + 1, t, d, fuel, cs, vs, ps, k, h => by
  unfold readD at k;split at k
  ·rename_i k1 k2 m hu;split at k
   ·rename_i hk;obtain rfl := of_decide_eq_true hk;obtain ⟨q, rfl, hx, _⟩ := DataW.trod_int hu h;simp only [pme, DataW.lit.injEq, Lit.int.injEq] at hx;simp only [sme] at k;rw [← k, hx.1.2]
   ·cases k
  ·rename_i b hu;simp only [sme] at k;cases fuel with
   | zero => simp [DataW.trod] at h
   | succ m =>
    unfold DataW.trod at h;rw [hu] at h;split at h <;> simp_all
  ·rename_i l hu;simp only [sme] at k;obtain ⟨s, rfl, hx, _⟩ := DataW.trod_string hu h;simp only [pme, DataW.lit.injEq, Lit.string.injEq] at hx;rw [← k, hx.1]
  ·rename_i len el parts hu;split at k
   ·rename_i hc;simp only [bae] at hc;have c1 := beq_t hc.1;have c2 := beq_t hc.2;obtain ⟨xs, m, rfl, hx, hl, hxl, hel⟩ := DataW.trod_array hu h;simp only [pme, DataW.agg.injEq] at hx;have := readDs_trod n el (P.cellsOf el) parts m cs vs (by rw [hl, c2, c1]) k fun i hi => by
     have hi' : i < len := by omega
     refine ⟨(xs[i]'(by omega)).2, ?_⟩;rw [hel i hi', List.getElem?_eq_getElem (by omega)];have : parts[i] = (xs[i]'(by omega)).1 := by simp [hx.1]
     rw [this]
    exact this
   ·cases k
  ·rename_i fs parts hu;split at k
   ·rename_i hc;have c1 := beq_t hc;obtain ⟨xs, m, rfl, hx, hl, hxl, hel⟩ := DataW.trod_struct hu h;simp only [pme, DataW.agg.injEq] at hx;have := readDf_trod n 0 (P.cellsOf t) fs.toList parts m cs vs hl k fun i f d hf hd => by
     have hf' : fs[i]? = some f := by simpa using hf
     have hi := (List.getElem?_eq_some_iff.1 hd).1;refine ⟨(xs[i]'(by omega)).2, ?_⟩;rw [hel i f hf', List.getElem?_eq_getElem (by omega)];have : d = (xs[i]'(by omega)).1 := by
      have hi2 : parts[i] = d := (List.getElem?_eq_some_iff.1 hd).2;rw [← hi2]; simp [hx.1]
     rw [this]
    simpa using this
   ·cases k
  ·cases k
theorem readDs_trod : ∀ (n : Nat) (el : TypeId) (c : Nat) (parts : List (DataW H)) (fuel : Nat) (cs vs : List Value), cs.length = parts.length * c → readDs P n el c parts = some vs →
  (∀ i (hi : i < parts.length), ∃ ps, DataW.trod enc P w base spare held fuel el ((cs.drop (i * c)).take c) = some (parts[i], ps)) → cs = vs
 | _, _, _, [], _, cs, vs, hl, k, _ => by
  simp only [readDs, sme] at k;subst k;simpa using hl
 | 0, _, _, _ :: _, _, _, _, _, k, _ => by simp [readDs] at k
 | n + 1, el, c, d :: r, fuel, cs, vs, hl, k, h => by
  simp only [readDs] at k;split at k
  ·rename_i a b ha hb;split at k
   ·rename_i hc;have hc := beq_t hc;simp only [sme] at k;subst k;obtain ⟨ps, h0⟩ := h 0 (by simp);simp only [Nat.zero_mul, List.drop_zero, List.getElem_cons_zero] at h0;have e1 := readD_trod n el d fuel _ a ps ha h0;have hlen : cs.length = c + r.length * c := by
     rw [hl]; simp only [List.length_cons, Nat.add_mul, Nat.one_mul]; omega
    have e2 := readDs_trod n el c r fuel (cs.drop c) b (by rw [List.length_drop]; omega) hb fun i hi => by
     obtain ⟨ps, hh⟩ := h (i + 1) (by simp; omega);refine ⟨ps, ?_⟩;rw [List.drop_drop];have : c + i * c = (i + 1) * c := by rw [Nat.add_mul, Nat.one_mul]; omega
     rw [this];simpa using hh
    rw [← e1, ← e2, List.take_append_drop]
   ·cases k
  ·cases k
theorem readDf_trod : ∀ (n off size : Nat) (fs : List Field) (parts : List (DataW H)) (fuel : Nat) (cs vs : List Value), cs.length = size → readDf P n off size fs parts = some vs →
  (∀ (i : Nat) (f : Field) (d : DataW H), fs[i]? = some f → parts[i]? = some d → ∃ ps, DataW.trod enc P w base spare held fuel f.type ((cs.drop f.offset).take (P.cellsOf f.type)) = some (d, ps)) → cs.drop off = vs
 | n, off, size, [], [], _, cs, vs, hl, k, _ => by
  unfold readDf at k;split at k
  ·rename_i hc;have hc := beq_t hc;simp only [sme] at k;subst k;rw [List.drop_eq_nil_of_le (by omega)]
  ·cases k
 | 0, _, _, _ :: _, _, _, _, _, _, k, _ => by simp [readDf] at k
 | n + 1, _, _, _ :: _, [], _, _, _, _, k, _ => by simp [readDf] at k
 | 0, _, _, [], _ :: _, _, _, _, _, k, _ => by simp [readDf] at k
 | n + 1, _, _, [], _ :: _, _, _, _, _, k, _ => by simp [readDf] at k
 | n + 1, off, size, f :: fs, d :: r, fuel, cs, vs, hl, k, h => by
  simp only [readDf] at k;split at k
  ·rename_i ho;have ho := beq_t ho;split at k
   ·rename_i a ha;split at k
    ·rename_i hc;have hc := beq_t hc;split at k
     ·rename_i b hb;simp only [sme] at k;subst k;obtain ⟨ps, h0⟩ := h 0 f d rfl rfl;have e1 := readD_trod n f.type d fuel _ a ps ha h0;have e2 := readDf_trod n (off + P.cellsOf f.type) size fs r fuel cs b hl hb fun i f' d' hf hd => h (i + 1) f' d' (by simpa using hf) (by simpa using hd)
      rw [← e1, ← e2, ho, ← List.drop_drop, List.take_append_drop]
     ·cases k
    ·cases k
   ·cases k
  ·cases k
end
end

structure GlobR (W : World) (g : Nat) (vs : List Value) : Prop where
 cell : ∀ i, W.cell? ⟨g, i, none⟩ = vs[i]?
 some : vs ≠ []

def globSt : List (Nat × List AV) → St
 | [] => St.none
 | (g, l) :: r => { globSt r with heap := (globSt r).heap.put (2 * g) (some (.ext (AB.ofL 0 l))) }

theorem Rel.globs (Ω : Om) (W : World) : ∀ (l : List (Nat × List AV)), (∀ p ∈ l, ∃ vs, GlobR W p.1 vs ∧ VRs (Env.none Ω W) p.2 vs) → Rel Ω (Base.all W) (Env.none Ω W) (globSt l) W := by
 intro l h;have even : ∀ (l : List (Nat × List AV)) i o, (globSt l).heap.get i = some o → ∃ g, i = 2 * g := by
  intro l;induction l with
  | nil => intro i o hi; simp [globSt, St.none, T.get_nil] at hi
  | cons p r ih =>
   intro i o hi;simp only [globSt, T.get_put] at hi;split at hi
   ·rename_i e1; exact ⟨_, e1⟩
   ·exact ih i o hi
 have next : ∀ l : List (Nat × List AV), (globSt l).next = 0 := by
  intro l;induction l with
  | nil => rfl
  | cons p r ih => simpa [globSt] using ih
 refine ⟨rfl, Und.refl _, fun n _ => by simp only [Env.none]; rw [if_neg (by omega)], fun i j o o' b hi hj _ _ li lj => ?_, ?_, fun k arr h => poolW_cells h, fun i o k hi oo _ => ?_, fun k arr h => .inl ⟨arr, h⟩, fun _ _ h => h⟩
 ·obtain ⟨g, rfl⟩ := even _ _ _ hi;obtain ⟨g', rfl⟩ := even _ _ _ hj;simp only [Env.none] at li lj;rw [if_pos (by omega)] at li lj;have l1 := Option.some.inj li;have l2 := Option.some.inj lj;omega
 ·induction l with
  | nil => intro id o ho; simp [globSt, St.none, T.get_nil] at ho
  | cons p r ih =>
   intro id o ho;simp only [globSt, T.get_put] at ho;split at ho
   ·rename_i e1;subst e1;simp only [sme] at ho;subst ho;obtain ⟨vs, hg, hv⟩ := h p (by simp);refine ⟨p.1, (Env.none Ω W).glob p.1, ?_⟩;have h0 := hg.cell 0;obtain ⟨v0, hv0⟩ : ∃ v, vs[0]? = some v := by
     cases hvs : vs with
     | nil => exact absurd hvs hg.some
     | cons a l => exact ⟨a, rfl⟩
    rw [hv0] at h0;have hlt := World.block_lt_of_cell? W _ h0;simp only [World.cell?] at h0;split at h0
    ·rename_i c el fz hc;refine ⟨⟨hlt, rfl⟩, rfl, c, el, fz, hc, fun i v hiv => ?_⟩;rw [AB.at_ofL] at hiv;obtain ⟨x, hx, hr⟩ := hv.at i v hiv;refine ⟨x, ?_, hr⟩;have := hg.cell i;rw [cell_row hc] at this;rw [this, hx]
    ·cases h0
   ·exact ih (fun q hq => h q (by simp [hq])) id o ho
 ·exfalso;have ext : ∀ (l : List (Nat × List AV)) i o, (globSt l).heap.get i = some o → o.own = false := by
   intro l;induction l with
   | nil => intro i o hi; simp [globSt, St.none, T.get_nil] at hi
   | cons p r ih =>
    intro i o hi;simp only [globSt, T.get_put] at hi;split at hi
    ·cases hi; rfl
    ·exact ih i o hi
  rw [ext _ _ _ hi] at oo; cases oo

end Go.Ev
