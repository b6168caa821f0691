/- What comes in: slices of numbers, as rows that stay; numbers; texts. No condition. -/
import Derived.Test.YtidjfojcifjdjaaDoorSyca
import Derived.OpenShut
import Derived.ChangeMaps5
set_option linter.unusedSimpArgs false
set_option linter.unusedVariables false
namespace Go.Ev
open Go.ChangeShapes Go.WideShapes Go.ChangeAt Go.RowKit

theorem Rel.newE {Ω : Om} {w0 : Base} {e : Env} {s : St} {w : World} (h : Rel Ω w0 e s w) (q : SQ) (k bs : Nat) (hR : ObjR w0 (e.newB s k 0 bs) s.nid k w (.eseq q)) :
  e.le (e.newB s k 0 bs) ∧ Rel Ω w0 (e.newB s k 0 bs) (s.newO (.eseq q)) w := by
 have hf : e.loc s.nid = Option.none := h.fresh s.next (Nat.le_refl _);have hle := Env.le_newB hf k 0 bs;refine ⟨hle, h.opq, h.below, ?_, ?_, ?_, h.pool, ?_, h.grow, h.hold⟩
 ·intro n hn;simp only [St.newO_eq] at hn;have : 2 * n + 1 ≠ s.nid := by unfold St.nid; omega
  simp [Env.newB, this, h.fresh n (by omega)]
 ·intro i j o o' bb hi hj oi oj li lj;simp only [St.newO_eq, T.get_put] at hi hj;simp only [Env.newB] at li lj;by_cases ei : i = s.nid <;> by_cases ej : j = s.nid
  ·rw [ei, ej]
  ·rw [if_pos ei] at hi;cases hi;cases oi
  ·rw [if_pos ej] at hj;cases hj;cases oj
  ·rw [if_neg ei] at hi li;rw [if_neg ej] at hj lj;exact h.inj i j o o' bb hi hj oi oj li lj
 ·intro id c hc;simp only [St.newO_eq, T.get_put] at hc;split at hc
  ·rename_i hid;subst hid;simp only [sme] at hc;subst hc;exact ⟨k, by simp [Env.newB], hR⟩
  ·rename_i hid;obtain ⟨j, hl, hO⟩ := h.obj id c hc;exact ⟨j, (hle.loc id j hl).1, hO.mono hle hl rfl⟩
 ·intro i o b hi oo li;simp only [St.newO_eq, T.get_put] at hi;simp only [Env.newB] at li;by_cases ei : i = s.nid
  ·rw [if_pos ei] at hi;cases hi;cases oo
  ·rw [if_neg ei] at hi li;exact h.apart i o b hi oo li

structure InSlice (W : World) (k : IntKind) (v : Value) (b off len cap : Nat) (zs : List Int) : Prop where
 eq : v = .slice (some ⟨b, off, none⟩) len cap
 pos : 1 ≤ len
 le : len ≤ cap
 max : cap ≤ 9223372036854775807
 len : zs.length = len
 rng : ∀ n ∈ zs, inK k n
 blk : b < W.heap.size
 row : ∃ arr el fz, W.heap[b]? = some (.cells arr el fz) ∧ ∀ j n, zs[j]? = some n → arr[off + j]? = some (.int k n)

theorem wf_inK {k : IntKind} {n : Int} (h : (Lit.int k n).wf = true) : inK k n := by
 simpa [Lit.wf, inK] using h

theorem in_slice {H : Type} {enc : TypeId × Value → H} {P : Program} {W : World} {t el : TypeId} {k : IntKind} (ht : P.underlying t = some (.slice el)) (he : P.underlying el = some (.int k)) (hc : P.cellsOf el = 1) {v : Value} {d : DataW H} {ps : List MemPlace} {base : Nat}
  (hv : Value.okWide P W .any base t v) (h : DataW.Trod enc P W 0 (fun _ => true) true t v d ps) : v = .slice none 0 0 ∨ (∃ a c, v = .slice (some a) 0 c) ∨ ∃ b off len cap zs, InSlice W k v b off len cap zs := by
 obtain ⟨a0, len, cap, rfl⟩ := okWide_slice ht hv;obtain ⟨fuel, hf⟩ := h;rcases open_ints ht he hc hf with ⟨hcs, hx⟩ | ⟨a, len', cap', zs, hcs, _, hl, hm, hz, hx, hcell, hwz⟩
 ·simp only [Value.cells, List.cons.injEq, Value.slice.injEq, and_true] at hcs;obtain ⟨rfl, rfl, rfl⟩ := hcs;exact .inl rfl
 ·simp only [Value.cells, List.cons.injEq, Value.slice.injEq, and_true] at hcs;obtain ⟨rfl, rfl, rfl⟩ := hcs;simp only [if_true] at hz;right;rcases Nat.eq_zero_or_pos len with h0 | h0
  ·subst h0; exact .inl ⟨a, cap, rfl⟩
  ·right;obtain ⟨b, off, spot⟩ := a;have hspot : spot = none := by
    have h1 := hcell 0 (by omega);cases spot with
    | none => rfl
    | some x =>
     unfold World.cell? at h1;simp [Addr.add] at h1;split at h1 <;> simp_all
   subst hspot;have h1 := hcell 0 (by omega);rw [show (⟨b, off, Option.none⟩ : Addr).add 0 = ⟨b, off, Option.none⟩ from rfl] at h1;have hb := World.block_lt_of_cell? W _ h1;simp only [World.cell?] at h1;split at h1
   ·rename_i arr el' fz hrow;refine ⟨b, off, len, cap, zs.take len, rfl, h0, hl, by simp only [maxLen] at hm; omega, by simp; omega, fun n hn => wf_inK (hwz n (List.mem_of_mem_take hn)), hb, arr, el', fz, hrow, fun j n hj => ?_⟩;have hjl : j < len := by
     have := (List.getElem?_eq_some_iff.1 hj).1;simp at this; omega
    have h2 := hcell j (by omega);rw [show (⟨b, off, Option.none⟩ : Addr).add j = ⟨b, off + j, Option.none⟩ from add_none .., cell_row hrow] at h2;rw [h2];rw [List.getElem?_take, if_pos hjl] at hj;simp [List.getD, hj]
   ·cases h1

theorem InSlice.open {Ω : Om} {W : World} {e : Env} {s : St} (hr : Rel Ω (Base.all W) e s W) {k : IntKind} {v : Value} {b off len cap : Nat} {zs : List Int} (h : InSlice W k v b off len cap zs) {l c x : Nat}
  (hl : Ω.d l = .int len) (hc : Ω.d c = .int cap) (hx : Ω.d x = .ofInts zs) :
  e.le (e.newB s b 0 off) ∧ Rel Ω (Base.all W) (e.newB s b 0 off) (s.newO (.eseq ⟨k, .var l, .var x⟩)) W ∧ VR (e.newB s b 0 off) (.sslice s.nid (.int 0) (.var l) (.var c) false) v := by
 have ho := hr.opq;have hxs : (E.var x).s Ω = zs := by simp [E.s, E.den, hx]
 have hls : (E.var l).i Ω = len := by simp [E.i, E.den, hl]
 have hcs : (E.var c).i Ω = cap := by simp [E.i, E.den, hc]
 obtain ⟨arr, el, fz, h1, h2⟩ := h.row;obtain ⟨g1, g2⟩ := hr.newE ⟨k, .var l, .var x⟩ b off ⟨⟨h.blk, rfl⟩, ⟨by simp only [Env.newB, ho]; rw [hxs, hls, h.len], by simp only [Env.newB, ho]; rw [hxs]; exact h.rng⟩, arr, el, fz, h1, by
  intro j n hj;simp only [Env.newB, ho] at hj ⊢;rw [hxs] at hj;simp only [if_true];exact h2 j n hj⟩
 refine ⟨g1, g2, ?_⟩;simp only [VR];have n1 : (E.var l).n (e.newB s b 0 off).opq = len := by simp [Env.newB, ho, E.n, E.den, hl, D.nat]
 have n2 : (E.var c).n (e.newB s b 0 off).opq = cap := by simp [Env.newB, ho, E.n, E.den, hc, D.nat]
 refine ⟨b, off, by simp [Env.newB], by rw [n1, n2, h.eq]; rfl, fun _ => by simp [Env.newB, E.n, E.den, D.nat], ?_, ?_, ?_⟩
 ·simp only [Env.newB, ho]; rw [hls]; omega
 ·exact Int.le_refl 0
 ·simp only [Env.newB, ho]; rw [hls, hcs]; have := h.le; omega

theorem vr_sint {e : Env} {k : IntKind} {n : Int} {i : Nat} (hn : inK k n) (hi : e.opq.d i = .int n) : VR e (.sint k (.var i)) (.int k n) := by
 simp only [VR, E.i, E.den, hi, D.toInt_int]; exact ⟨trivial, hn⟩
theorem vr_sbits {e : Env} {b i : Nat} (hb : b < 18446744073709551616) (hi : e.opq.d i = .int b) : VR e (.sbits (.var i)) (.float .f64 b) := by
 simp only [VR, E.i, E.n, E.den, hi, D.toInt_int, D.nat, Int.toNat_natCast];refine ⟨trivial, ?_⟩;simp only [inK, IntKind.min, IntKind.max, IntKind.signed, IntKind.bits]
 simp
 omega
theorem wf_float {b : Nat} (h : (Lit.float .f64 b).wf = true) : b < 18446744073709551616 := by
 simp [Lit.wf] at h; omega
theorem in_str {H : Type} {enc : TypeId × Value → H} {P : Program} {W : World} {t : TypeId} (ht : P.underlying t = some .string) {v : Value} {d : DataW H} {ps : List MemPlace} {base : Nat}
  (hv : Value.okWide P W .any base t v) (h : DataW.Trod enc P W 0 (fun _ => true) true t v d ps) : ∃ s : ByteArray, v = .string s ∧ ps = [] ∧ s.size ≤ 9223372036854775807 := by
 obtain ⟨s, h1, _, h2, h3⟩ := Go.ChangeMaps.open_string ht hv h;exact ⟨s, h1, h2, by simp only [maxLen] at h3; omega⟩
theorem strE_length (s : ByteArray) : (strE s).length = s.size := by
 rw [← strOf_size, strOf_strE]
theorem vr_str {e : Env} {s : ByteArray} {l x : Nat} (hl : e.opq.d l = .int s.size) (hx : e.opq.d x = .ofInts (strE s)) : VR e (.sstr (.var l) (.var x)) (.string s) := by
 simp only [VR, E.i, E.s, E.den, hl, hx, D.ints_ofInts, D.toInt_int];exact ⟨by rw [strOf_strE], by rw [strE_length], strE_in s⟩

theorem in_arr {H : Type} {enc : TypeId × Value → H} {P : Program} {W : World} {t el : TypeId} {k : IntKind} {n : Nat} (ht : P.underlying t = some (.array n el)) (he : P.underlying el = some (.int k)) (hc : P.cellsOf el = 1) (hs : P.cellsOf t = n) {v : Value} {d : DataW H} {ps : List MemPlace} {base : Nat}
  (hv : Value.okWide P W .any base t v) (h : DataW.Trod enc P W 0 (fun _ => true) true t v d ps) : ∃ zs : List Int, v = .agg (zs.map (Value.int k)).toArray ∧ zs.length = n ∧ (∀ c ∈ zs, inK k c) ∧ ps = [] := by
 obtain ⟨cs, rfl, hn⟩ : ∃ cs : Array Value, v = .agg cs ∧ cs.size = n := by
  simp only [Value.okWide, ht] at hv;obtain ⟨cs, h1, h2, _⟩ := hv;exact ⟨cs, h1, by rw [h2, hs]⟩
 obtain ⟨fuel, hf⟩ := h;obtain ⟨xs, m, _, hx, _, hl, hcell⟩ := DataW.trod_array ht hf;have key : ∀ i, i < n → ∃ z y, cs.toList[i]? = some (Value.int k z) ∧ inK k z ∧ xs[i]? = some (y, []) := by
  intro i hi;have h1 := hcell i hi;rw [hc, Nat.mul_one] at h1;have hlt : i < cs.toList.length := by simp; omega
  have h2 : (List.take 1 (List.drop i cs.toList)) = [cs.toList[i]] := by
   rw [List.drop_eq_getElem_cons hlt]; rfl
  simp only [Value.cells] at h1;rw [h2] at h1;have hxi : xs[i]? = some (xs[i]'(by omega)) := List.getElem?_eq_getElem (by omega);rw [hxi] at h1;obtain ⟨z, hz, hx2, hw⟩ := DataW.trod_int he h1;refine ⟨z, _, ?_, wf_inK hw, by rw [hxi, hx2]⟩;simp only [List.cons.injEq, and_true] at hz;rw [List.getElem?_eq_getElem hlt, hz]
 have hint : ∃ zs : List Int, cs.toList = zs.map (Value.int k) ∧ ∀ c ∈ zs, inK k c := by
  have go : ∀ (l : List Value), (∀ i, i < l.length → ∃ z, l[i]? = some (Value.int k z) ∧ inK k z) → ∃ zs : List Int, l = zs.map (Value.int k) ∧ ∀ c ∈ zs, inK k c := by
   intro l;induction l with
   | nil => intro _; exact ⟨[], rfl, fun c hc => by cases hc⟩
   | cons a l ih =>
    intro hl;obtain ⟨z, hz, hr⟩ := hl 0 (by simp);simp only [List.getElem?_cons_zero, sme] at hz;obtain ⟨zs, h1, h2⟩ := ih fun i hi => by
     have := hl (i + 1) (by simp; omega);simpa using this
    refine ⟨z :: zs, by rw [hz, h1]; rfl, fun c hc => ?_⟩;rcases List.mem_cons.1 hc with rfl | hc
    ·exact hr
    ·exact h2 c hc
  exact go _ fun i hi => by
   obtain ⟨z, y, h1, h2, _⟩ := key i (by simpa [hn] using hi);exact ⟨z, h1, h2⟩
 obtain ⟨zs, h1, h2⟩ := hint;refine ⟨zs, by rw [← h1], by have := congrArg List.length h1; simp at this; omega, h2, ?_⟩;have : ps = xs.flatMap (·.2) := by simpa using congrArg Prod.snd hx
 rw [this, List.flatMap_eq_nil_iff];intro p hp;obtain ⟨i, hi, hpi⟩ := List.getElem_of_mem hp;obtain ⟨z, y, _, _, h3⟩ := key i (by omega);rw [List.getElem?_eq_getElem hi, hpi] at h3;simp only [sme] at h3;rw [h3]

theorem vr_arr {e : Env} {k : IntKind} {zs : List Int} {x : Nat} (hx : e.opq.d x = .ofInts zs) (hr : ∀ c ∈ zs, inK k c) {n : Nat} (hn : zs.length = n) : VR e (.agg ((List.range n).map fun (j : Nat) => .sint k (.bi .sel (.var x) (.int (j : Int))))) (.agg (zs.map (Value.int k)).toArray) := by
 simp only [VR];refine ⟨_, rfl, VRs_of_at _ _ (by simp [hn]) fun i v a hv ha => ?_⟩;simp only [List.getElem?_map, List.toList_toArray, Option.map_eq_some_iff] at hv ha;obtain ⟨j, hj, rfl⟩ := hv;obtain ⟨z, hz, rfl⟩ := ha;have hji : j = i := by
  rw [List.getElem?_range (by have := (List.getElem?_eq_some_iff.1 hj).1; simpa using this)] at hj;exact (Option.some.inj hj).symm
 subst hji;have hsel : (E.bi .sel (.var x) (.int j)).i e.opq = z := sel_i _ _ _ (by
  simp only [E.s, E.den, hx, D.ints_ofInts, E.n, D.nat, D.toInt_int, Int.toNat_natCast]; exact hz)
 simp only [VR];rw [hsel];exact ⟨rfl, hr z (List.mem_of_getElem? hz)⟩
theorem vr_nil {e : Env} : VR e .nilslice (.slice none 0 0) := by simp only [VR]
theorem trodAll_five {H : Type} {enc : TypeId × Value → H} {P : Program} {w : World} {base : Nat} {spare : Nat → Bool} {held : Bool} {t0 t1 t2 t3 t4 : TypeId} {args : Array Value} {ds : List (DataW H)} {ps : List MemPlace} (h : DataW.TrodAll enc P w base spare held [t0, t1, t2, t3, t4] args.toList ds ps) :
  ∃ v0 v1 v2 v3 v4 d0 d1 d2 d3 d4 p0 p1 p2 p3 p4, args = #[v0, v1, v2, v3, v4] ∧ ds = [d0, d1, d2, d3, d4] ∧ ps = p0 ++ p1 ++ p2 ++ p3 ++ p4 ∧ DataW.Trod enc P w base spare held t0 v0 d0 p0 ∧ DataW.Trod enc P w base spare held t1 v1 d1 p1 ∧ DataW.Trod enc P w base spare held t2 v2 d2 p2 ∧ DataW.Trod enc P w base spare held t3 v3 d3 p3 ∧ DataW.Trod enc P w base spare held t4 v4 d4 p4 := by
 obtain ⟨v0, vs0, d0, ds0, p0, q0, hargs, rfl, rfl, hd0, hr0⟩ := trodAll_cons h;obtain ⟨v1, vs1, d1, ds1, p1, q1, rfl, rfl, rfl, hd1, hr1⟩ := trodAll_cons hr0;obtain ⟨v2, vs2, d2, ds2, p2, q2, rfl, rfl, rfl, hd2, hr2⟩ := trodAll_cons hr1;obtain ⟨v3, vs3, d3, ds3, p3, q3, rfl, rfl, rfl, hd3, hr3⟩ := trodAll_cons hr2;obtain ⟨v4, vs4, d4, ds4, p4, q4, rfl, rfl, rfl, hd4, hr4⟩ := trodAll_cons hr3;obtain ⟨rfl, rfl, rfl⟩ := trodAll_nil hr4;exact ⟨v0, v1, v2, v3, v4, d0, d1, d2, d3, d4, p0, p1, p2, p3, p4, by cases args; simp_all, rfl, by simp, hd0, hd1, hd2, hd3, hd4⟩
theorem trodAll_six {H : Type} {enc : TypeId × Value → H} {P : Program} {w : World} {base : Nat} {spare : Nat → Bool} {held : Bool} {t0 t1 t2 t3 t4 t5 : TypeId} {args : Array Value} {ds : List (DataW H)} {ps : List MemPlace} (h : DataW.TrodAll enc P w base spare held [t0, t1, t2, t3, t4, t5] args.toList ds ps) :
  ∃ v0 v1 v2 v3 v4 v5 d0 d1 d2 d3 d4 d5 p0 p1 p2 p3 p4 p5, args = #[v0, v1, v2, v3, v4, v5] ∧ ds = [d0, d1, d2, d3, d4, d5] ∧ ps = p0 ++ p1 ++ p2 ++ p3 ++ p4 ++ p5 ∧ DataW.Trod enc P w base spare held t0 v0 d0 p0 ∧ DataW.Trod enc P w base spare held t1 v1 d1 p1 ∧ DataW.Trod enc P w base spare held t2 v2 d2 p2 ∧ DataW.Trod enc P w base spare held t3 v3 d3 p3 ∧ DataW.Trod enc P w base spare held t4 v4 d4 p4 ∧ DataW.Trod enc P w base spare held t5 v5 d5 p5 := by
 obtain ⟨v0, vs0, d0, ds0, p0, q0, hargs, rfl, rfl, hd0, hr0⟩ := trodAll_cons h;obtain ⟨v1, vs1, d1, ds1, p1, q1, rfl, rfl, rfl, hd1, hr1⟩ := trodAll_cons hr0;obtain ⟨v2, vs2, d2, ds2, p2, q2, rfl, rfl, rfl, hd2, hr2⟩ := trodAll_cons hr1;obtain ⟨v3, vs3, d3, ds3, p3, q3, rfl, rfl, rfl, hd3, hr3⟩ := trodAll_cons hr2;obtain ⟨v4, vs4, d4, ds4, p4, q4, rfl, rfl, rfl, hd4, hr4⟩ := trodAll_cons hr3;obtain ⟨v5, vs5, d5, ds5, p5, q5, rfl, rfl, rfl, hd5, hr5⟩ := trodAll_cons hr4;obtain ⟨rfl, rfl, rfl⟩ := trodAll_nil hr5;exact ⟨v0, v1, v2, v3, v4, v5, d0, d1, d2, d3, d4, d5, p0, p1, p2, p3, p4, p5, by cases args; simp_all, rfl, by simp, hd0, hd1, hd2, hd3, hd4, hd5⟩
theorem vr_emptyN {e : Env} : VR e .empty (.slice none 0 0) := .inl rfl
theorem vr_emptyH {e : Env} (a : Addr) (c : Nat) : VR e .empty (.slice (some a) 0 c) := .inr ⟨a, c, rfl⟩
theorem vr_hollow {e : Env} (a : Addr) (c : Nat) : VR e .hollow (.slice (some a) 0 c) := by simp only [VR]; exact ⟨a, c, rfl⟩

end Go.Ev
