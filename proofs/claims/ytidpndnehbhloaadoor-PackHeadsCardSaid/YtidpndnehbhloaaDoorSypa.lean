/- What comes in: slices of numbers, as rows that stay; numbers; texts. No condition. -/
import Derived.Test.YtidpndnehbhloaaDoorSyca
import Derived.OpenShut
import Derived.ChangeMaps5
set_option linter.unusedSimpArgs false
set_option linter.unusedVariables false
namespace Go.Ev
open Go.ChangeShapes Go.WideShapes Go.ChangeAt Go.RowKit

theorem Rel.newE {Ω : Om} {w0 : Base} {e : Env} {s : St} {w : World} (h : Rel Ω w0 e s w) (q : SQ) (k bs : Nat) (hR : ObjR w0 (e.newB s k 0 bs) s.nid k w (.eseq q)) :
  e.le (e.newB s k 0 bs) ∧ Rel Ω w0 (e.newB s k 0 bs) (s.newO (.eseq q)) w := by
 have hf : e.loc s.nid = Option.none := h.fresh s.next (Nat.le_refl _);have hle := Env.le_newB hf k 0 bs;refine ⟨hle, h.opq, h.below, ?_, ?_, ?_, h.pool, ?_, h.grow, h.hold⟩
 ·intro n hn;simp only [St.newO_eq] at hn;have : 2 * n + 1 ≠ s.nid := by unfold St.nid; omega
  simp [Env.newB, this, h.fresh n (by omega)]
 ·intro i j o o' bb hi hj oi oj li lj;simp only [St.newO_eq, T.get_put] at hi hj;simp only [Env.newB] at li lj;by_cases ei : i = s.nid <;> by_cases ej : j = s.nid
  ·rw [ei, ej]
  ·rw [if_pos ei] at hi;cases hi;cases oi
  ·rw [if_pos ej] at hj;cases hj;cases oj
  ·rw [if_neg ei] at hi li;rw [if_neg ej] at hj lj;exact h.inj i j o o' bb hi hj oi oj li lj
 ·intro id c hc;simp only [St.newO_eq, T.get_put] at hc;split at hc
  ·rename_i hid;subst hid;simp only [sme] at hc;subst hc;exact ⟨k, by simp [Env.newB], hR⟩
  ·rename_i hid;obtain ⟨j, hl, hO⟩ := h.obj id c hc;exact ⟨j, (hle.loc id j hl).1, hO.mono hle hl rfl⟩
 ·intro i o b hi oo li;simp only [St.newO_eq, T.get_put] at hi;simp only [Env.newB] at li;by_cases ei : i = s.nid
  ·rw [if_pos ei] at hi;cases hi;cases oo
  ·rw [if_neg ei] at hi li;exact h.apart i o b hi oo li

structure InSlice (W : World) (k : IntKind) (v : Value) (b off len cap : Nat) (zs : List Int) : Prop where
 eq : v = .slice (some ⟨b, off, none⟩) len cap
 pos : 1 ≤ len
 le : len ≤ cap
 max : cap ≤ 9223372036854775807
 len : zs.length = len
 rng : ∀ n ∈ zs, inK k n
 blk : b < W.heap.size
 row : ∃ arr el fz, W.heap[b]? = some (.cells arr el fz) ∧ ∀ j n, zs[j]? = some n → arr[off + j]? = some (.int k n)

theorem wf_inK {k : IntKind} {n : Int} (h : (Lit.int k n).wf = true) : inK k n := by
 simpa [Lit.wf, inK] using h

theorem InSlice.open {Ω : Om} {W : World} {e : Env} {s : St} (hr : Rel Ω (Base.all W) e s W) {k : IntKind} {v : Value} {b off len cap : Nat} {zs : List Int} (h : InSlice W k v b off len cap zs) {l c x : Nat}
  (hl : Ω.d l = .int len) (hc : Ω.d c = .int cap) (hx : Ω.d x = .ofInts zs) :
  e.le (e.newB s b 0 off) ∧ Rel Ω (Base.all W) (e.newB s b 0 off) (s.newO (.eseq ⟨k, .var l, .var x⟩)) W ∧ VR (e.newB s b 0 off) (.sslice s.nid (.int 0) (.var l) (.var c) false) v := by
 have ho := hr.opq;have hxs : (E.var x).s Ω = zs := by simp [E.s, E.den, hx]
 have hls : (E.var l).i Ω = len := by simp [E.i, E.den, hl]
 have hcs : (E.var c).i Ω = cap := by simp [E.i, E.den, hc]
 obtain ⟨arr, el, fz, h1, h2⟩ := h.row;obtain ⟨g1, g2⟩ := hr.newE ⟨k, .var l, .var x⟩ b off ⟨⟨h.blk, rfl⟩, ⟨by simp only [Env.newB, ho]; rw [hxs, hls, h.len], by simp only [Env.newB, ho]; rw [hxs]; exact h.rng⟩, arr, el, fz, h1, by
  intro j n hj;simp only [Env.newB, ho] at hj ⊢;rw [hxs] at hj;simp only [if_true];exact h2 j n hj⟩
 refine ⟨g1, g2, ?_⟩;simp only [VR];have n1 : (E.var l).n (e.newB s b 0 off).opq = len := by simp [Env.newB, ho, E.n, E.den, hl, D.nat]
 have n2 : (E.var c).n (e.newB s b 0 off).opq = cap := by simp [Env.newB, ho, E.n, E.den, hc, D.nat]
 refine ⟨b, off, by simp [Env.newB], by rw [n1, n2, h.eq]; rfl, fun _ => by simp [Env.newB, E.n, E.den, D.nat], ?_, ?_, ?_⟩
 ·simp only [Env.newB, ho]; rw [hls]; omega
 ·exact Int.le_refl 0
 ·simp only [Env.newB, ho]; rw [hls, hcs]; have := h.le; omega

theorem vr_sint {e : Env} {k : IntKind} {n : Int} {i : Nat} (hn : inK k n) (hi : e.opq.d i = .int n) : VR e (.sint k (.var i)) (.int k n) := by
 simp only [VR, E.i, E.den, hi, D.toInt_int]; exact ⟨trivial, hn⟩
theorem strE_length (s : ByteArray) : (strE s).length = s.size := by
 rw [← strOf_size, strOf_strE]
end Go.Ev
