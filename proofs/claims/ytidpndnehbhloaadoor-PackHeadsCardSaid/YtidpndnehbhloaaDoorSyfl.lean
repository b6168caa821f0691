/- Floats whose words are not known: comparisons, sums, products, quotients, conversions, some functions without a body. No condition. -/
import Derived.Test.YtidpndnehbhloaaDoorSyvs
import Derived.Laws.FloatArith
namespace Go.Ev
open Go.RowKit

def plainRow (fn : Func) : Bool := fn.body.isNone && (Extern.allNextRows.lookup fn.name).isNone && (Extern.allNextRows.lookup fn.origin).isNone && (Extern.allGenericRows.lookup fn.name).isNone && (Extern.allTypedRows.lookup fn.name).isNone

theorem run_extern {P : Program} {f : FuncId} {fn : Func} {nm : String} {e : Array Value → Sem Value} (h : P.funcs[f]? = some fn) (hp : plainRow fn = true) (hn : fn.name = nm) (hne : (nm == "runtime.NumGoroutine") = false) (hr : Extern.allRows.lookup nm = some e) (args : Array Value) (w : World) :
  (callFunc f args).run P w = ((e args).run P w).andThen fun v w' => .ok (.value v) w' := by
 unfold plainRow at hp;simp only [bae, Option.isNone_iff_eq_none] at hp;obtain ⟨⟨⟨⟨h1, h2⟩, h3⟩, h4⟩, h5⟩ := hp;have hfn : Extern.findNext fn = none := by simp [Extern.findNext, h2, h3]
 have hfi : Extern.find fn = some e := by
  simp only [Extern.find, h4, h5, Option.map_none];rw [hn, hr]; rfl
 have hb : fn.body.isNone = true := by rw [h1]; rfl
 simp only [callFunc, Sem.run_bind, run_program, Result.andThen_ok, h, hn, hne, Bool.false_eq_true, if_false, hb, if_true, hfn, hfi];rfl


theorem nrmI_ge (b : Nat) : -1 ≤ nrmI b := by unfold nrmI; split <;> omega
theorem nrmI_or (b : Nat) : (nrmI b = -1 ∧ (Ieee.double.read b).isNaN = true) ∨ (nrmI b = b ∧ (Ieee.double.read b).isNaN = false) := by
 unfold nrmI;split
 ·rename_i h; exact .inl ⟨rfl, by rw [h]; rfl⟩
 ·rename_i h;refine .inr ⟨rfl, ?_⟩;cases hd : Ieee.double.read b with
  | nan s t => exact absurd hd (h s t)
  | number _ _ _ => rfl
  | infinity _ => rfl

def toF : AV → Option E
 | .sflt x => some x
 | .sbits x => some (.un .nrm x)
 | .float .f64 b => match decide (b < 18446744073709551616) with
  | true => some (.int (nrmI b))
  | false => none
 | .nan .f64 => some (.int (-1))
 | _ => none
theorem toF_val {e : Env} {v : AV} {x : E} (h : toF v = some x) {a : Value} (hv : VR e v a) : ∃ b, a = .float .f64 b ∧ x.i e.opq = nrmI b ∧ x.i e.opq < 18446744073709551616 := by
 cases v <;> simp only [toF, reduceCtorEq] at h
 case sflt y => simp only [sme] at h; subst h; simpa only [VR] using hv
 case sbits y =>
  simp only [sme] at h; subst h;simp only [VR] at hv;refine ⟨_, hv.1, rfl, ?_⟩;show nrmI (y.n e.opq) < _;have h2 := hv.2;simp only [inK, IntKind.min, IntKind.max, IntKind.signed, IntKind.bits] at h2;have h3 : (y.n e.opq : Int) = y.i e.opq := n_of_i (by simpa using h2.1);rcases nrmI_or (y.n e.opq) with ⟨h4, _⟩ | ⟨h4, _⟩
  ·omega
  ·rw [h4, h3]; have := h2.2; simp at this; omega
 case float k b =>
  cases k with
  | f32 => cases h
  | f64 =>
   simp only at h;split at h
   ·rename_i hb;have hb := of_decide_eq_true hb;simp only [sme] at h; subst h;simp only [VR] at hv;refine ⟨b, hv, rfl, ?_⟩;show nrmI b < _;rcases nrmI_or b with ⟨h4, _⟩ | ⟨h4, _⟩ <;> omega
   ·cases h
 case nan k =>
  cases k with
  | f32 => cases h
  | f64 =>
   simp only [sme] at h; subst h;simp only [VR] at hv;obtain ⟨b, rfl, hb⟩ := hv;have hb : (Ieee.double.read b).isNaN = true := hb;refine ⟨b, rfl, ?_, by show (-1 : Int) < _; decide⟩;show (-1 : Int) = nrmI b;rcases nrmI_or b with ⟨h4, _⟩ | ⟨h4, h5⟩
   ·rw [h4]
   ·rw [hb] at h5; cases h5

def isArithF : BinOp → Bool
 | .add | .sub | .mul | .quo => true
 | _ => false
theorem fopI_nat (op : BinOp) (b c : Nat) : fopI op (b : Int) (c : Int) = (match fbinN op b c with | some z => nrmI z | none => -1) := by
 unfold fopI;rw [show decide ((0 : Int) ≤ b) = true by simp, show decide ((0 : Int) ≤ c) = true by simp];rfl
theorem fopI_neg {op : BinOp} {x y : Int} (h : x < 0 ∨ y < 0) : fopI op x y = -1 := by
 unfold fopI;split
 ·rename_i h1 h2;have h1 := of_decide_eq_true h1;have h2 := of_decide_eq_true h2;omega
 ·rfl
theorem nrmI_nat {b : Nat} (h : 0 ≤ nrmI b) : nrmI b = b := by rcases nrmI_or b with ⟨h4, _⟩ | ⟨h4, _⟩ <;> omega
theorem fop_some {op : BinOp} {b c : Nat} (h : 0 ≤ fopI op (nrmI b) (nrmI c)) : ∃ z, fbinN op b c = some z ∧ nrmI z = fopI op (nrmI b) (nrmI c) ∧ (Ieee.double.read z).isNaN = false ∧ (z : Int) = nrmI z := by
 by_cases h0 : nrmI b < 0 ∨ nrmI c < 0
 ·rw [fopI_neg h0] at h; omega
 ·have e1 := nrmI_nat (b := b) (by omega);have e2 := nrmI_nat (b := c) (by omega);rw [e1, e2, fopI_nat] at h ⊢;cases hz : fbinN op b c with
  | none => rw [hz] at h; exact absurd h (by decide)
  | some z =>
   rw [hz] at h;refine ⟨z, rfl, rfl, ?_⟩;rcases nrmI_or z with ⟨h4, _⟩ | ⟨h4, h5⟩
   ·simp only at h; omega
   ·exact ⟨h5, h4.symm⟩
theorem fbinN_bits {op : BinOp} {b c : Nat} : fbinN op b c = floatBits op .f64 b c := by cases op <;> rfl
theorem fbinN_lt {op : BinOp} {b c z : Nat} (h : fbinN op b c = some z) : z < 18446744073709551616 := by
 have e : 2 ^ Ieee.double.width = 18446744073709551616 := rfl;rw [← e];cases op <;> simp only [fbinN, reduceCtorEq] at h
 ·exact Ieee.double.add_lt h
 ·exact Ieee.double.sub_lt h
 ·exact Ieee.double.mul_lt h
 ·exact Ieee.double.div_lt h

def askF (A : Ask) (op : BinOp) (x y : E) : Option AV :=
 match op with
 | .eql => match askQ A (.eq (.bi .fcm x y) (.int 0)) with
  | some b => some (.bool b)
  | none => none
 | .neq => match askQ A (.eq (.bi .fcm x y) (.int 0)) with
  | some b => some (.bool (!b))
  | none => none
 | .lss => match askQ A (.eq (.bi .fcm x y) (.int (-1))) with
  | some b => some (.bool b)
  | none => none
 | .gtr => match askQ A (.eq (.bi .fcm x y) (.int 1)) with
  | some b => some (.bool b)
  | none => none
 | .leq => match askQ A (.eq (.bi .fcm x y) (.int (-1))), askQ A (.eq (.bi .fcm x y) (.int 0)) with
  | some a, some b => some (.bool (a || b))
  | _, _ => none
 | .geq => match askQ A (.eq (.bi .fcm x y) (.int 1)), askQ A (.eq (.bi .fcm x y) (.int 0)) with
  | some a, some b => some (.bool (a || b))
  | _, _ => none
 | _ => none

theorem fcmI_nat (b c : Nat) : fcmI (b : Int) (c : Int) = (match Ieee.double.order b c with | some .lt => -1 | some .eq => 0 | some .gt => 1 | none => 2) := by
 unfold fcmI;rw [show decide ((0 : Int) ≤ b) = true by simp, show decide ((0 : Int) ≤ c) = true by simp];rfl
theorem fcmI_neg {x y : Int} (h : x < 0 ∨ y < 0) : fcmI x y = 2 := by
 unfold fcmI;split
 ·rename_i h1 h2;have h1 := of_decide_eq_true h1;have h2 := of_decide_eq_true h2;omega
 ·rfl
theorem order_nanF {b c : Nat} (h : (Ieee.double.read b).isNaN = true ∨ (Ieee.double.read c).isNaN = true) : Ieee.double.order b c = none := by
 unfold Ieee.Format.order;cases hb : Ieee.double.read b <;> cases hc : Ieee.double.read c <;> rw [hb, hc] at h <;> first | rfl | (simp [Ieee.Datum.isNaN] at h)
def ordI : Ordering → Int
 | .lt => -1
 | .eq => 0
 | .gt => 1
theorem fcm_ord (b c : Nat) (o : Ordering) : (Ieee.double.order b c == some o) = decide (fcmI (nrmI b) (nrmI c) = ordI o) := by
 by_cases h0 : nrmI b < 0 ∨ nrmI c < 0
 ·rw [fcmI_neg h0, order_nanF]
  ·cases o <;> rfl
  ·rcases h0 with h0 | h0
   ·rcases nrmI_or b with ⟨_, h⟩ | ⟨h, _⟩
    ·exact .inl h
    ·omega
   ·rcases nrmI_or c with ⟨_, h⟩ | ⟨h, _⟩
    ·exact .inr h
    ·omega
 ·rw [nrmI_nat (b := b) (by omega), nrmI_nat (b := c) (by omega), fcmI_nat];generalize Ieee.double.order b c = r;cases r with
  | none => cases o <;> rfl
  | some p => cases p <;> cases o <;> rfl

theorem askF_run {P : Program} {e : Env} {A : Ask} (hA : AskOK e.opq A) {op : BinOp} {x y : E} {v : AV} (h : askF A op x y = some v) {b c : Nat} (hx : x.i e.opq = nrmI b) (hy : y.i e.opq = nrmI c) (t : TypeId) :
  ∃ z, VR e v z ∧ ∀ w, (binOp op t (.float .f64 b) (.float .f64 c)).run P w = .ok z w := by
 have key : ∀ {n : Int} {r : Bool}, askQ A (.eq (.bi .fcm x y) (.int n)) = some r → decide (fcmI (nrmI b) (nrmI c) = n) = r := by
  intro n r hq;have e1 : (E.bi .fcm x y).i e.opq = fcmI (nrmI b) (nrmI c) := by
   show fcmI (x.i e.opq) (y.i e.opq) = _;rw [hx, hy]
  have := askQ_val hA hq;simp only [Q.val, e1] at this;exact this
 have fo : FloatKind.format .f64 = Ieee.double := rfl;cases op <;> simp only [askF, reduceCtorEq] at h
 case eql =>
  split at h
  ·rename_i r hq;simp only [sme] at h; subst h;refine ⟨.bool r, by simp only [VR], fun w => ?_⟩;rw [binOp_float_cmp_eql, fo, fcm_ord, ← key hq]; rfl
  ·cases h
 case neq =>
  split at h
  ·rename_i r hq;simp only [sme] at h; subst h;refine ⟨.bool (!r), by simp only [VR], fun w => ?_⟩;rw [binOp_float_cmp_neq, fo, bne, fcm_ord, ← key hq]; rfl
  ·cases h
 case lss =>
  split at h
  ·rename_i r hq;simp only [sme] at h; subst h;refine ⟨.bool r, by simp only [VR], fun w => ?_⟩;rw [binOp_float_cmp_lss, fo, fcm_ord, ← key hq]; rfl
  ·cases h
 case gtr =>
  split at h
  ·rename_i r hq;simp only [sme] at h; subst h;refine ⟨.bool r, by simp only [VR], fun w => ?_⟩;rw [binOp_float_cmp_gtr, fo, fcm_ord, ← key hq]; rfl
  ·cases h
 case leq =>
  split at h
  ·rename_i r s hq hq2;simp only [sme] at h; subst h;refine ⟨.bool (r || s), by simp only [VR], fun w => ?_⟩;rw [binOp_float_cmp_leq, fo, fcm_ord, fcm_ord, ← key hq, ← key hq2]; rfl
  ·cases h
 case geq =>
  split at h
  ·rename_i r s hq hq2;simp only [sme] at h; subst h;refine ⟨.bool (r || s), by simp only [VR], fun w => ?_⟩;rw [binOp_float_cmp_geq, fo, fcm_ord, fcm_ord, ← key hq, ← key hq2]; rfl
  ·cases h

def sFbin (A : Ask) (op : BinOp) (x y : E) : Option AV :=
 match isArithF op with
 | true => match askQ A (.le (.int 0) (.bi (.fop op) x y)) with
  | some true => some (.sflt (.bi (.fop op) x y))
  | _ => none
 | false => askF A op x y
theorem sFbin_run {P : Program} {e : Env} {A : Ask} (hA : AskOK e.opq A) {op : BinOp} {x y : E} {v : AV} (h : sFbin A op x y = some v) {b c : Nat} (hx : x.i e.opq = nrmI b) (hy : y.i e.opq = nrmI c) (t : TypeId) :
  ∃ z, VR e v z ∧ ∀ w, (binOp op t (.float .f64 b) (.float .f64 c)).run P w = .ok z w := by
 unfold sFbin at h;split at h
 ·split at h
  ·rename_i hq;simp only [sme] at h; subst h;have e1 : (E.bi (.fop op) x y).i e.opq = fopI op (nrmI b) (nrmI c) := by
    show fopI op (x.i e.opq) (y.i e.opq) = _;rw [hx, hy]
   have := of_decide_eq_true (askQ_val hA hq);rw [e1] at this;obtain ⟨z, h1, h2, h3, h4⟩ := fop_some this;have h5 := fbinN_lt h1;refine ⟨.float .f64 z, ?_, fun w => ?_⟩
   ·simp only [VR];rw [e1];exact ⟨z, rfl, h2.symm, by omega⟩
   ·rw [fbinN_bits] at h1;exact run_float_arith w op t .f64 b c z h1
  ·cases h
 ·exact askF_run hA h hx hy t

theorem eqGuard_float {P : Program} {op : BinOp} {t : TypeId} {x y : Operand} {b c : Nat} (w : World) : (eqGuard op t x y (.float .f64 b) (.float .f64 c)).run P w = .ok () w := by cases op <;> simp [eqGuard]

theorem row_bits : Extern.allRows.lookup "math.Float64bits" = some Extern.MathFloatBits.float64bits := by kernel_rfl
theorem row_from : Extern.allRows.lookup "math.Float64frombits" = some Extern.MathFloatBits.float64frombits := by kernel_rfl
theorem row_ceil : Extern.allRows.lookup "math.archCeil" = some (Extern.MathFloor.toIntegral "math.archCeil" .up) := by kernel_rfl

def externF (P : Program) (A : Ask) (f : FuncId) (v : AV) : Option AV :=
 match P.funcs[f]? with
 | some fn => match plainRow fn with
  | true => match v with
   | .sbits x => match fn.name == "math.Float64bits" with
    | true => some (.sint .u64 x)
    | false => match fn.name == "math.archCeil", askQ A (.le (.int 0) (.un .nrm x)) with
     | true, some true => some (.sflt (.un .fceil (.un .nrm x)))
     | _, _ => none
   | .sflt x => match askQ A (.le (.int 0) x) with
    | some true => match fn.name == "math.Float64bits" with
     | true => some (.sint .u64 x)
     | false => match fn.name == "math.archCeil" with
      | true => some (.sflt (.un .fceil x))
      | false => none
    | _ => none
   | .sint .u64 x => match fn.name == "math.Float64frombits" with
    | true => some (.sbits x)
    | false => none
   | _ => none
  | false => none
 | none => none

theorem integral_eq (nm : String) (way : Ieee.Toward) (x : Nat) : Extern.MathFloor.toIntegral nm way #[.float .f64 x] = (match FloatKind.f64.decode x with
  | .nan s t =>
   if FloatKind.f64.format.quiet t = t then pure (.float .f64 x) else do
   let kept ← choose (.extern "math.Floor,Ceil,Trunc,RoundToEven.signallingNaN kept" 2)
   pure (.float .f64 (if kept == 1 then x else FloatKind.f64.encode (.nan s (FloatKind.f64.format.quiet t))))
  | d => pure (.float .f64 (FloatKind.f64.encode (d.integral way)))) := rfl
theorem fceil_run {b : Nat} (h : 0 ≤ nrmI b) (P : Program) (w : World) : (Extern.MathFloor.toIntegral "math.archCeil" .up #[.float .f64 b]).run P w = .ok (.float .f64 (Ieee.double.write ((Ieee.double.read b).integral .up))) w := by
 rw [integral_eq];have e : FloatKind.decode .f64 b = Ieee.double.read b := rfl;rcases nrmI_or b with ⟨h4, _⟩ | ⟨_, h5⟩
 ·omega
 rw [e];cases hd : Ieee.double.read b with
 | nan s t => rw [hd] at h5; cases h5
 | number _ _ _ => rfl
 | infinity _ => rfl
theorem fceil_den {b : Nat} (h : 0 ≤ nrmI b) : fceilI (nrmI b) = nrmI (Ieee.double.write ((Ieee.double.read b).integral .up)) := by
 rw [nrmI_nat h];unfold fceilI;rw [show decide ((0 : Int) ≤ b) = true by simp];rfl
theorem nrmI_lt {z : Nat} (h : z < 18446744073709551616) : nrmI z < 18446744073709551616 := by rcases nrmI_or z with ⟨h4, _⟩ | ⟨h4, _⟩ <;> omega

theorem externF_run {P : Program} {e : Env} {A : Ask} (hA : AskOK e.opq A) {f : FuncId} {u v : AV} (k : externF P A f u = some v) {x : Value} (hx : VR e u x) :
  ∃ y, VR e v y ∧ ∀ w, (callFunc f #[x]).run P w = .ok (.value y) w := by
 unfold externF at k;split at k
 ·rename_i fn hfn;split at k
  ·rename_i hpl;have ceil : ∀ (z : E) (b : Nat), x = .float .f64 b → z.i e.opq = nrmI b → nrmI b < 18446744073709551616 → fn.name = "math.archCeil" → askQ A (.le (.int 0) z) = some true → v = .sflt (.un .fceil z) → ∃ y, VR e v y ∧ ∀ w, (callFunc f #[x]).run P w = .ok (.value y) w := by
    intro z b hxb hz hlt hn hq hv;subst hv hxb;have := askQ_val hA hq;have h0 : 0 ≤ nrmI b := by rw [← hz]; exact of_decide_eq_true this
    refine ⟨.float .f64 (Ieee.double.write ((Ieee.double.read b).integral .up)), ?_, fun w => ?_⟩
    ·have e1 : (E.un .fceil z).i e.opq = fceilI (nrmI b) := by
      show fceilI (z.i e.opq) = _;rw [hz]
     simp only [VR];rw [e1, fceil_den h0];exact ⟨_, rfl, rfl, nrmI_lt (Ieee.double.write_lt _)⟩
    ·rw [run_extern hfn hpl hn (by decide) row_ceil, fceil_run h0]; rfl
   split at k
   ·rename_i z;have hx' := hx;simp only [VR] at hx';obtain ⟨hx1, hx2⟩ := hx';have h0 : 0 ≤ z.i e.opq := by have := hx2.1; simpa [IntKind.min, IntKind.signed] using this
    split at k
    ·rename_i hn;have hn : fn.name = "math.Float64bits" := by simpa using hn
     simp only [sme] at k; subst k;refine ⟨.int .u64 (z.i e.opq), by simp only [VR]; exact ⟨trivial, hx2⟩, fun w => ?_⟩;rw [run_extern hfn hpl hn (by decide) row_bits, hx1, ← n_of_i h0];rfl
    ·split at k
     ·rename_i hn hq;have hn : fn.name = "math.archCeil" := by simpa using hn
      simp only [sme] at k;obtain ⟨b, hb1, hb2, hb3⟩ := toF_val (v := .sbits z) rfl hx;exact ceil (.un .nrm z) b hb1 hb2 (by omega) hn hq k.symm
     ·cases k
   ·rename_i z;have hx' := hx;simp only [VR] at hx';obtain ⟨b, hx1, hx2, hx3⟩ := hx';split at k
    ·rename_i hq;split at k
     ·rename_i hn;have hn : fn.name = "math.Float64bits" := by simpa using hn
      simp only [sme] at k; subst k;have h0 : 0 ≤ nrmI b := by rw [← hx2]; exact of_decide_eq_true (askQ_val hA hq)
      have hb : nrmI b = b := by rcases nrmI_or b with ⟨h4, _⟩ | ⟨h4, _⟩ <;> omega
      refine ⟨.int .u64 (z.i e.opq), ?_, fun w => ?_⟩
      ·simp only [VR]; refine ⟨trivial, ?_⟩;simp only [inK, IntKind.min, IntKind.max, IntKind.signed, IntKind.bits]
       simp
       omega
      ·rw [run_extern hfn hpl hn (by decide) row_bits, hx1, hx2, hb]; rfl
     ·split at k
      ·rename_i hn;have hn : fn.name = "math.archCeil" := by simpa using hn
       simp only [sme] at k;exact ceil z b hx1 hx2 (by omega) hn hq k.symm
      ·cases k
    ·cases k
   ·rename_i z;split at k
    ·rename_i hn;have hn : fn.name = "math.Float64frombits" := by simpa using hn
     simp only [sme] at k; subst k;simp only [VR] at hx;refine ⟨.float .f64 (z.n e.opq), by simp only [VR]; exact ⟨trivial, hx.2⟩, fun w => ?_⟩;rw [run_extern hfn hpl hn (by decide) row_from, hx.1]; rfl
    ·cases k
   ·cases k
  ·cases k
 ·cases k

def sFconv (P : Program) (A : Ask) (src dst : TypeId) (a : AV) : Option AV :=
 match P.underlying src, P.underlying dst with
 | some (.int _), some (.float .f64) => match toE a with
  | some (_, x) => some (.sflt (.un .fof x))
  | none => none
 | some (.float .f64), some (.float .f64) => match a with
  | .sflt x => some (.sflt x)
  | .sbits x => some (.sbits x)
  | _ => none
 | some (.float .f64), some (.int k) => match toF a with
  | some x => match askQ A (.eq (.un .fok x) (.int 1)), fitB A k (.un .fint x) with
   | some true, true => some (.sint k (.un .fint x))
   | _, _ => none
  | none => none
 | _, _ => none

theorem sFconv_run {P : Program} {e : Env} {A : Ask} (hA : AskOK e.opq A) {src dst : TypeId} {u v : AV} (k : sFconv P A src dst u = some v) {x : Value} (hx : VR e u x) :
  ∃ y, VR e v y ∧ ∀ w, (convert src dst x).run P w = .ok y w := by
 unfold sFconv at k;split at k
 ·rename_i k1 hs hd;split at k
  ·rename_i kk y hy;simp only [sme] at k; subst k;obtain ⟨rfl, hr⟩ := toE_val hy hx;refine ⟨.float .f64 (FloatKind.nearest .f64 (y.i e.opq)), ?_, fun w => ?_⟩
   ·simp only [VR, E.i, E.den, UO.den, D.toInt_int];refine ⟨_, rfl, rfl, ?_⟩;unfold fofI;have h2 := Ieee.double.write_lt (.number (decide ((y.den e.opq).toInt < 0)) (y.den e.opq).toInt.natAbs 0);have e2 : 2 ^ Ieee.double.width = 18446744073709551616 := rfl;rw [e2] at h2;rcases nrmI_or (Ieee.double.write (.number (decide ((y.den e.opq).toInt < 0)) (y.den e.opq).toInt.natAbs 0)) with ⟨h4, _⟩ | ⟨h4, _⟩ <;> rw [h4] <;> omega
   ·simp [convert, run_underlying hs, run_underlying hd, Conv.intToFloat]
  ·cases k
 ·rename_i hs hd;split at k
  ·simp only [sme] at k; subst k;have hx' := hx;simp only [VR] at hx';obtain ⟨b, rfl, _⟩ := hx';exact ⟨_, hx, fun w => by simp [convert, run_underlying hs, run_underlying hd, Conv.floatToFloat]⟩
  ·simp only [sme] at k; subst k;have hx' := hx;simp only [VR] at hx';obtain ⟨rfl, _⟩ := hx';exact ⟨_, hx, fun w => by simp [convert, run_underlying hs, run_underlying hd, Conv.floatToFloat]⟩
  ·cases k
 ·rename_i kk hs hd;split at k
  ·rename_i y hy;split at k
   ·rename_i hq hfit;simp only [sme] at k; subst k;obtain ⟨b, rfl, h1, h2⟩ := toF_val hy hx;have hok := of_decide_eq_true (askQ_val hA hq);have hf := fitB_val hA hfit;simp only [E.i, E.den, UO.den, D.toInt_int] at hok hf h1;refine ⟨.int kk ((E.un .fint y).i e.opq), by simp only [VR]; exact ⟨trivial, by simpa only [inK, E.i, E.den, UO.den, D.toInt_int] using hf⟩, fun w => ?_⟩;rw [h1] at hok hf;have hb : nrmI b = b := by
     rcases nrmI_or b with ⟨h4, _⟩ | ⟨h4, _⟩
     ·rw [h4] at hok; exact absurd hok (by decide)
     ·exact h4
    have hdec : FloatKind.decode .f64 b = Ieee.double.read b := rfl;have hO : fintO (nrmI b) = (Ieee.double.read b).toInt .zero := by
     unfold fintO; rw [hb, show decide ((0 : Int) ≤ b) = true by simp]; simp only [Int.toNat_natCast]
    rw [hO] at hok hf;simp only [E.i, E.den, UO.den, D.toInt_int, h1, hO];cases hz : (Ieee.double.read b).toInt .zero with
    | none => rw [hz] at hok; exact absurd hok (by decide)
    | some n =>
     rw [hz] at hf;simp only [Option.getD_some] at hf ⊢;simp [convert, run_underlying hs, run_underlying hd, Conv.floatToInt, hdec, hz, hf]
   ·cases k
  ·cases k
 ·cases k

theorem row_min : Extern.allRows.lookup "math.archMin" = some (Extern.MathDim.pick "math.archMin" true .lt) := by kernel_rfl
theorem row_max : Extern.allRows.lookup "math.archMax" = some (Extern.MathDim.pick "math.archMax" false .gt) := by kernel_rfl
def externG (P : Program) (A : Ask) (f : FuncId) (u v : AV) : Option AV :=
 match P.funcs[f]? with
 | some fn => match plainRow fn with
  | true => match toF u, toF v with
   | some x, some y => match askQ A (.le (.int 0) x), askQ A (.le (.int 0) y) with
    | some true, some true => match fn.name == "math.archMin" with
     | true => some (.sflt (.bi (.fpick true) x y))
     | false => match fn.name == "math.archMax" with
      | true => some (.sflt (.bi (.fpick false) x y))
      | false => none
    | _, _ => none
   | _, _ => none
  | false => none
 | none => none
theorem pickN_lt {neg : Bool} {x y : Nat} (hx : x < 18446744073709551616) (hy : y < 18446744073709551616) : pickN neg x y < 18446744073709551616 := by
 unfold pickN;dsimp only;repeat' split
 ·exact Ieee.double.write_lt _
 all_goals omega
theorem externG_run {P : Program} {e : Env} {A : Ask} (hA : AskOK e.opq A) {f : FuncId} {u u' v : AV} (k : externG P A f u u' = some v) {x y : Value} (hx : VR e u x) (hy : VR e u' y) :
  ∃ z, VR e v z ∧ ∀ w, (callFunc f #[x, y]).run P w = .ok (.value z) w := by
 unfold externG at k;split at k
 ·rename_i fn hfn;split at k
  ·rename_i hpl;split at k
   ·rename_i p q hp hq;obtain ⟨b, rfl, b1, b2⟩ := toF_val hp hx;obtain ⟨c, rfl, c1, c2⟩ := toF_val hq hy;split at k
    ·rename_i a1 a2;have h1 : 0 ≤ nrmI b := by rw [← b1]; exact of_decide_eq_true (askQ_val hA a1)
     have h2 : 0 ≤ nrmI c := by rw [← c1]; exact of_decide_eq_true (askQ_val hA a2)
     have d1 := nrmI_nat h1;have d2 := nrmI_nat h2;have key : ∀ neg : Bool, VR e (.sflt (.bi (.fpick neg) p q)) (.float .f64 (pickN neg b c)) := by
      intro neg;have e1 : (E.bi (.fpick neg) p q).i e.opq = pickI neg (nrmI b) (nrmI c) := by
       show pickI neg (p.i e.opq) (q.i e.opq) = _;rw [b1, c1]
      have e2 : pickI neg (nrmI b) (nrmI c) = nrmI (pickN neg b c) := by
       unfold pickI;rw [decide_eq_true h1, decide_eq_true h2, d1, d2]; rfl
      simp only [VR];rw [e1, e2];exact ⟨_, rfl, rfl, nrmI_lt (pickN_lt (by omega) (by omega))⟩
     split at k
     ·rename_i hn;have hn : fn.name = "math.archMin" := by simpa using hn
      simp only [sme] at k; subst k;exact ⟨_, key true, fun w => by rw [run_extern hfn hpl hn (by decide) row_min]; rfl⟩
     ·split at k
      ·rename_i hn;have hn : fn.name = "math.archMax" := by simpa using hn
       simp only [sme] at k; subst k;exact ⟨_, key false, fun w => by rw [run_extern hfn hpl hn (by decide) row_max]; rfl⟩
      ·cases k
    ·cases k
   ·cases k
  ·cases k
 ·cases k

def quietF (P : Program) (m : Mem) (t : T AV) (o : Oper) : Option AV :=
 match o.op with
 | .binOp op _ x y _ => match evalO t x, evalO t y with
  | some a, some b => match toF a, toF b with
   | some p, some q => sFbin m.ask op p q
   | _, _ => none
  | _, _ => none
 | .convert src dst x => match evalO t x with
  | some a => sFconv P m.ask src dst a
  | none => none
 | .call { callee := .value fo, args := args, argTypes := _ } => match evalO t fo, args.toList with
  | some (.func f []), [x] => match evalO t x with
   | some v => externF P m.ask f v
   | none => none
  | some (.func f []), [x, y] => match evalO t x, evalO t y with
   | some u, some v => externG P m.ask f u v
   | _, _ => none
  | _, _ => none
 | _ => none

theorem quietF_run {P : Program} {e : Env} {m : Mem} {M : World → Prop} (R : Reads P e m M) {t : T AV} {a : Act} (h : FT e t a) {o : Oper} {v : AV} (k : quietF P m t o = some v) :
  ∃ x, VR e v x ∧ ∀ w, M w → (execOp a.eval o).run P w = .ok (.value x) w := by
 unfold quietF at k;split at k
 ·rename_i op ty x y yt hop;split at k
  ·rename_i a' b' hx hy;split at k
   ·rename_i p q hp hq;obtain ⟨b, e1, g1, _⟩ := toF_val hp (evalO_vr h hx);obtain ⟨c, e2, g2, _⟩ := toF_val hq (evalO_vr h hy);obtain ⟨z, h1, h2⟩ := sFbin_run (P := P) R.ask k g1 g2 ty;refine ⟨z, h1, fun w _ => ?_⟩;simp only [execOp, hop, e1, e2, Sem.run_bind, eqGuard_float, Result.andThen_ok, h2 w, Sem.run_pure]
   ·cases k
  ·cases k
 ·rename_i src dst x hop;split at k
  ·rename_i a' hx;obtain ⟨z, h1, h2⟩ := sFconv_run (P := P) R.ask k (evalO_vr h hx);refine ⟨z, h1, fun w _ => ?_⟩;simp only [execOp, hop, Sem.run_bind, h2 w, Result.andThen_ok, Sem.run_pure]
  ·cases k
 ·rename_i fo args tys hop;split at k
  ·rename_i f x hf ha;split at k
   ·rename_i v' hx;obtain ⟨z, h1, h2⟩ := externF_run (P := P) R.ask k (evalO_vr h hx);refine ⟨z, h1, fun w _ => ?_⟩;have hfv := evalO_vr h hf;simp only [VR] at hfv;obtain ⟨as, hfv, has⟩ := hfv;simp only [VRs] at has;have has : as = #[] := by cases as; simp_all
    subst has;have hargs : args = #[x] := by cases args; simp_all
    subst hargs;simp only [execOp, hop, resolve, hfv, Deferred.ofValue, Sem.run_bind, Sem.run_pure, Result.andThen_ok, invoke];rw [show (#[] ++ Array.map a.eval #[x] ++ #[] : Array Value) = #[a.eval x] by apply Array.ext'; simp];exact h2 w
   ·cases k
  ·rename_i f x y hf ha;split at k
   ·rename_i u v' hx hy;obtain ⟨z, h1, h2⟩ := externG_run (P := P) R.ask k (evalO_vr h hx) (evalO_vr h hy);refine ⟨z, h1, fun w _ => ?_⟩;have hfv := evalO_vr h hf;simp only [VR] at hfv;obtain ⟨as, hfv, has⟩ := hfv;simp only [VRs] at has;have has : as = #[] := by cases as; simp_all
    subst has;have hargs : args = #[x, y] := by cases args; simp_all
    subst hargs;simp only [execOp, hop, resolve, hfv, Deferred.ofValue, Sem.run_bind, Sem.run_pure, Result.andThen_ok, invoke];rw [show (#[] ++ Array.map a.eval #[x, y] ++ #[] : Array Value) = #[a.eval x, a.eval y] by apply Array.ext'; simp];exact h2 w
   ·cases k
  ·cases k
 ·cases k

end Go.Ev
