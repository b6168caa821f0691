/- Reading operations on what is not known: numbers, texts, rows of numbers. No condition. -/
import Derived.Test.YtidpndnehbhloaaDoorSyc
import Derived.Laws.Strings
import Derived.Laws.StructEq
import Derived.ChangeKeysEq
namespace Go.Ev
open Go.RowKit

def inB (k : IntKind) (n : Int) : Bool := decide (k.min ≤ n) && decide (n ≤ k.max)
theorem inB_in {k : IntKind} {n : Int} (h : inB k n = true) : inK k n := by
 simp only [inB, bae, decide_eq_true_eq] at h; exact h

theorem wrap_in (k : IntKind) (n : Int) : inK k (k.wrap n) := by
 cases k <;> simp only [inK, IntKind.min, IntKind.max, IntKind.signed, IntKind.bits, IntKind.wrap] <;> simp <;> (try split) <;> omega

def toE : AV → Option (IntKind × E)
 | .int k n => match inB k n with
  | true => some (k, .int n)
  | false => none
 | .sint k x => some (k, x)
 | _ => none
theorem toE_val {e : Env} {v : AV} {k : IntKind} {x : E} (h : toE v = some (k, x)) {a : Value} (hv : VR e v a) : a = .int k (x.i e.opq) ∧ inK k (x.i e.opq) := by
 unfold toE at h;split at h
 ·split at h
  ·rename_i hb;simp only [sme, pme] at h;obtain ⟨rfl, rfl⟩ := h;simp only [VR] at hv;exact ⟨hv, inB_in hb⟩
  ·cases h
 ·simp only [sme, pme] at h;obtain ⟨rfl, rfl⟩ := h;simp only [VR] at hv;exact hv
 ·cases h

def mkS (k : IntKind) (x : E) : AV := match x with
 | .int n => .int k n
 | x => .sint k x
theorem mkS_vr {e : Env} {k : IntKind} {x : E} (h : inK k (x.i e.opq)) : VR e (mkS k x) (.int k (x.i e.opq)) := by
 unfold mkS;split
 ·simp only [VR]; rfl
 ·simp only [VR]; exact ⟨trivial, h⟩

def mkIop (op : BinOp) (k : IntKind) (x y : E) : E := match x, y with
 | .int m, .int n => .int (iopI op k m n)
 | x, y => .bi (.iop op k) x y
theorem mkIop_i (Ω : Om) (op : BinOp) (k : IntKind) (x y : E) : (mkIop op k x y).i Ω = iopI op k (x.i Ω) (y.i Ω) := by
 unfold mkIop; split <;> rfl

def mkWrap (k : IntKind) (x : E) : E := match x with
 | .int n => .int (k.wrap n)
 | x => .un (.wrap k) x
theorem mkWrap_i (Ω : Om) (k : IntKind) (x : E) : (mkWrap k x).i Ω = k.wrap (x.i Ω) := by
 unfold mkWrap; split <;> rfl

def neq0 (A : Ask) (y : E) : Bool := match askQ A (.eq y (.int 0)) with
 | some false => true
 | _ => false
theorem neq0_val {Ω : Om} {A : Ask} (h : AskOK Ω A) {y : E} (k : neq0 A y = true) : y.i Ω ≠ 0 := by
 unfold neq0 at k;split at k
 ·rename_i hq;have := askQ_val h hq;simp only [Q.val, decide_eq_false_iff_not] at this;exact this
 ·cases k

def fitOr (A : Ask) (k : IntKind) (x y : E) : AV := match fitB A k x with
 | true => mkS k x
 | false => mkS k y
theorem fitOr_vr {e : Env} {A : Ask} (h : AskOK e.opq A) {k : IntKind} {x y : E} (hy : y.i e.opq = k.wrap (x.i e.opq)) : VR e (fitOr A k x y) (.int k (k.wrap (x.i e.opq))) := by
 unfold fitOr;split
 ·rename_i hf;have := fitB_val h hf;have hm := mkS_vr (e := e) (k := k) (x := x) this;rw [wrap_fit this]; exact hm
 ·have hm := mkS_vr (e := e) (k := k) (x := y) (by rw [hy]; exact wrap_in k _);rw [hy] at hm; exact hm

def sArith (A : Ask) (op : BinOp) (k : IntKind) (x y : E) : Option AV :=
 match op with
 | .add => some (fitOr A k (x.add y) (mkIop .add k x y))
 | .sub => some (fitOr A k (x.sub y) (mkIop .sub k x y))
 | .mul => some (fitOr A k (x.mul y) (mkIop .mul k x y))
 | .quo => match neq0 A y with
  | true => some (mkS k (mkIop .quo k x y))
  | false => none
 | .rem => match neq0 A y with
  | true => some (mkS k (mkIop .rem k x y))
  | false => none
 | .and => some (mkS k (mkIop .and k x y))
 | .or => some (mkS k (mkIop .or k x y))
 | .xor => some (mkS k (mkIop .xor k x y))
 | .andNot => some (mkS k (mkIop .andNot k x y))
 | .eql => match askQ A (.eq x y) with
  | some b => some (.bool b)
  | none => none
 | .neq => match askQ A (.eq x y) with
  | some b => some (.bool (!b))
  | none => none
 | .lss => match askQ A (.le y x) with
  | some b => some (.bool (!b))
  | none => none
 | .leq => match askQ A (.le x y) with
  | some b => some (.bool b)
  | none => none
 | .gtr => match askQ A (.le x y) with
  | some b => some (.bool (!b))
  | none => none
 | .geq => match askQ A (.le y x) with
  | some b => some (.bool b)
  | none => none
 | _ => none

theorem ibeq (a b : Int) : (a == b) = decide (a = b) := by rw [Bool.eq_iff_iff]; simp

theorem emod_le' {x : Int} (y : Int) (h : 0 ≤ x) : x % y ≤ x := by
 obtain ⟨n, rfl⟩ := Int.eq_ofNat_of_zero_le h;rcases Int.le_total 0 y with hy | hy
 ·obtain ⟨m, rfl⟩ := Int.eq_ofNat_of_zero_le hy;have := Nat.mod_le n m;omega
 ·obtain ⟨m, hm⟩ := Int.eq_ofNat_of_zero_le (show 0 ≤ -y by omega);have e1 : (n : Int) % y = (n : Int) % (m : Int) := by rw [← hm, Int.emod_neg]
  have := Nat.mod_le n m;omega

theorem tmod_in {k : IntKind} {x y : Int} (h : inK k x) : inK k (x.tmod y) := by
 have hz : k.min ≤ 0 ∧ 0 ≤ k.max := by cases k <;> simp [IntKind.min, IntKind.max, IntKind.signed, IntKind.bits]
 rcases Int.le_total 0 x with hx | hx
 ·have h1 := Int.tmod_nonneg y hx;have h2 : x.tmod y ≤ x := by
   rcases Int.le_total 0 y with hy | hy
   ·rw [Int.tmod_eq_emod_of_nonneg hx]; exact emod_le' _ hx
   ·rw [← Int.tmod_neg, Int.tmod_eq_emod_of_nonneg hx]; exact emod_le' _ hx
  exact ⟨by omega, by have := h.2; omega⟩
 ·have h0 : 0 ≤ -x := by omega
  have e1 : x.tmod y = -((-x).tmod y) := by rw [Int.neg_tmod]; omega
  have h1 := Int.tmod_nonneg y h0;have h2 : (-x).tmod y ≤ -x := by
   rcases Int.le_total 0 y with hy | hy
   ·rw [Int.tmod_eq_emod_of_nonneg h0]; exact emod_le' _ h0
   ·rw [← Int.tmod_neg, Int.tmod_eq_emod_of_nonneg h0]; exact emod_le' _ h0
  exact ⟨by have := h.1; omega, by omega⟩

theorem shr_in {k : IntKind} {x : Int} (n : Nat) (h : inK k x) : inK k (x.fdiv (2 ^ n)) := by
 have hz : k.min ≤ 0 ∧ 0 ≤ k.max := by cases k <;> simp [IntKind.min, IntKind.max, IntKind.signed, IntKind.bits]
 have hp : (0 : Int) < 2 ^ n := Int.pow_pos (by decide);rw [Int.fdiv_eq_ediv_of_nonneg _ (Int.le_of_lt hp)];rcases Int.le_total 0 x with hx | hx
 ·have h1 := Int.ediv_nonneg hx (Int.le_of_lt hp);have h2 := Int.ediv_le_self (2 ^ n) hx;exact ⟨by omega, by have := h.2; omega⟩
 ·have h1 : x / 2 ^ n ≤ 0 := Int.ediv_nonpos_of_nonpos_of_neg hx hp;have h2 : x ≤ x / 2 ^ n := by
   rw [Int.le_ediv_iff_mul_le hp];have : x * 2 ^ n ≤ x * 1 := Int.mul_le_mul_of_nonpos_left hx (by omega);omega
  exact ⟨by have := h.1; omega, by omega⟩

theorem sArith_run {P : Program} {e : Env} {A : Ask} (hA : AskOK e.opq A) {op : BinOp} {k : IntKind} {x y : E} {v : AV} (h : sArith A op k x y = some v) (hx : inK k (x.i e.opq)) (t : TypeId) (xo yo : Operand) :
  ∃ z, VR e v z ∧ ∀ w, (do eqGuard op t xo yo (.int k (x.i e.opq)) (.int k (y.i e.opq)); binOp op t (.int k (x.i e.opq)) (.int k (y.i e.opq)) : Sem Value).run P w = .ok z w := by
 have guard : ∀ w, (eqGuard op t xo yo (.int k (x.i e.opq)) (.int k (y.i e.opq))).run P w = .ok () w := by intro w; cases op <;> simp [eqGuard]
 have fin : ∀ z, (∀ w, (binOp op t (.int k (x.i e.opq)) (.int k (y.i e.opq))).run P w = .ok z w) → ∀ w, (do eqGuard op t xo yo (.int k (x.i e.opq)) (.int k (y.i e.opq)); binOp op t (.int k (x.i e.opq)) (.int k (y.i e.opq)) : Sem Value).run P w = .ok z w := by
  intro z hz w;rw [Sem.run_bind, guard w];exact hz w
 have wr : ∀ op' : BinOp, (∀ _ : Nat, ∃ m : Int, iopI op' k (x.i e.opq) (y.i e.opq) = k.wrap m) → VR e (mkS k (mkIop op' k x y)) (.int k (iopI op' k (x.i e.opq) (y.i e.opq))) := by
  intro op' hm;obtain ⟨m, hm⟩ := hm 0;have := mkS_vr (e := e) (k := k) (x := mkIop op' k x y) (by rw [mkIop_i, hm]; exact wrap_in k _);rw [mkIop_i] at this; exact this
 unfold sArith at h;split at h
 ·simp only [sme] at h; subst h;refine ⟨_, fitOr_vr hA (by rw [mkIop_i, E.add_i]; rfl), fin _ fun w => ?_⟩;rw [E.add_i]; simp [binOp, Op.intArith]
 ·simp only [sme] at h; subst h;refine ⟨_, fitOr_vr hA (by rw [mkIop_i, E.sub_i]; rfl), fin _ fun w => ?_⟩;rw [E.sub_i]; simp [binOp, Op.intArith]
 ·simp only [sme] at h; subst h;refine ⟨_, fitOr_vr hA (by rw [mkIop_i, E.mul_i]; rfl), fin _ fun w => ?_⟩;rw [E.mul_i]; simp [binOp, Op.intArith]
 ·split at h
  ·rename_i hn;have hn := neq0_val hA hn;simp only [sme] at h; subst h;exact ⟨_, wr .quo fun _ => ⟨_, rfl⟩, fin _ fun w => by simp [binOp, Op.intDiv, hn, iopI]⟩
  ·cases h
 ·split at h
  ·rename_i hn;have hn := neq0_val hA hn;simp only [sme] at h; subst h;have := mkS_vr (e := e) (k := k) (x := mkIop .rem k x y) (by rw [mkIop_i]; exact tmod_in hx);rw [mkIop_i] at this;exact ⟨_, this, fin _ fun w => by simp [binOp, Op.intDiv, hn, iopI]⟩
  ·cases h
 ·simp only [sme] at h; subst h;exact ⟨_, wr .and fun _ => ⟨_, rfl⟩, fin _ fun w => by simp [binOp, Op.intBits, iopI]⟩
 ·simp only [sme] at h; subst h;exact ⟨_, wr .or fun _ => ⟨_, rfl⟩, fin _ fun w => by simp [binOp, Op.intBits, iopI]⟩
 ·simp only [sme] at h; subst h;exact ⟨_, wr .xor fun _ => ⟨_, rfl⟩, fin _ fun w => by simp [binOp, Op.intBits, iopI]⟩
 ·simp only [sme] at h; subst h;exact ⟨_, wr .andNot fun _ => ⟨_, rfl⟩, fin _ fun w => by simp [binOp, Op.intBits, iopI]⟩
 all_goals first
  | (cases h; done)
  | skip
 ·split at h
  ·rename_i b hq;simp only [sme] at h; subst h;have := askQ_val hA hq;simp only [Q.val] at this;exact ⟨_, by simp only [VR]; rfl, fin _ fun w => by simp [binOp, Op.intCmp, ← this, ibeq]⟩
  ·cases h
 ·split at h
  ·rename_i b hq;simp only [sme] at h; subst h;have := askQ_val hA hq;simp only [Q.val] at this;exact ⟨_, by simp only [VR]; rfl, fin _ fun w => by simp [binOp, Op.intCmp, ← this, bne, ibeq]⟩
  ·cases h
 ·split at h
  ·rename_i b hq;simp only [sme] at h; subst h;have := askQ_val hA hq;simp only [Q.val] at this;refine ⟨_, by simp only [VR]; rfl, fin _ fun w => ?_⟩;rw [← this];simp only [binOp, Op.intCmp, ne_eq, not_true_eq_false, if_false, Sem.run_pure];congr 2;rw [Bool.eq_iff_iff]; simp
  ·cases h
 ·split at h
  ·rename_i b hq;simp only [sme] at h; subst h;have := askQ_val hA hq;simp only [Q.val] at this;exact ⟨_, by simp only [VR]; rfl, fin _ fun w => by simp [binOp, Op.intCmp, ← this]⟩
  ·cases h
 ·split at h
  ·rename_i b hq;simp only [sme] at h; subst h;have := askQ_val hA hq;simp only [Q.val] at this;refine ⟨_, by simp only [VR]; rfl, fin _ fun w => ?_⟩;rw [← this];simp only [binOp, Op.intCmp, ne_eq, not_true_eq_false, if_false, Sem.run_pure];congr 2;rw [Bool.eq_iff_iff]; simp
  ·cases h
 ·split at h
  ·rename_i b hq;simp only [sme] at h; subst h;have := askQ_val hA hq;simp only [Q.val] at this;exact ⟨_, by simp only [VR]; rfl, fin _ fun w => by simp [binOp, Op.intCmp, ← this]⟩
  ·cases h

def sShift (A : Ask) (op : BinOp) (k : IntKind) (x y : E) : Option AV :=
 match ge0 A y with
 | true => match op with
  | .shl => some (mkS k (mkIop .shl k x y))
  | .shr => some (mkS k (mkIop .shr k x y))
  | _ => none
 | false => none

theorem sShift_run {P : Program} {e : Env} {A : Ask} (hA : AskOK e.opq A) {op : BinOp} {k yk : IntKind} {x y : E} {v : AV} (h : sShift A op k x y = some v) (hx : inK k (x.i e.opq)) (t : TypeId) (xo yo : Operand) :
  ∃ z, VR e v z ∧ ∀ w, (do eqGuard op t xo yo (.int k (x.i e.opq)) (.int yk (y.i e.opq)); binOp op t (.int k (x.i e.opq)) (.int yk (y.i e.opq)) : Sem Value).run P w = .ok z w := by
 unfold sShift at h;split at h
 ·rename_i h0;have h0 := ge0_val hA h0;have hn : ¬ y.i e.opq < 0 := by omega
  split at h
  ·simp only [sme] at h; subst h;have := mkS_vr (e := e) (k := k) (x := mkIop .shl k x y) (by rw [mkIop_i]; exact wrap_in k _);rw [mkIop_i] at this;exact ⟨_, this, fun w => by simp [eqGuard, binOp, Op.shift, hn, iopI]⟩
  ·simp only [sme] at h; subst h;have := mkS_vr (e := e) (k := k) (x := mkIop .shr k x y) (by rw [mkIop_i]; exact shr_in _ hx);rw [mkIop_i] at this;exact ⟨_, this, fun w => by simp [eqGuard, binOp, Op.shift, hn, iopI]⟩
  ·cases h
 ·cases h

def sNeg (A : Ask) (op : UnOp) (k : IntKind) (x : E) : Option AV :=
 match op with
 | .neg => some (fitOr A k ((E.int 0).sub x) (mkIop .sub k (.int 0) x))
 | .xor => some (mkS k (mkIop .xor k (.int (if k.signed then -1 else k.max)) x))
 | _ => none

theorem sNeg_run {P : Program} {e : Env} {A : Ask} (hA : AskOK e.opq A) {op : UnOp} {k : IntKind} {x : E} {v : AV} (h : sNeg A op k x = some v) :
  ∃ z, VR e v z ∧ ∀ w, (Op.unary op (.int k (x.i e.opq))).run P w = .ok z w := by
 unfold sNeg at h;split at h
 ·simp only [sme] at h; subst h;refine ⟨_, fitOr_vr hA (by rw [mkIop_i, E.sub_i]; rfl), fun w => ?_⟩;rw [E.sub_i]; simp [Op.unary, Op.intArith, E.i, E.den]
 ·simp only [sme] at h; subst h;have := mkS_vr (e := e) (k := k) (x := mkIop .xor k (.int (if k.signed then -1 else k.max)) x) (by rw [mkIop_i]; exact wrap_in k _);rw [mkIop_i] at this;exact ⟨_, this, fun w => by simp [Op.unary, Op.intBits, iopI, E.i, E.den]⟩
 ·cases h

def sConv (A : Ask) (k2 k1 : IntKind) (x : E) : AV :=
 match decide (k2.min ≤ k1.min) && decide (k1.max ≤ k2.max) with
 | true => mkS k2 x
 | false => fitOr A k2 x (mkWrap k2 x)

theorem sConv_vr {e : Env} {A : Ask} (hA : AskOK e.opq A) {k2 k1 : IntKind} {x : E} (hx : inK k1 (x.i e.opq)) : VR e (sConv A k2 k1 x) (.int k2 (k2.wrap (x.i e.opq))) := by
 unfold sConv;split
 ·rename_i h;simp only [bae, decide_eq_true_eq] at h;have hi : inK k2 (x.i e.opq) := ⟨Int.le_trans h.1 hx.1, Int.le_trans hx.2 h.2⟩
  rw [wrap_fit hi];exact mkS_vr hi
 ·exact fitOr_vr hA (mkWrap_i _ _ _)

theorem strOf_data : ∀ (l : List Int), (strOf l).data.toList = l.map fun n => UInt8.ofNat n.toNat := by
 have key : ∀ (l : List Int) (b : ByteArray), (l.foldl (fun r n => r.push (UInt8.ofNat n.toNat)) b).data.toList = b.data.toList ++ l.map fun n => UInt8.ofNat n.toNat := by
  intro l;induction l with
  | nil => intro b; simp
  | cons a l ih => intro b; rw [List.foldl_cons, ih]; simp
 intro l;rw [strOf, key]; simp

theorem strOf_size (l : List Int) : (strOf l).size = l.length := by
 have := congrArg List.length (strOf_data l);simpa using this

theorem bytes_ext {a b : ByteArray} (h : a.data.toList = b.data.toList) : a = b := by
 cases a; cases b;simp only at h;rw [Array.toList_inj.1 h]

def strE (s : ByteArray) : List Int := s.data.toList.map fun b => (b.toNat : Int)

theorem strOf_strE (s : ByteArray) : strOf (strE s) = s := by
 refine bytes_ext ?_;rw [strOf_data, strE, List.map_map];conv => rhs; rw [← List.map_id s.data.toList]
 refine List.map_congr_left fun b _ => ?_
 simp

theorem u8_toNat {c : Int} (h : inK .u8 c) : ((UInt8.ofNat c.toNat).toNat : Int) = c := by
 have h1 : 0 ≤ c := h.1;have h2 : c ≤ 255 := h.2;have : c.toNat < 256 := by omega
 rw [UInt8.toNat_ofNat'];simp only [Nat.reducePow];rw [Nat.mod_eq_of_lt this];omega

theorem strE_in (s : ByteArray) : ∀ c ∈ strE s, inK .u8 c := by
 intro c hc;simp only [strE, List.mem_map] at hc;obtain ⟨b, _, rfl⟩ := hc;have := b.toNat_lt;exact ⟨by simp [IntKind.min, IntKind.signed], by simp [IntKind.max, IntKind.signed, IntKind.bits]; omega⟩

theorem strE_strOf {l : List Int} (h : ∀ c ∈ l, inK .u8 c) : strE (strOf l) = l := by
 rw [strE, strOf_data, List.map_map];conv => rhs; rw [← List.map_id l]
 exact List.map_congr_left fun c hc => u8_toNat (h c hc)

theorem strOf_inj {l m : List Int} (h1 : ∀ c ∈ l, inK .u8 c) (h2 : ∀ c ∈ m, inK .u8 c) (h : strOf l = strOf m) : l = m := by
 rw [← strE_strOf h1, ← strE_strOf h2, h]

def toS : AV → Option (E × E)
 | .str s => some (.int s.size, .lits (strE s))
 | .sstr n x => some (n, x)
 | _ => none

theorem toS_val {e : Env} {v : AV} {n x : E} (h : toS v = some (n, x)) {a : Value} (hv : VR e v a) : a = .string (strOf (x.s e.opq)) ∧ n.i e.opq = (x.s e.opq).length ∧ ∀ c ∈ x.s e.opq, inK .u8 c := by
 unfold toS at h;split at h
 ·rename_i s;simp only [sme, pme] at h;obtain ⟨rfl, rfl⟩ := h;simp only [VR] at hv;have e1 : (E.lits (strE s)).s e.opq = strE s := by simp [E.s, E.den]
  rw [e1, strOf_strE];exact ⟨hv, by simp [E.i, E.den, strE], strE_in s⟩
 ·simp only [sme, pme] at h;obtain ⟨rfl, rfl⟩ := h;simpa only [VR] using hv
 ·cases h

def mkCut (x n lo hi : E) : E := match lo, hi.beq n with
 | .int 0, true => x
 | lo, _ => .tr .cut x lo hi

theorem ints_take_drop (d : D) (a b : Nat) : D.ints (.list ((d.toList.take b).drop a)) = (d.ints.take b).drop a := by
 simp [D.ints, List.map_drop, List.map_take]

theorem mkCut_s {Ω : Om} {x n lo hi : E} (hn : n.i Ω = (x.s Ω).length) : (mkCut x n lo hi).s Ω = ((x.s Ω).take (hi.n Ω)).drop (lo.n Ω) := by
 unfold mkCut;split
 ·rename_i h;have := E.beq_eq h;subst this;have : hi.n Ω = (x.s Ω).length := by
   simp only [E.n, D.nat];simp only [E.i] at hn;rw [hn]; simp
  rw [this];simp [E.n, E.den, D.nat]
 ·simp only [E.s, E.den, TO.den, ints_take_drop]; rfl

def mkApp (x y : E) : E := match x, y with
 | .lits [], y => y
 | x, .lits [] => x
 | .lits l, .lits m => .lits (l ++ m)
 | x, y => .bi .app x y
theorem mkApp_s (Ω : Om) (x y : E) : (mkApp x y).s Ω = x.s Ω ++ y.s Ω := by
 unfold mkApp;split
 ·simp [E.s, E.den]
 ·simp [E.s, E.den]
 ·simp [E.s, E.den]
 ·simp [E.s, E.den, BO.den, D.ints]

def sStr (A : Ask) (op : BinOp) (n x m y : E) : Option AV :=
 match op with
 | .eql => match askQ A (.same x y) with
  | some b => some (.bool b)
  | none => none
 | .neq => match askQ A (.same x y) with
  | some b => some (.bool (!b))
  | none => none
 | .lss => match askQ A (.less x y) with
  | some b => some (.bool b)
  | none => none
 | .geq => match askQ A (.less x y) with
  | some b => some (.bool (!b))
  | none => none
 | .gtr => match askQ A (.less y x) with
  | some b => some (.bool b)
  | none => none
 | .leq => match askQ A (.less y x) with
  | some b => some (.bool (!b))
  | none => none
 | .add => match leB A (n.add m) (.int 9223372036854775807) with
  | true => some (.sstr (n.add m) (mkApp x y))
  | false => none
 | _ => none

theorem u8_lt {a b : Int} (ha : inK .u8 a) (hb : inK .u8 b) : decide (UInt8.ofNat a.toNat < UInt8.ofNat b.toNat) = decide (a < b) := by
 have h1 := u8_toNat ha;have h2 := u8_toNat hb;rw [Bool.eq_iff_iff];simp only [decide_eq_true_eq, UInt8.lt_iff_toNat_lt];omega
theorem u8_eq {a b : Int} (ha : inK .u8 a) (hb : inK .u8 b) : (UInt8.ofNat a.toNat == UInt8.ofNat b.toNat) = decide (a = b) := by
 have h1 := u8_toNat ha;have h2 := u8_toNat hb;rw [Bool.eq_iff_iff];simp only [beq_iff_eq, decide_eq_true_eq];constructor
 ·intro h; rw [h] at h1; omega
 ·intro h; rw [h]

theorem bytesLess_eq : ∀ {l m : List Int}, (∀ c ∈ l, inK .u8 c) → (∀ c ∈ m, inK .u8 c) → Op.bytesLess (l.map fun n => UInt8.ofNat n.toNat) (m.map fun n => UInt8.ofNat n.toNat) = ltInts l m
 | l, [], _, _ => by cases l <;> simp [Op.bytesLess, ltInts]
 | [], b :: m, _, _ => by simp [Op.bytesLess, ltInts]
 | a :: l, b :: m, h1, h2 => by
  simp only [List.map_cons, Op.bytesLess, ltInts];rw [u8_lt (h1 a (by simp)) (h2 b (by simp)), u8_eq (h1 a (by simp)) (h2 b (by simp)), bytesLess_eq (fun c hc => h1 c (by simp [hc])) (fun c hc => h2 c (by simp [hc]))]

theorem ltInts_total : ∀ {l m : List Int}, ltInts l m = false → ltInts m l = false → l = m
 | [], [], _, _ => rfl
 | [], _ :: _, h, _ => by simp [ltInts] at h
 | _ :: _, [], _, h => by simp [ltInts] at h
 | a :: l, b :: m, h1, h2 => by
  simp only [ltInts, Bool.or_eq_false_iff, decide_eq_false_iff_not, Bool.and_eq_false_iff] at h1 h2;have e1 : a = b := by omega
  subst e1;simp only [not_true_eq_false, false_or] at h1 h2;rw [ltInts_total h1.2 h2.2]

theorem ltInts_irr : ∀ (l : List Int), ltInts l l = false
 | [] => rfl
 | a :: l => by simp [ltInts, ltInts_irr l]

theorem ltInts_asymm : ∀ {l m : List Int}, ltInts l m = true → ltInts m l = false
 | _, [], h => by simp [ltInts] at h
 | [], _ :: _, _ => by simp [ltInts]
 | a :: l, b :: m, h => by
  simp only [ltInts, Bool.or_eq_true, decide_eq_true_eq, bae] at h;simp only [ltInts, Bool.or_eq_false_iff, decide_eq_false_iff_not, Bool.and_eq_false_iff];rcases h with h | ⟨h1, h2⟩
  ·exact ⟨by omega, .inl (by omega)⟩
  ·exact ⟨by omega, .inr (ltInts_asymm h2)⟩

theorem sStr_run {P : Program} {e : Env} {A : Ask} (hA : AskOK e.opq A) {op : BinOp} {n x m y : E} {v : AV} (h : sStr A op n x m y = some v)
  (hn : n.i e.opq = (x.s e.opq).length) (hx : ∀ c ∈ x.s e.opq, inK .u8 c) (hm : m.i e.opq = (y.s e.opq).length) (hy : ∀ c ∈ y.s e.opq, inK .u8 c) (t : TypeId) (xo yo : Operand) :
  ∃ z, VR e v z ∧ ∀ w, (do eqGuard op t xo yo (.string (strOf (x.s e.opq))) (.string (strOf (y.s e.opq))); binOp op t (.string (strOf (x.s e.opq))) (.string (strOf (y.s e.opq))) : Sem Value).run P w = .ok z w := by
 have guard : ∀ w, (eqGuard op t xo yo (.string (strOf (x.s e.opq))) (.string (strOf (y.s e.opq)))).run P w = .ok () w := by intro w; cases op <;> simp [eqGuard]
 have fin : ∀ z, (Op.stringOp op (strOf (x.s e.opq)) (strOf (y.s e.opq))) = pure z → ∀ w, (do eqGuard op t xo yo (.string (strOf (x.s e.opq))) (.string (strOf (y.s e.opq))); binOp op t (.string (strOf (x.s e.opq))) (.string (strOf (y.s e.opq))) : Sem Value).run P w = .ok z w := by
  intro z hz w;rw [Sem.run_bind, guard w];simp only [Result.andThen_ok];have : binOp op t (.string (strOf (x.s e.opq))) (.string (strOf (y.s e.opq))) = Op.stringOp op (strOf (x.s e.opq)) (strOf (y.s e.opq)) := by cases op <;> rfl
  rw [this, hz]; rfl
 have tl : ∀ s : ByteArray, s.toList = s.data.toList := fun s => ByteArray.toList_eq s
 have heq : ((strOf (x.s e.opq)).toList == (strOf (y.s e.opq)).toList) = decide (x.s e.opq = y.s e.opq) := by
  rw [Bool.eq_iff_iff];simp only [beq_iff_eq, decide_eq_true_eq, tl];constructor
  ·intro h; exact strOf_inj hx hy (bytes_ext h)
  ·intro h; rw [h]
 have hlt : ∀ a b : E, (∀ c ∈ a.s e.opq, inK .u8 c) → (∀ c ∈ b.s e.opq, inK .u8 c) → Op.bytesLess (strOf (a.s e.opq)).toList (strOf (b.s e.opq)).toList = ltInts (a.s e.opq) (b.s e.opq) := by
  intro a b ha hb;rw [tl, tl, strOf_data, strOf_data, bytesLess_eq ha hb]
 have hleq : (ltInts (x.s e.opq) (y.s e.opq) || decide (x.s e.opq = y.s e.opq)) = !(ltInts (y.s e.opq) (x.s e.opq)) := by
  cases h1 : ltInts (y.s e.opq) (x.s e.opq)
  ·cases h2 : ltInts (x.s e.opq) (y.s e.opq)
   ·simp [ltInts_total h2 h1]
   ·rfl
  ·have h2 := ltInts_asymm h1;have : x.s e.opq ≠ y.s e.opq := by intro x; rw [x, ltInts_irr] at h1; cases h1
   simp [h2, this]
 unfold sStr at h;split at h
 ·split at h
  ·rename_i b hq;simp only [sme] at h; subst h;have := askQ_val hA hq;simp only [Q.val] at this;exact ⟨_, by simp only [VR]; rfl, fin _ (by simp only [Op.stringOp, heq, this])⟩
  ·cases h
 ·split at h
  ·rename_i b hq;simp only [sme] at h; subst h;have := askQ_val hA hq;simp only [Q.val] at this;exact ⟨_, by simp only [VR]; rfl, fin _ (by simp only [Op.stringOp, heq, this])⟩
  ·cases h
 ·split at h
  ·rename_i b hq;simp only [sme] at h; subst h;have := askQ_val hA hq;simp only [Q.val] at this;exact ⟨_, by simp only [VR]; rfl, fin _ (by simp only [Op.stringOp, hlt x y hx hy, this])⟩
  ·cases h
 ·split at h
  ·rename_i b hq;simp only [sme] at h; subst h;have := askQ_val hA hq;simp only [Q.val] at this;exact ⟨_, by simp only [VR]; rfl, fin _ (by simp only [Op.stringOp, hlt x y hx hy, this])⟩
  ·cases h
 ·split at h
  ·rename_i b hq;simp only [sme] at h; subst h;have := askQ_val hA hq;simp only [Q.val] at this;exact ⟨_, by simp only [VR]; rfl, fin _ (by simp only [Op.stringOp, hlt x y hx hy, heq, hleq, this, Bool.not_not])⟩
  ·cases h
 ·split at h
  ·rename_i b hq;simp only [sme] at h; subst h;have := askQ_val hA hq;simp only [Q.val] at this;exact ⟨_, by simp only [VR]; rfl, fin _ (by simp only [Op.stringOp, hlt x y hx hy, heq, hleq, this])⟩
  ·cases h
 ·split at h
  ·rename_i hl;simp only [sme] at h; subst h;have hl := leB_val hA hl;rw [E.add_i, hn, hm] at hl;have hl : ((x.s e.opq).length : Int) + (y.s e.opq).length ≤ 9223372036854775807 := hl;refine ⟨.string (strOf (x.s e.opq ++ y.s e.opq)), ?_, fin _ ?_⟩
   ·simp only [VR];rw [mkApp_s];refine ⟨rfl, by rw [E.add_i, hn, hm]; simp, fun c hc => ?_⟩;rcases List.mem_append.1 hc with hc | hc
    ·exact hx c hc
    ·exact hy c hc
   ·have hmax : IntKind.i64.max = 9223372036854775807 := by decide
    have : ¬ (((strOf (x.s e.opq)).size + (strOf (y.s e.opq)).size : Nat) : Int) > IntKind.i64.max := by
     rw [strOf_size, strOf_size, hmax]; omega
    simp only [Op.stringOp, this, if_false];congr 2;refine bytes_ext ?_;rw [strOf_data];simp [strOf_data]
  ·cases h
 ·cases h

mutual
def eqT (P : Program) (A : Ask) : Nat → TypeId → AV → AV → Option Bool
 | 0, _, _, _ => none
 | n + 1, t, a, b => match P.underlying t with
  | some (.int _) => match toE a, toE b with
   | some (k, x), some (l, y) => match decide (k = l) with
    | true => askQ A (.eq x y)
    | false => none
   | _, _ => none
  | some .bool => match a, b with
   | .bool p, .bool q => some (p == q)
   | _, _ => none
  | some .string => match toS a, toS b with
   | some (_, x), some (_, y) => askQ A (.same x y)
   | _, _ => none
  | some (.struct fs) => match P.stoodInHeld t with
   | false => match a, b with
    | .agg xs, .agg ys => eqF P A n fs.toList xs ys
    | _, _ => none
   | true => none
  | some (.array len el) => match P.info? el with
   | some _ => match a, b with
    | .agg xs, .agg ys => eqI P A n el (P.cellsOf el) (List.range len) xs ys
    | _, _ => none
   | none => none
  | _ => none
def eqF (P : Program) (A : Ask) : Nat → List Field → List AV → List AV → Option Bool
 | 0, _, _, _ => none
 | _ + 1, [], _, _ => some true
 | n + 1, f :: fs, xs, ys => match f.name == "_" with
  | true => eqF P A n fs xs ys
  | false => match partA P f.type xs f.offset, partA P f.type ys f.offset with
   | some u, some v => match eqT P A n f.type u v with
    | some true => eqF P A n fs xs ys
    | r => r
   | _, _ => none
def eqI (P : Program) (A : Ask) : Nat → TypeId → Nat → List Nat → List AV → List AV → Option Bool
 | 0, _, _, _, _, _ => none
 | _ + 1, _, _, [], _, _ => some true
 | n + 1, el, c, i :: is, xs, ys => match partA P el xs (i * c), partA P el ys (i * c) with
  | some u, some v => match eqT P A n el u v with
   | some true => eqI P A n el c is xs ys
   | r => r
  | _, _ => none
end

section
variable {P : Program} {e : Env} {A : Ask}
mutual
theorem eqT_run (hA : AskOK e.opq A) : ∀ (n : Nat) (t : TypeId) (a b : AV) (r : Bool), eqT P A n t a b = some r → ∀ {x y : Value}, VR e a x → VR e b y → ∀ d, n ≤ d → ∀ w, (Op.equalIn d t x y).run P w = .ok r w
 | 0, _, _, _, _, h, _, _, _, _, _, _, _ => by simp [eqT] at h
 | n + 1, t, a, b, r, h, x, y, hx, hy, d, hd, w => by
  obtain ⟨d, rfl⟩ : ∃ d', d = d' + 1 := ⟨d - 1, by omega⟩
  unfold eqT at h;split at h
  ·rename_i kk hu;split at h
   ·rename_i k x1 l y1 h1 h2;split at h
    ·rename_i hk;obtain rfl := of_decide_eq_true hk;obtain ⟨rfl, _⟩ := toE_val h1 hx;obtain ⟨rfl, _⟩ := toE_val h2 hy;rw [run_equalIn_int w d t k kk _ _ hu];have := askQ_val hA h;simp only [Q.val] at this;rw [ibeq, this]
    ·cases h
   ·cases h
  ·rename_i hu;split at h
   ·rename_i p q;simp only [sme] at h;simp only [VR] at hx hy;subst hx hy h;exact run_equalIn_bool' w d t p q hu
   ·cases h
  ·rename_i hu;split at h
   ·rename_i n1 x1 n2 y1 h1 h2;obtain ⟨rfl, _, r1⟩ := toS_val h1 hx;obtain ⟨rfl, _, r2⟩ := toS_val h2 hy;rw [run_equalIn_string w d t _ _ hu];have := askQ_val hA h;simp only [Q.val] at this;congr 1;rw [ByteArray.toList_eq, ByteArray.toList_eq, ← this, Bool.eq_iff_iff];simp only [beq_iff_eq, decide_eq_true_eq];constructor
    ·intro h; exact strOf_inj r1 r2 (bytes_ext h)
    ·intro h; rw [h]
   ·cases h
  ·rename_i fs hu;split at h
   ·rename_i hst;split at h
    ·rename_i xs ys;simp only [VR] at hx hy;obtain ⟨as, rfl, hxs⟩ := hx;obtain ⟨bs, rfl, hys⟩ := hy;have hf : P.fieldsOf t = fs := by simp [Program.fieldsOf, hu]
     rw [run_equalIn_struct w d t as bs (by rw [hf]; exact hu) hst, hf];exact eqF_run hA n fs.toList xs ys r h hxs hys d (by omega) w
    ·cases h
   ·cases h
  ·rename_i len el hu;split at h
   ·rename_i i hi;split at h
    ·rename_i xs ys;simp only [VR] at hx hy;obtain ⟨as, rfl, hxs⟩ := hx;obtain ⟨bs, rfl, hys⟩ := hy;rw [run_equalIn_array w d as bs hu hi];exact eqI_run hA n el (P.cellsOf el) (List.range len) xs ys r h hxs hys d (by omega) w
    ·cases h
   ·cases h
  ·cases h
theorem eqF_run (hA : AskOK e.opq A) : ∀ (n : Nat) (fs : List Field) (xs ys : List AV) (r : Bool), eqF P A n fs xs ys = some r → ∀ {as bs : Array Value}, VRs e xs as.toList → VRs e ys bs.toList → ∀ d, n ≤ d → ∀ w, (Op.eqFields d as bs fs).run P w = .ok r w
 | 0, _, _, _, _, h, _, _, _, _, _, _, _ => by simp [eqF] at h
 | _ + 1, [], _, _, r, h, _, _, _, _, d, hd, w => by
  simp only [eqF, sme] at h;subst h;simp [Op.eqFields]
 | n + 1, f :: fs, xs, ys, r, h, as, bs, hx, hy, d, hd, w => by
  simp only [eqF] at h;split at h
  ·rename_i hname;have hname : f.name = "_" := by simpa using hname
   simp only [Op.eqFields, hname, ne_eq, not_true_eq_false, if_false];exact eqF_run hA n fs xs ys r h hx hy d (by omega) w
  ·rename_i hname;have hname : f.name ≠ "_" := by simpa using hname
   split at h
   ·rename_i u v hu hv;obtain ⟨p, hp, hpr⟩ := partA_run (P := P) hu hx;obtain ⟨q, hq, hqr⟩ := partA_run (P := P) hv hy;simp only [Op.eqFields, hname, ne_eq, not_false_eq_true, if_true, Sem.run_bind, hpr w, hqr w, Result.andThen_ok];split at h
    ·rename_i hr;rw [eqT_run hA n f.type u v true hr hp hq d (by omega) w];simp only [Result.andThen_ok, Bool.not_true, Bool.false_eq_true, if_false];exact eqF_run hA n fs xs ys r h hx hy d (by omega) w
    ·rename_i hr;rw [eqT_run hA n f.type u v r h hp hq d (by omega) w];cases r
     ·simp
     ·exact (hr h).elim
   ·cases h
theorem eqI_run (hA : AskOK e.opq A) : ∀ (n : Nat) (el : TypeId) (c : Nat) (is : List Nat) (xs ys : List AV) (r : Bool), eqI P A n el c is xs ys = some r → ∀ {as bs : Array Value}, VRs e xs as.toList → VRs e ys bs.toList → ∀ d, n ≤ d → ∀ w, (Op.eqItems d el c as bs is).run P w = .ok r w
 | 0, _, _, _, _, _, _, h, _, _, _, _, _, _, _ => by simp [eqI] at h
 | _ + 1, _, _, [], _, _, r, h, _, _, _, _, d, hd, w => by
  simp only [eqI, sme] at h;subst h;simp [Op.eqItems]
 | n + 1, el, c, i :: is, xs, ys, r, h, as, bs, hx, hy, d, hd, w => by
  simp only [eqI] at h;split at h
  ·rename_i u v hu hv;obtain ⟨p, hp, hpr⟩ := partA_run (P := P) hu hx;obtain ⟨q, hq, hqr⟩ := partA_run (P := P) hv hy;simp only [Op.eqItems, Sem.run_bind, hpr w, hqr w, Result.andThen_ok];split at h
   ·rename_i hr;rw [eqT_run hA n el u v true hr hp hq d (by omega) w];simp only [Result.andThen_ok, Bool.not_true, Bool.false_eq_true, if_false];exact eqI_run hA n el c is xs ys r h hx hy d (by omega) w
   ·rename_i hr;rw [eqT_run hA n el u v r h hp hq d (by omega) w];cases r
    ·simp
    ·exact (hr h).elim
  ·cases h
end
end

def sAgg (P : Program) (A : Ask) (op : BinOp) (t : TypeId) (xs ys : List AV) : Option AV :=
 match P.eqGuardType P.depth t with
 | false => match eqT P A 1000 t (.agg xs) (.agg ys) with
  | some b => match op with
   | .eql => some (.bool b)
   | .neq => some (.bool (!b))
   | _ => none
  | none => none
 | true => none

theorem sAgg_run {P : Program} {e : Env} {A : Ask} (hA : AskOK e.opq A) {op : BinOp} {t : TypeId} {xs ys : List AV} {v : AV} (h : sAgg P A op t xs ys = some v) {x y : Value} (hx : VR e (.agg xs) x) (hy : VR e (.agg ys) y) (xo yo : Operand) :
  ∃ z, VR e v z ∧ ∀ w, (do eqGuard op t xo yo x y; binOp op t x y : Sem Value).run P w = .ok z w := by
 unfold sAgg at h;split at h
 ·rename_i hg;split at h
  ·rename_i b hb;have hr := eqT_run (P := P) hA 1000 t _ _ b hb hx hy;simp only [VR] at hx hy;obtain ⟨as, rfl, _⟩ := hx;obtain ⟨bs, rfl, _⟩ := hy;split at h
   ·simp only [sme] at h; subst h;refine ⟨_, by simp only [VR]; rfl, fun w => ?_⟩;rw [Sem.run_bind, run_eqGuard_agg w _ t xo yo as bs hg, Result.andThen_ok, run_eql_struct, hr 10000 (by omega) w]; rfl
   ·simp only [sme] at h; subst h;refine ⟨_, by simp only [VR]; rfl, fun w => ?_⟩;rw [Sem.run_bind, run_eqGuard_agg w _ t xo yo as bs hg, Result.andThen_ok, run_neq_struct, hr 10000 (by omega) w]; rfl
   ·cases h
  ·cases h
 ·cases h

end Go.Ev
