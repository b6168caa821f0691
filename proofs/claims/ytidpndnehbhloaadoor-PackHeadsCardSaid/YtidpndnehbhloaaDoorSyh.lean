/- An evaluator of the model's code over abstract states, and its soundness: part 8: copy, a text's bytes; every acting operation. No condition. -/
import Derived.Test.YtidpndnehbhloaaDoorSyg
namespace Go.Ev
open Go.RowKit

def strBytesB (P : Program) (s : St) (src dst : TypeId) (x : AV) : Option (AV × St) :=
 match P.underlying src, P.underlying dst, x with
 | some .string, some (.slice el), .str t => match P.underlying el with
  | some (.int .u8) => match Nat.ble (2 * t.size) 4611686018427387904 with
   | true => some (.slice s.nid 0 t.size t.size true, s.new (AB.ofOpen el 1 true (some .u8) (t.data.toList.map fun b => .int .u8 b.toNat)))
   | false => none
  | _ => none
 | _, _, _ => none

theorem bytesWorld_below (w : World) (el : TypeId) (t : ByteArray) : Below w.heap.size w (Lib.bytesWorld w el t) := by
 refine ⟨?_, ?_, ?_, by rw [Lib.bytesWorld_size]; omega, fun j hj => Lib.bytesWorld_at_old w el t j hj⟩ <;>
  (simp only [Lib.bytesWorld, World.freeze]; split <;> rfl)

theorem strBytesB_run {P : Program} {Ω : Om} {w0 : Base} {e : Env} {s s' : St} {w : World} {src dst : TypeId} {x v : AV} (k : strBytesB P s src dst x = some (v, s')) (h : Rel Ω w0 e s w) {y : Value} (hx : VR e x y) :
  ∃ e' z w', e.le e' ∧ VR e' v z ∧ Rel Ω w0 e' s' w' ∧ (convert src dst y).run P w = .ok z w' := by
 unfold strBytesB at k;split at k
 ·rename_i el t hs hd;split at k
  ·rename_i he;split at k
   ·rename_i hb62;have hb62 := ble_le hb62;simp only [sme, pme] at k;obtain ⟨rfl, rfl⟩ := k;simp only [VR] at hx;subst hx;have hrun := Lib.run_convert_string_bytes (P := P) w src dst el t hs hd he;have hge := grownCap_ge w t.size 0 el;have hle := Env.le_new (s := s) (h.fresh s.next (Nat.le_refl _)) w.heap.size (grownCap w t.size 0 el - t.size);obtain ⟨_, hrel⟩ := h.newAt (w' := Lib.bytesWorld w el t) (AB.ofOpen el 1 true (some .u8) (t.data.toList.map fun b => .int .u8 b.toNat)) w.heap.size (grownCap w t.size 0 el - t.size)
     (h.below_later (bytesWorld_below w el t)).below
     (Base.mine_new h.below) (Lib.bytesWorld_at_new w el t)
     ((vrs_bytes (e := e.new s w.heap.size (grownCap w t.size 0 el - t.size)) t.data.toList).openR (rest := List.replicate (grownCap w t.size 0 el - t.size) (.int .u8 0)) s.nid el 1 true (tk := some .u8) (fun k hk => by
       cases hk;refine ⟨fun v hv => ⟨0, List.eq_of_mem_replicate hv, zero_in _⟩, ?_⟩;have h5 := grownCap_le_maxLen w t.size 0 el (by simp only [maxLen]; omega);simp only [maxLen] at h5;have h6 : (Lib.bytesCells w el t).size = grownCap w t.size 0 el := by simp [Lib.bytesCells]; omega
       omega)
       (by simp [Lib.bytesCells]) (by simp [Env.new, Env.newB]) (fun off hoff => by omega) (fun x => by cases x) (fun _ => rfl))
     (fun id o hid j hj =>
      have := h.loc_lt hid hj
      ⟨by omega, Lib.bytesWorld_at_old w el t j this⟩) (fun j _ hj => Lib.bytesWorld_at_old w el t j (h.pool_lt hj)) (h.pool_new (Nat.le_refl _))
    refine ⟨_, _, _, hle, ?_, hrel, hrun⟩;simp only [VR];exact ⟨w.heap.size, by simp [Env.new, Env.newB], by simp [Env.new, Env.newB]; omega⟩
   ·cases k
  ·cases k
 ·cases k

def strBytesA (P : Program) (s : St) (src dst : TypeId) (x : AV) : Option (AV × St) :=
 match x with
 | .text _ => match P.underlying src, P.underlying dst with
  | some .string, some (.slice el) => match P.underlying el with
   | some (.int .u8) => some (.any, s)
   | _ => none
  | _, _ => none
 | .slice id off len cap opn => match Nat.beq src dst with
  | true => match P.underlying src, s.row id with
   | some (.slice el), some b => match P.underlying el with
    | some (.int .u8) => some (.slice id off len cap opn, s.setRow id { b with str := true })
    | _ => none
   | _, _ => none
  | false => none
 | x => strBytesB P s src dst x

theorem strBytesA_run {P : Program} {Ω : Om} {w0 : Base} {e : Env} {s s' : St} {w : World} {src dst : TypeId} {x v : AV} (k : strBytesA P s src dst x = some (v, s')) (h : Rel Ω w0 e s w) {y : Value} (hx : VR e x y) :
  ∃ e' z w', e.le e' ∧ VR e' v z ∧ Rel Ω w0 e' s' w' ∧ (convert src dst y).run P w = .ok z w' := by
 unfold strBytesA at k;split at k
 ·rename_i i;split at k
  ·rename_i el hs hd;split at k
   ·rename_i he;simp only [sme, pme] at k;obtain ⟨rfl, rfl⟩ := k;simp only [VR] at hx;obtain ⟨t, rfl, _⟩ := hx;have hrun := Lib.run_convert_string_bytes (P := P) w src dst el t hs hd he;refine ⟨e, _, _, Env.le_refl e, ?_, ?_, hrun⟩
    ·simp only [VR]; rfl
    ·exact h.below_later (bytesWorld_below w el t)
   ·cases k
  ·cases k
 ·rename_i id off len cap opn;split at k
  ·rename_i hsd;have hsd : src = dst := by simpa using hsd
   subst hsd;split at k
   ·rename_i el b hs hrow;split at k
    ·rename_i he;simp only [sme, pme] at k;obtain ⟨rfl, rfl⟩ := k;have hb := St.row_some hrow;obtain ⟨kk, arr, fz, hl, hk0, hcell, hR⟩ := h.row id b hb;simp only [VR] at hx;obtain ⟨kb, hkb, rfl⟩ := hx;obtain rfl : kb = kk := by rw [hkb] at hl; exact Option.some.inj hl
     have hlt := (Array.getElem?_eq_some_iff.1 hcell).1;have hsh : w.shape? kb = some (b.elem, arr.size) := by simp [World.shape?, hcell]
     have hnew : (w.freeze ⟨kb, arr.size, none⟩ 1).heap[kb]? = some (.cells arr b.elem (arr.size, arr.size + 1)) := by
      simp only [World.freeze, Nat.one_ne_zero, if_false, Array.getElem?_modify, if_true, hcell, Option.map_some];cases hst : b.str with
      | false => rw [hR.plain hst]; simp
      | true => rw [hR.mark hst]; simp
     have hoth : ∀ j, j ≠ kb → (w.freeze ⟨kb, arr.size, none⟩ 1).heap[j]? = w.heap[j]? := by
      intro j hj;simp only [World.freeze, Nat.one_ne_zero, if_false, Array.getElem?_modify, if_neg (Ne.symm hj)]
     refine ⟨e, .slice (some ⟨kb, off, none⟩) len (cap + if opn then e.spare id else 0), w.freeze ⟨kb, arr.size, none⟩ 1, Env.le_refl e, ?_, h.setRow (b' := { b with str := true }) hb hkb hnew ⟨hR.size, hR.cell, fun o ho => by simp only; omega, (fun x => by cases x), fun _ => rfl, hR.tail⟩ hoth rfl rfl rfl (by simp [World.freeze]), ?_⟩
     ·simp only [VR];exact ⟨kb, hkb, rfl⟩
     ·simp only [convert, Sem.run_bind, run_underlying hs, run_underlying he, Result.andThen_ok, beq_self_eq_true, markStringish, run_shape, hsh, run_freeze, Sem.run_pure]
    ·cases k
   ·cases k
  ·cases k
 ·exact strBytesB_run k h hx

def copySrc (m : Mem) (size : Nat) (dLen : Nat) (x : AV) : Option (Nat × List AV) :=
 match x with
 | .slice id off len _ _ => match readL m id off (Nat.min len dLen * size) with
  | some l => some (Nat.min len dLen, l)
  | none => none
 | .nilslice => some (0, [])
 | .hollow => some (0, [])
 | .empty => some (0, [])
 | .str s => match Nat.beq size 1 with
  | true => some (Nat.min s.size dLen, (s.data.toList.take (Nat.min s.size dLen)).map fun b => .int .u8 b.toNat)
  | false => none
 | _ => none

theorem copySrc_run {P : Program} {e : Env} {m : Mem} {M : World → Prop} (R : Reads P e m M) {size n dLen : Nat} {x : AV} {l : List AV} (k : copySrc m size dLen x = some (n, l)) {y : Value} (hx : VR e x y) :
  ∃ (xs : List Value) (len : Nat), VRs e l xs ∧ Nat.min len dLen = n ∧ (∀ w, (Builtin.lenOf y).run P w = .ok len w) ∧ (∀ w, M w → (Builtin.firstCells size n y).run P w = .ok xs.toArray w) := by
 unfold copySrc at k;split at k
 ·rename_i id off len c opn;split at k
  ·rename_i l' hl;simp only [sme, pme] at k;obtain ⟨rfl, rfl⟩ := k;simp only [VR] at hx;obtain ⟨b, hb, rfl⟩ := hx;obtain ⟨xs, h1, h2, h3⟩ := readL_cells R hb _ _ _ hl;exact ⟨xs, len, h1, rfl, fun w => by simp [Builtin.lenOf], fun w hw => by simp only [Builtin.firstCells]; exact run_loadCells_at w b off _ xs h2 (h3 w hw)⟩
  ·cases k
 ·simp only [sme, pme] at k;obtain ⟨rfl, rfl⟩ := k;simp only [VR] at hx;subst hx;exact ⟨[], 0, VRs_nil, by simp, fun w => by simp [Builtin.lenOf], fun w _ => by simp [Builtin.firstCells]⟩
 ·simp only [sme, pme] at k;obtain ⟨rfl, rfl⟩ := k;simp only [VR] at hx;obtain ⟨ad, c, rfl⟩ := hx;exact ⟨[], 0, VRs_nil, by simp, fun w => by simp [Builtin.lenOf], fun w _ => by simp [Builtin.firstCells, loadCells, loadCellsFrom]⟩
 ·simp only [sme, pme] at k;obtain ⟨rfl, rfl⟩ := k;simp only [VR] at hx;rcases hx with rfl | ⟨ad, c, rfl⟩
  ·exact ⟨[], 0, VRs_nil, by simp, fun w => by simp [Builtin.lenOf], fun w _ => by simp [Builtin.firstCells]⟩
  ·exact ⟨[], 0, VRs_nil, by simp, fun w => by simp [Builtin.lenOf], fun w _ => by simp [Builtin.firstCells, loadCells, loadCellsFrom]⟩
 ·rename_i s;split at k
  ·simp only [sme, pme] at k;obtain ⟨rfl, rfl⟩ := k;simp only [VR] at hx;subst hx;refine ⟨_, s.size, vrs_bytes _, rfl, fun w => by simp [Builtin.lenOf], fun w _ => ?_⟩;simp only [Builtin.firstCells, Sem.run_pure];congr 1;apply Array.ext'
   simp
  ·cases k
 ·cases k

def copyA (P : Program) (s : St) (t : TypeId) (d x : AV) : Option (AV × St) :=
 match P.underlying t with
 | some (.slice el) => match P.info? el with
  | some inf => match d with
   | .slice id off len _ _ => match copySrc s.mem inf.size len x with
    | some (n, l) => match storeL s id off l with
     | some s' => some (.int .i64 n, s')
     | none => none
    | none => none
   | .nilslice => match copySrc s.mem inf.size 0 x with
    | some (n, _) => some (.int .i64 n, s)
    | none => none
   | _ => none
  | none => none
 | _ => none

theorem copyA_run {P : Program} {Ω : Om} {w0 : Base} {e : Env} {s s' : St} {w : World} {t u ty : TypeId} {d x v : AV} (k : copyA P s t d x = some (v, s')) (h : Rel Ω w0 e s w) {d' x' : Value} (hd : VR e d d') (hx : VR e x x') :
  ∃ y w', VR e v y ∧ Rel Ω w0 e s' w' ∧ (Builtin.copy_ #[t, u] ty #[d', x']).run P w = .ok y w' := by
 unfold copyA at k;split at k
 ·rename_i el ht;split at k
  ·rename_i inf hi;split at k
   ·rename_i id off len c opn;split at k
    ·rename_i n l hl;split at k
     ·rename_i s2 hs2;simp only [sme, pme] at k;obtain ⟨rfl, rfl⟩ := k;simp only [VR] at hd;obtain ⟨b, hb, rfl⟩ := hd;obtain ⟨xs, ln, h1, h2, h3, h4⟩ := copySrc_run (h.reads (P := P)) hl hx;obtain ⟨w', hr, hrel⟩ := storeL_ok (P := P) h hb hs2 h1;refine ⟨.int .i64 n, w', by simp only [VR], hrel, ?_⟩;subst h2;simp [Builtin.copy_, run_underlying ht, h3, sizeOf, typeInfo, hi, h4 w rfl, hr, goInt]
     ·cases k
    ·cases k
   ·split at k
    ·rename_i n l hl;simp only [sme, pme] at k;obtain ⟨rfl, rfl⟩ := k;simp only [VR] at hd;subst hd;obtain ⟨xs, ln, h1, h2, h3, h4⟩ := copySrc_run (h.reads (P := P)) hl hx;refine ⟨.int .i64 n, w, by simp only [VR], h, ?_⟩;subst h2;have h4' := h4 w rfl;simp only [Nat.min_zero] at h4';simp [Builtin.copy_, run_underlying ht, h3, sizeOf, typeInfo, hi, h4', goInt]
    ·cases k
   ·cases k
  ·cases k
 ·cases k

inductive En where
 | ret (v : AV)
 | pan (c : List (AV × Bool))

def ChR (e : Env) : List (AV × Bool) → List PanicEntry → Prop
 | [], l => l = []
 | (v, r) :: c, l => ∃ x t, l = { v := x, recovered := r } :: t ∧ VR e v x ∧ ChR e c t

theorem ChR.mono {e e' : Env} (h : e.le e') : ∀ (c : List (AV × Bool)) (l : List PanicEntry), ChR e c l → ChR e' c l
 | [], _, H => H
 | (v, r) :: c, _, H => by
  simp only [ChR] at H ⊢;obtain ⟨x, t, rfl, h1, h2⟩ := H;exact ⟨x, t, rfl, h1.mono h, ChR.mono h c t h2⟩

def EnR (e : Env) : En → Ending → Prop
 | .ret v, .returned x => VR e v x
 | .pan c, .panicked l => ChR e c l
 | _, _ => False

abbrev Caller := FuncId → List AV → St → Option (En × St)

def CallOK (P : Program) (Ω : Om) (w0 : Base) (call : Caller) : Prop :=
 ∀ f args s en s', call f args s = some (en, s') → ∀ e w as, Rel Ω w0 e s w → VRs e args as → Calls P f as.toArray w fun E w' => ∃ e', e.le e' ∧ Rel Ω w0 e' s' w' ∧ EnR e' en E

structure Sound (P : Program) : Prop where
 mixed : P.follows .mixedOrders = true
 names : ∀ (f : FuncId) (fn : Func) (c : Code), P.funcs[f]? = some fn → fn.body = some c → (fn.name == "runtime.NumGoroutine") = false

theorem run_callFunc {P : Program} (S : Sound P) {f : FuncId} {fn : Func} {c : Code} (h : P.funcs[f]? = some fn) (hb : fn.body = some c) (args : Array Value) (w : World) : (callFunc f args).run P w = .ok (.enter f args) w := by
 have hn := S.names f fn c h hb;simp only [callFunc, Sem.run_bind, run_program, Result.andThen_ok, h, hn, hb, Bool.false_eq_true, if_false, Option.isNone_some, Sem.run_pure]

inductive Res where
 | val (v : AV) (s : St)
 | skip (s : St)
 | pan (c : List (AV × Bool)) (s : St)
 | dfr (f : FuncId) (captured args : List AV)

def ofPair : Option (AV × St) → Option Res
 | some (v, s) => some (.val v s)
 | none => none

def bodied (P : Program) (f : FuncId) : Bool :=
 match P.funcs[f]? with
 | some fn => fn.body.isSome
 | none => false

def arithF (op : BinOp) (k : FloatKind) (x y : Nat) : Option (Option Nat) :=
 match op with
 | .add => some (k.format.add x y)
 | .sub => some (k.format.sub x y)
 | .mul => some (k.format.mul x y)
 | .quo => some (k.format.div x y)
 | _ => none

def isArith : BinOp → Bool
 | .add => true
 | .sub => true
 | .mul => true
 | .quo => true
 | _ => false

def nanArith (op : BinOp) : AV → AV → Option FloatKind
 | .nan k, .nan l => match isArith op && sameKind k l with
  | true => some k
  | false => none
 | .nan k, .float l _ => match isArith op && sameKind k l with
  | true => some k
  | false => none
 | .float k _, .nan l => match isArith op && sameKind k l with
  | true => some k
  | false => none
 | .float k x, .float l y => match sameKind k l with
  | true => match arithF op k x y with
   | some none => some k
   | _ => none
  | false => none
 | _, _ => none

theorem arith_nan {f : FloatKind} {op : BinOp} (ho : isArith op = true) {x y : Nat} (h : (f.format.read x).isNaN = true ∨ (f.format.read y).isNaN = true) : arithF op f x y = some none := by
 have hop : ∀ d : Ieee.Datum, d.isNaN = true → ∃ s t, d = .nan s t := fun d hd => by cases d <;> simp_all [Ieee.Datum.isNaN]
 rcases h with h | h
 ·obtain ⟨s, t, hs⟩ := hop _ h;cases op <;> simp only [isArith, Bool.false_eq_true] at ho <;>
   simp [arithF, Ieee.Format.add, Ieee.Format.sub, Ieee.Format.mul, Ieee.Format.div, hs, Ieee.Datum.sum, Ieee.Datum.product, Ieee.Datum.quotient]
 ·obtain ⟨s, t, hs⟩ := hop _ h;cases op <;> simp only [isArith, Bool.false_eq_true] at ho <;>
   cases hx : f.format.read x <;>
   simp [arithF, Ieee.Format.add, Ieee.Format.sub, Ieee.Format.mul, Ieee.Format.div, hs, hx, Ieee.Datum.sum, Ieee.Datum.product, Ieee.Datum.quotient, Ieee.Datum.opposite]

theorem drawn_nan (k : FloatKind) (x y t : Nat) : (k.format.read ((Question.nanBits k x y).cut t)).isNaN = true := by
 cases k
 ·have h2 := Nat.mod_lt (t / 2) (show 0 < 2 ^ 23 - 1 by decide);have h1 := Nat.mod_lt t (show 0 < 2 by decide);simp only [Question.cut];generalize t % 2 = a at *;generalize t / 2 % (2 ^ 23 - 1) = b at *;have hw : FloatKind.format .f32 = Ieee.single := rfl;have : (a * 2 ^ 31 + 0x7f800000 + 1 + b) % 2 ^ 31 = 0x7f800000 + 1 + b := by omega
  have hs : Ieee.single.signWeight = 2 ^ 31 := by decide
  have hb : Ieee.single.binade = 2 ^ 23 := by decide
  have hi : Ieee.single.infRung = 0x7f800000 := by decide
  simp only [hw, Ieee.Format.read, hs, hb, hi, this];rw [if_neg (by omega), if_neg (by omega), if_neg (by omega)];rfl
 ·have h2 := Nat.mod_lt (t / 2) (show 0 < 2 ^ 52 - 1 by decide);have h1 := Nat.mod_lt t (show 0 < 2 by decide);simp only [Question.cut];generalize t % 2 = a at *;generalize t / 2 % (2 ^ 52 - 1) = b at *;have hw : FloatKind.format .f64 = Ieee.double := rfl;have : (a * 2 ^ 63 + 0x7ff0000000000000 + 1 + b) % 2 ^ 63 = 0x7ff0000000000000 + 1 + b := by omega
  have hs : Ieee.double.signWeight = 2 ^ 63 := by decide
  have hb : Ieee.double.binade = 2 ^ 52 := by decide
  have hi : Ieee.double.infRung = 0x7ff0000000000000 := by decide
  simp only [hw, Ieee.Format.read, hs, hb, hi, this];rw [if_neg (by omega), if_neg (by omega), if_neg (by omega)];rfl

theorem nanArith_run {P : Program} {op : BinOp} {v u : AV} {k : FloatKind} (h : nanArith op v u = some k) {e : Env} {x y : Value} (hx : VR e v x) (hy : VR e u y) (xT : TypeId) (a b : Operand) (w : World) :
  ∃ z, VR e (.nan k) z ∧ (do eqGuard op xT a b x y; binOp op xT x y : Sem Value).run P w = .ok z w.drew := by
 have key : ∀ p q, arithF op k p q = some none → ∃ z, VR e (.nan k) z ∧ (do eqGuard op xT a b (.float k p) (.float k q); binOp op xT (.float k p) (.float k q) : Sem Value).run P w = .ok z w.drew := by
  intro p q hpq;refine ⟨.float k ((Question.nanBits k p q).cut (w.tape w.drawn (.nanBits k p q))), ?_, ?_⟩
  ·simp only [VR];exact ⟨_, rfl, drawn_nan _ _ _ _⟩
  ·cases op <;> simp only [arithF, reduceCtorEq, sme] at hpq <;>
    simp [eqGuard, binOp, Op.floatArith, hpq, Question.forced]
 unfold nanArith at h;split at h
 ·split at h
  ·rename_i hk;simp only [bae] at hk;have h3 := sameKind_eq hk.2;simp only [sme] at h;subst h h3;simp only [VR] at hx hy;obtain ⟨p, rfl, hp⟩ := hx;obtain ⟨q, rfl, hq⟩ := hy;exact key p q (arith_nan hk.1 (.inl hp))
  ·cases h
 ·split at h
  ·rename_i hk;simp only [bae] at hk;have h3 := sameKind_eq hk.2;simp only [sme] at h;subst h h3;simp only [VR] at hx hy;obtain ⟨p, rfl, hp⟩ := hx;subst hy;exact key p _ (arith_nan hk.1 (.inl hp))
  ·cases h
 ·split at h
  ·rename_i hk;simp only [bae] at hk;have h3 := sameKind_eq hk.2;simp only [sme] at h;subst h h3;simp only [VR] at hx hy;obtain ⟨q, rfl, hq⟩ := hy;subst hx;exact key _ q (arith_nan hk.1 (.inr hq))
  ·cases h
 ·split at h
  ·rename_i hk;have h3 := sameKind_eq hk;subst h3;split at h
   ·rename_i hn;simp only [sme] at h;subst h;simp only [VR] at hx hy;subst hx hy;exact key _ _ hn
   ·cases h
  ·cases h
 ·cases h

def actA (P : Program) (call : Caller) (t : T AV) (s : St) (o : Oper) : Option Res :=
 match o.op with
 | .alloc el => ofPair (allocA P s el)
 | .box el x => match evalO t x with
  | some v => ofPair (boxA s el v)
  | none => none
 | .buildSlice ty len parts => match evalParts t parts.toList with
  | some ps => ofPair (buildSliceA P s ty len ps)
  | none => none
 | .makeSlice ty l c => match evalO t l, evalO t c with
  | some l, some c => ofPair (makeSliceA P s ty l c)
  | _, _ => none
 | .store ty a x => match evalO t a, evalO t x with
  | some a, some x => (storeA P s ty a x).map .skip
  | _, _ => none
 | .convert src dst x => match evalO t x with
  | some v => ofPair (strBytesA P s src dst v)
  | none => none
 | .panic x => match evalO t x with
  | some (.iface ty v) => some (.pan [(.iface ty v, false)] s)
  | _ => none
 | .call { callee := .builtin .append, args := args, argTypes := tys } => match args.toList, tys.toList with
  | [x, y], [ty, u] => match evalO t x, evalO t y with
   | some a, some b => ofPair (appendA P s ty u a b)
   | _, _ => none
  | _, _ => none
 | .call { callee := .builtin .copy, args := args, argTypes := tys } => match args.toList, tys.toList with
  | [x, y], [ty, _] => match evalO t x, evalO t y with
   | some a, some b => ofPair (copyA P s ty a b)
   | _, _ => none
  | _, _ => none
 | .call { callee := .value fo, args := args, argTypes := _ } => match evalO t fo, mapO (evalO t) args.toList with
  | some (.func f cs), some as => match bodied P f with
   | true => match call f (as ++ cs) s with
    | some (.ret v, s') => some (.val v s')
    | some (.pan c, s') => some (.pan c s')
    | none => none
   | false => none
  | _, _ => none
 | .defer { callee := .value fo, args := args, argTypes := _ } => match evalO t fo, mapO (evalO t) args.toList with
  | some (.func f cs), some as => some (.dfr f cs as)
  | _, _ => none
 | .binOp op _ x y _ => match evalO t x, evalO t y with
  | some a, some b => match nanArith op a b with
   | some k => some (.val (.nan k) s)
   | none => none
  | _, _ => none
 | _ => none

def ResPost (Ω : Om) (w0 : Base) (e : Env) (o : Oper) (a : Act) (K : Act → World → Prop) (Q : Exit → Act → World → Prop) (w : World) : Res → Prop
 | .val v s => ∀ e' x w', e.le e' → VR e' v x → Rel Ω w0 e' s w' → K (a.put o.dst x) w'
 | .skip s => ∀ e' w', e.le e' → Rel Ω w0 e' s w' → K (a.put o.dst undef) w'
 | .pan c s => ∀ e' l w', e.le e' → ChR e' c l → Rel Ω w0 e' s w' → Q (.panic l) a w'
 | .dfr f cs as => ∀ xs ys, VRs e cs xs → VRs e as ys → K ({ a with defers := { target := .fn (.func f) xs.toArray, args := ys.toArray } :: a.defers }.put o.dst undef) w

theorem actA_run {P : Program} (S : Sound P) {Ω : Om} {w0 : Base} {call : Caller} (hc : CallOK P Ω w0 call) {e : Env} {t : T AV} {a : Act} (h : FT e t a) {s : St} {w : World} (hr : Rel Ω w0 e s w) {o : Oper} {r : Res} (k : actA P call t s o = some r)
  (K : Act → World → Prop) (Q : Exit → Act → World → Prop) (H : ResPost Ω w0 e o a K Q w r) : o.wp P a w K Q := by
 have pair : ∀ (p : Option (AV × St)) (m : Sem Value), ofPair p = some r → (∀ v s', p = some (v, s') → ∃ e' x w', e.le e' ∧ VR e' v x ∧ Rel Ω w0 e' s' w' ∧ m.run P w = .ok x w') →
   (∀ x w', m.run P w = .ok x w' → (execOp a.eval o).run P w = .ok (.value x) w') → o.wp P a w K Q := by
  intro p m k h1 h2;cases p with
  | none => cases k
  | some p =>
   obtain ⟨v, s'⟩ := p;simp only [ofPair, sme] at k;subst k;obtain ⟨e', x, w', f1, f2, f3, f4⟩ := h1 v s' rfl;simp only [Oper.wp, h2 x w' f4, Oper.upon_value];exact H e' x w' f1 f2 f3
 unfold actA at k;split at k;case h_1 el hop => exact pair _ _ k (fun v s' hp => allocA_run hp hr) (fun x w' hm => by simp only [execOp, hop, Sem.run_bind, hm, Result.andThen_ok, Sem.run_pure])
 case h_2 el x hop =>
  split at k
  ·rename_i v hv;exact pair _ _ k (fun v s' hp => boxA_run hp hr (evalO_vr h hv)) (fun x w' hm => by simp only [execOp, hop, Sem.run_bind, hm, Result.andThen_ok, Sem.run_pure])
  ·cases k
 case h_3 ty len parts hop =>
  split at k
  ·rename_i ps hps;obtain ⟨h1, h2⟩ := evalParts_vr h _ _ hps;exact pair _ _ k (fun v s' hp => buildSliceA_run (qs := parts.map fun (i, x) => (i, a.eval x)) hp hr (by simpa using h1) (by simpa using h2)) (fun x w' hm => by simp only [execOp, hop, Sem.run_bind, hm, Result.andThen_ok, Sem.run_pure])
  ·cases k
 case h_4 ty l c hop =>
  split at k
  ·rename_i l' c' hl hcc;exact pair _ _ k (fun v s' hp => makeSliceA_run hp hr (evalO_vr h hl) (evalO_vr h hcc)) (fun x w' hm => by simp only [execOp, hop, Sem.run_bind, hm, Result.andThen_ok, Sem.run_pure])
  ·cases k
 case h_5 ty ad x hop =>
  split at k
  ·rename_i ad' x' hl hx;simp only [Option.map_eq_some_iff] at k;obtain ⟨s', hs, rfl⟩ := k;obtain ⟨w', hrel, hrun⟩ := storeA_run hs hr (evalO_vr h hl) (evalO_vr h hx);simp only [Oper.wp, execOp, hop, Sem.run_bind, hrun, Result.andThen_ok, Sem.run_pure, Oper.upon_skip];exact H e w' (Env.le_refl e) hrel
  ·cases k
 case h_6 src dst x hop =>
  split at k
  ·rename_i v hv;exact pair _ _ k (fun v s' hp => strBytesA_run hp hr (evalO_vr h hv)) (fun x w' hm => by simp only [execOp, hop, Sem.run_bind, hm, Result.andThen_ok, Sem.run_pure])
  ·cases k
 case h_7 x hop =>
  split at k
  ·rename_i ty v hv;simp only [sme] at k;subst k;have hx := evalO_vr h hv;have hx' := hx;simp only [VR] at hx';obtain ⟨y, hy, hvr⟩ := hx';simp only [Oper.wp, execOp, hop, Sem.run_bind, hy, Instr.panic, run_goPanic, Result.andThen_halt, Oper.upon_panic];exact H e _ w (Env.le_refl e) ⟨_, [], rfl, by rw [← hy]; exact hx, rfl⟩ hr
  ·cases k
 case h_8 args tys hop =>
  split at k
  ·rename_i x y ty u ha ht;split at k
   ·rename_i a' b' hx hy;have ha := toList_two ha;have ht := toList_two ht;subst ha ht;refine pair _ (Builtin.append_ #[ty, u] o.type #[a.eval x, a.eval y]) k (fun v s' hp => ?_) ?_
    ·obtain ⟨e', z, w', f1, f2, f3, f4⟩ := appendA_run (ty := o.type) hp hr (evalO_vr h hx) (evalO_vr h hy);exact ⟨e', z, w', f1, f2, f3, f4⟩
    ·intro z w' hm;simp only [execOp, hop, resolve, invoke, builtin, Sem.run_bind, Sem.run_pure, Result.andThen_ok, List.map_toArray, List.map_cons, List.map_nil, hm]
   ·cases k
  ·cases k
 case h_9 args tys hop =>
  split at k
  ·rename_i x y ty u ha ht;split at k
   ·rename_i a' b' hx hy;have ha := toList_two ha;have ht := toList_two ht;subst ha ht;refine pair _ (Builtin.copy_ #[ty, u] o.type #[a.eval x, a.eval y]) k (fun v s' hp => ?_) ?_
    ·obtain ⟨z, w', f2, f3, f4⟩ := copyA_run (u := u) (ty := o.type) hp hr (evalO_vr h hx) (evalO_vr h hy);exact ⟨e, z, w', Env.le_refl e, f2, f3, f4⟩
    ·intro z w' hm;simp only [execOp, hop, resolve, invoke, builtin, Sem.run_bind, Sem.run_pure, Result.andThen_ok, List.map_toArray, List.map_cons, List.map_nil, hm]
   ·cases k
  ·cases k
 case h_10 fo args tys hop =>
  split at k
  ·rename_i f cs as hf has;split at k
   ·rename_i hbd;unfold bodied at hbd;split at hbd
    ·rename_i fn hfn;obtain ⟨c, hcb⟩ := Option.isSome_iff_exists.1 hbd;have hfv := evalO_vr h hf;simp only [VR] at hfv;obtain ⟨xs, hfv, hxs⟩ := hfv;have hargs := evalL_vr h _ _ has;have hrun : (execOp a.eval o).run P w = .ok (.enter f ((args.toList.map a.eval) ++ xs.toList).toArray) w := by
      simp only [execOp, hop, resolve, hfv, Deferred.ofValue, Sem.run_bind, Sem.run_pure, Result.andThen_ok, invoke, run_callFunc S hfn hcb];congr 2;apply Array.ext'
      simp
     have key := fun en s' (hk : call f (as ++ cs) s = some (en, s')) => hc f (as ++ cs) s en s' hk e w _ hr (hargs.append hxs)
     split at k
     ·rename_i v s' hcall;simp only [sme] at k;subst k;simp only [Oper.wp, hrun, Oper.upon_enter];refine (key _ _ hcall).mono fun E w' ⟨e', f1, f2, f3⟩ => ?_
      cases E with
      | returned x => exact H e' x w' f1 f3 f2
      | panicked l => exact f3.elim
      | outgrown => exact f3.elim
     ·rename_i cc s' hcall;simp only [sme] at k;subst k;simp only [Oper.wp, hrun, Oper.upon_enter];refine (key _ _ hcall).mono fun E w' ⟨e', f1, f2, f3⟩ => ?_
      cases E with
      | returned x => exact f3.elim
      | panicked l => exact H e' l w' f1 f3 f2
      | outgrown => exact f3.elim
     ·cases k
    ·cases hbd
   ·cases k
  ·cases k
 case h_11 fo args tys hop =>
  split at k
  ·rename_i f cs as hf has;simp only [sme] at k;subst k;have hfv := evalO_vr h hf;simp only [VR] at hfv;obtain ⟨xs, hfv, hxs⟩ := hfv;have hargs := evalL_vr h _ _ has;have hrun : (execOp a.eval o).run P w = .ok (.defer { target := .fn (.func f) xs, args := (args.toList.map a.eval).toArray }) w := by
    simp only [execOp, hop, resolve, hfv, Deferred.ofValue, Sem.run_bind, Sem.run_pure, Result.andThen_ok];congr 3;apply Array.ext'
    simp
   simp only [Oper.wp, hrun, Oper.upon_defer];have := H xs.toList _ hxs hargs;simpa using this
  ·cases k
 case h_12 op xT x y yT hop =>
  split at k
  ·rename_i a' b' hx hy;split at k
   ·rename_i kd hkd;simp only [sme] at k;subst k;obtain ⟨z, h1, h2⟩ := nanArith_run (P := P) hkd (evalO_vr h hx) (evalO_vr h hy) xT x y w;have hrun : (execOp a.eval o).run P w = .ok (.value z) w.drew := by
     simp only [execOp, hop];rw [Sem.run_bind, h2];rfl
    simp only [Oper.wp, hrun, Oper.upon_value];exact H e z _ (Env.le_refl e) h1 hr.drew
   ·cases k
  ·cases k
 case h_13 => cases k

end Go.Ev
