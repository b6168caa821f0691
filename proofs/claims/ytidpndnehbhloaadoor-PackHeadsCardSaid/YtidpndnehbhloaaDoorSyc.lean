/- An evaluator of the model's code over abstract states, and its soundness: part 3: every operation that only reads. No condition. -/
import Derived.Test.YtidpndnehbhloaaDoorSyb
namespace Go.Ev
open Go.RowKit

def eqA (P : Program) (m : Mem) (ty : TypeId) (a b : AV) : Option Bool :=
 match a, b with
 | .ptr i o, .ptr j p => match P.underlying ty with
  | some (.pointer el) => match P.info? el with
   | some inf => match inf.size with
    | 0 => none
    | _ + 1 => match Nat.beq i j with
     | true => some (Nat.beq o p)
     | false => match m.apart i j with
      | true => some false
      | false => none
   | none => none
  | _ => none
 | .ptr _ _, .nilptr | .nilptr, .ptr _ _ => match P.underlying ty with
  | some (.pointer _) => some false
  | _ => none
 | .slice _ _ _ _ _, .nilslice | .nilslice, .slice _ _ _ _ _ | .sslice _ _ _ _ _, .nilslice | .nilslice, .sslice _ _ _ _ _ | .hollow, .nilslice | .nilslice, .hollow => match P.underlying ty with
  | some (.slice _) => some false
  | _ => none
 | .mapv _, .nilmap | .nilmap, .mapv _ => match P.underlying ty with
  | some (.map _ _) => some false
  | _ => none
 | .func _ _, .nilfunc | .nilfunc, .func _ _ => match P.underlying ty with
  | some (.func _ _ _) => some false
  | _ => none
 | .iface _ _, .niliface | .niliface, .iface _ _ => match P.underlying ty with
  | some (.interface _) => some false
  | _ => none
 | _, _ => none

theorem equal_of_in {P : Program} {ty : TypeId} {x y : Value} {r : Bool} {w : World} (h : ∀ d, (Op.equalIn (d + 1) ty x y).run P w = .ok r w) : (Op.equal ty x y).run P w = .ok r w := h 9999

theorem eqA_run {P : Program} {e : Env} {m : Mem} {M : World → Prop} (R : Reads P e m M) {ty : TypeId} {a b : AV} {r : Bool} (k : eqA P m ty a b = some r) {x y : Value} (hx : VR e a x) (hy : VR e b y) :
  (∀ w, M w → (Op.equal ty x y).run P w = .ok r w) ∧ (∀ op xo yo w, (eqGuard op ty xo yo x y).run P w = .ok () w) ∧ (∀ w, (binOp .eql ty x y).run P w = ((Op.equal ty x y).run P w).andThen fun b w => .ok (.bool b) w) ∧
   (∀ w, (binOp .neq ty x y).run P w = ((Op.equal ty x y).run P w).andThen fun b w => .ok (.bool (!b)) w) := by
 unfold eqA at k;split at k <;> (first | (exact absurd k (by simp)) | simp only [VR] at hx hy)
 ·rename_i i o j p;obtain ⟨b1, hb1, rfl⟩ := hx;obtain ⟨b2, hb2, rfl⟩ := hy;refine ⟨fun w hw => equal_of_in fun d => ?_, fun op xo yo w => ?_, fun w => ?_, fun w => ?_⟩
  ·split at k
   ·rename_i el hu;split at k
    ·rename_i inf hinf;split at k
     ·cases k
     ·rename_i n hn;simp only [Op.equalIn, Sem.run_bind, run_underlying hu, Result.andThen_ok, sizeOf, typeInfo, run_program, hinf, Sem.run_pure, hn, ne_eq];rw [if_pos (Nat.succ_ne_zero n)];split at k
      ·rename_i hij;have hij := beq_t hij;subst hij;obtain rfl : b1 = b2 := by rw [hb1] at hb2; exact Option.some.inj hb2
       simp only [sme] at k;subst k;simp only [sameAddr, beq_self_eq_true, if_true, Sem.run_pure];congr 1;rw [Bool.eq_iff_iff]
       simp
      ·split at k
       ·rename_i hap;simp only [sme] at k;subst k;obtain ⟨c1, c2, h1, h2, _, h3⟩ := R.apart _ _ hap;obtain rfl : b1 = c1 := by rw [hb1] at h1; exact Option.some.inj h1
        obtain rfl : b2 = c2 := by rw [hb2] at h2; exact Option.some.inj h2
        exact h3 w hw _ _
       ·cases k
    ·cases k
   ·cases k
  ·cases op <;> simp [eqGuard]
  ·simp [binOp]
  ·simp [binOp]
 all_goals
  split at k
  ·rename_i hu;simp only [sme] at k;subst k
   first
    | (obtain ⟨b1, hb1, rfl⟩ := hx; subst hy)
    | (obtain ⟨b1, hb1, rfl⟩ := hy; subst hx)
    | (obtain ⟨b1, _, hb1, rfl⟩ := hx; subst hy)
    | (obtain ⟨b1, _, hb1, rfl⟩ := hy; subst hx)
    | (obtain ⟨b1, rfl, hb1⟩ := hx; subst hy)
    | (obtain ⟨b1, _, hb1, rfl, _⟩ := hx; subst hy)
    | (obtain ⟨b1, _, hb1, rfl, _⟩ := hy; subst hx)
    | (obtain ⟨b1, rfl, hb1⟩ := hy; subst hx)
   refine ⟨fun w _ => equal_of_in fun d => by simp [Op.equalIn, run_underlying hu], fun op xo yo w => by cases op <;> simp [eqGuard], fun w => by simp [binOp], fun w => by simp [binOp]⟩
  ·cases k

def optO (t : T AV) : Option Operand → Option (Option AV)
 | none => some none
 | some x => (evalO t x).map some

theorem optO_or {e : Env} {t : T AV} {a : Act} (h : FT e t a) {x : Option Operand} {v : Option AV} (k : optO t x = some v) : OR e v (x.map a.eval) := by
 cases x with
 | none => simp only [optO, sme] at k; subst k; rfl
 | some x =>
  simp only [optO, Option.map_eq_some_iff] at k;obtain ⟨y, hy, rfl⟩ := k;exact ⟨_, rfl, evalO_vr h hy⟩

def partA (P : Program) (ty : TypeId) (cs : List AV) (off : Nat) : Option AV :=
 match P.underlying ty with
 | some (.struct _) | some (.array _ _) => match P.info? ty with
  | some i => match Nat.ble (off + i.size) cs.length with
   | true => some (.agg ((cs.drop off).take i.size))
   | false => none
  | none => none
 | some _ => cs[off]?
 | none => none

theorem VRs.drop {e : Env} : ∀ (n : Nat) {l : List AV} {a : List Value}, VRs e l a → VRs e (l.drop n) (a.drop n)
 | 0, _, _, h => h
 | n + 1, [], _, h => by simp only [VRs] at h; subst h; simpa using VRs_nil
 | n + 1, c :: cs, _, h => by simp only [VRs] at h; obtain ⟨x, r, rfl, _, h2⟩ := h; simpa using VRs.drop n h2
theorem VRs.take {e : Env} : ∀ (n : Nat) {l : List AV} {a : List Value}, VRs e l a → VRs e (l.take n) (a.take n)
 | 0, _, _, _ => by simpa using VRs_nil
 | n + 1, [], _, h => by simp only [VRs] at h; subst h; simpa using VRs_nil
 | n + 1, c :: cs, _, h => by simp only [VRs] at h; obtain ⟨x, r, rfl, h1, h2⟩ := h; simpa using VRs_cons h1 (VRs.take n h2)

theorem partA_run {P : Program} {e : Env} {ty : TypeId} {cs : List AV} {off : Nat} {v : AV} (k : partA P ty cs off = some v) {arr : Array Value} (h : VRs e cs arr.toList) :
  ∃ x, VR e v x ∧ ∀ w, (part ty arr off).run P w = .ok x w := by
 unfold partA at k;have agg : (∃ f, P.underlying ty = some (.struct f)) ∨ (∃ n t, P.underlying ty = some (.array n t)) → (match P.info? ty with
  | some i => match Nat.ble (off + i.size) cs.length with
   | true => some (AV.agg ((cs.drop off).take i.size))
   | false => none
  | none => none) = some v → ∃ x, VR e v x ∧ ∀ w, (part ty arr off).run P w = .ok x w := by
  intro hu k;split at k
  ·rename_i i hi;split at k
   ·simp only [sme] at k;subst k;refine ⟨.agg (arr.extract off (off + i.size)), ?_, fun w => ?_⟩
    ·simp only [VR];refine ⟨_, rfl, ?_⟩;rw [Array.toList_extract];have : off + i.size - off = i.size := by omega
     simpa [List.extract, this] using (h.drop off).take i.size
    ·rcases hu with ⟨f, hu⟩ | ⟨n, t, hu⟩ <;> simp [part, isAgg, run_underlying hu, sizeOf, typeInfo, hi]
   ·cases k
  ·cases k
 split at k
 ·rename_i f hu; exact agg (.inl ⟨f, hu⟩) k
 ·rename_i n t hu; exact agg (.inr ⟨n, t, hu⟩) k
 ·rename_i d hns hna hu;obtain ⟨x, hx, hv⟩ := h.at _ _ k;refine ⟨x, hv, fun w => ?_⟩;have hx : arr[off]? = some x := by simpa using hx
  cases d <;> first
   | exact (hns _ rfl).elim
   | exact (hna _ _ rfl).elim
   | simp [part, isAgg, run_underlying hu, hx]
 ·cases k

def byteOf : AV → Option Int
 | .int .u8 n => some n
 | _ => none

theorem byteOf_val {e : Env} {v : AV} {n : Int} {x : Value} (h : byteOf v = some n) (k : VR e v x) : x = .int .u8 n := by
 unfold byteOf at h;split at h
 ·simp only [sme] at h; subst h; simpa only [VR] using k
 ·cases h

def bytesOf (l : List AV) : Option (List Int) := mapO byteOf l

theorem bytesOf_val {e : Env} : ∀ (l : List AV) (ns : List Int) (xs : List Value), bytesOf l = some ns → VRs e l xs → xs = ns.map (Value.int .u8)
 | [], ns, xs, h, k => by simp only [bytesOf, mapO, sme] at h; subst h; simp only [VRs] at k; subst k; rfl
 | c :: l, ns, xs, h, k => by
  simp only [bytesOf, mapO] at h;split at h
  ·rename_i n m hn hm;simp only [sme] at h;subst h;simp only [VRs] at k;obtain ⟨x, s, rfl, hx, hs⟩ := k;rw [byteOf_val hn hx, bytesOf_val l m s hm hs];rfl
  ·cases h

def isByte : AV → Bool
 | .int .u8 _ => true
 | .byte _ => true
 | _ => false

theorem isByte_val {e : Env} {v : AV} {x : Value} (h : isByte v = true) (k : VR e v x) : ∃ n, x = .int .u8 n := by
 unfold isByte at h;split at h
 ·simp only [VR] at k; exact ⟨_, k⟩
 ·simp only [VR] at k; obtain ⟨n, rfl, _⟩ := k; exact ⟨n, rfl⟩
 ·cases h

theorem isByte_vals {e : Env} : ∀ (l : List AV) (xs : List Value), l.all isByte = true → VRs e l xs → ∃ ns : List Int, xs = ns.map (Value.int .u8)
 | [], xs, _, k => by simp only [VRs] at k; exact ⟨[], k⟩
 | c :: l, xs, h, k => by
  simp only [List.all_cons, bae] at h;simp only [VRs] at k;obtain ⟨x, s, rfl, hx, hs⟩ := k;obtain ⟨n, rfl⟩ := isByte_val h.1 hx;obtain ⟨ns, rfl⟩ := isByte_vals l s h.2 hs;exact ⟨n :: ns, rfl⟩

def convA (P : Program) (m : Mem) (src dst : TypeId) (x : AV) : Option AV :=
 match P.underlying src, P.underlying dst with
 | some (.slice e), some .string => match P.underlying e with
  | some (.int .u8) => match x with
   | .slice id off len _ _ => match readL m id off len with
    | some l => match bytesOf l with
     | some ns => some (.str (strOf ns))
     | none => match l.all isByte with
      | true => some (.lit l)
      | false => none
    | none => none
   | .hollow => some (.str ByteArray.empty)
   | .empty => some (.str ByteArray.empty)
   | _ => none
  | _ => none
 | _, _ => none

theorem convA_run {P : Program} {e : Env} {m : Mem} {M : World → Prop} (R : Reads P e m M) {src dst : TypeId} {x v : AV} (k : convA P m src dst x = some v) {y : Value} (hx : VR e x y) :
  ∃ z, VR e v z ∧ ∀ w, M w → (convert src dst y).run P w = .ok z w := by
 unfold convA at k;split at k
 ·rename_i el hs hd;split at k
  ·rename_i he;split at k
   ·rename_i id off len c opn;split at k
    ·rename_i l hl;split at k
     ·rename_i ns hns;simp only [sme] at k;subst k;simp only [VR] at hx;obtain ⟨b, hb, rfl⟩ := hx;obtain ⟨xs, h1, h2, h3⟩ := readL_cells R hb _ _ _ hl;refine ⟨.string (strOf ns), by simp only [VR], fun w hw => ?_⟩;rw [run_convert_bytes_string w src dst el _ _ _ hs he hd];have := run_loadCells_at (P := P) w b off len xs h2 (h3 w hw);rw [bytesOf_val l ns xs hns h1] at this;exact run_bytesToString w _ len _ ns this
     ·split at k
      ·rename_i hall;simp only [sme] at k;subst k;simp only [VR] at hx;obtain ⟨b, hb, rfl⟩ := hx;obtain ⟨xs, h1, h2, h3⟩ := readL_cells R hb _ _ _ hl;obtain ⟨ns, rfl⟩ := isByte_vals l xs hall h1;refine ⟨.string (strOf ns), by simp only [VR]; exact ⟨ns, rfl, h1⟩, fun w hw => ?_⟩;rw [run_convert_bytes_string w src dst el _ _ _ hs he hd];exact run_bytesToString w _ len _ ns (run_loadCells_at (P := P) w b off len _ h2 (h3 w hw))
      ·cases k
    ·cases k
   ·simp only [sme] at k;subst k;simp only [VR] at hx;obtain ⟨ad, c, rfl⟩ := hx;refine ⟨.string ByteArray.empty, by simp only [VR], fun w hw => ?_⟩;rw [run_convert_bytes_string w src dst el _ _ _ hs he hd];exact run_bytesToString w ad 0 c [] (by simp [loadCells, loadCellsFrom])
   ·simp only [sme] at k;subst k;simp only [VR] at hx;refine ⟨.string ByteArray.empty, by simp only [VR], fun w hw => ?_⟩;rcases hx with rfl | ⟨ad, c, rfl⟩
    ·rw [run_convert_bytes_string w src dst el _ _ _ hs he hd];simp [Conv.bytesToString]
    ·rw [run_convert_bytes_string w src dst el _ _ _ hs he hd];exact run_bytesToString w ad 0 c [] (by simp [loadCells, loadCellsFrom])
   ·cases k
  ·cases k
 ·cases k

def failsA (P : Program) (asserted : TypeId) (ok : Bool) : Option AV :=
 match ok with
 | true => match pureRun P (zeroValue asserted) with
  | some z => (ofVal 8 z).map fun z => .tuple [z, .bool false]
  | none => none
 | false => none

theorem failsA_run {P : Program} {e : Env} {asserted : TypeId} {ok : Bool} {v : AV} (k : failsA P asserted ok = some v) : ok = true ∧ ∃ z, VR e v (.tuple #[z, .bool false]) ∧ ∀ w, (zeroValue asserted).run P w = .ok z w := by
 unfold failsA at k;cases ok
 ·cases k
 ·refine ⟨rfl, ?_⟩;simp only [] at k;split at k
  ·rename_i z hz;simp only [Option.map_eq_some_iff] at k;obtain ⟨u, hu, rfl⟩ := k;refine ⟨z, ?_, pureRun_run _ _ hz⟩;simp only [VR];exact ⟨_, rfl, VRs_cons (ofVal_vr _ _ _ hu) (VRs_cons (by simp only [VR]) VRs_nil)⟩
  ·cases k

def assertA (P : Program) (x : AV) (asserted : TypeId) (ok : Bool) : Option AV :=
 match P.underlying asserted with
 | some (.interface _) => none
 | some _ => match x with
  | .niliface => failsA P asserted ok
  | .iface t v => match Nat.beq t asserted with
   | true => some (match ok with | true => .tuple [v, .bool true] | false => v)
   | false => failsA P asserted ok
  | _ => none
 | none => none

theorem assertA_run {P : Program} {e : Env} {x v : AV} {xT asserted : TypeId} {ok : Bool} (k : assertA P x asserted ok = some v) {y : Value} (hx : VR e x y) :
  ∃ z, VR e v z ∧ ∀ w, (Instr.typeAssert y xT asserted ok).run P w = .ok z w := by
 unfold assertA at k;split at k
 ·cases k
 ·rename_i d hni hu;split at k
  ·obtain ⟨rfl, z, hv, hz⟩ := failsA_run (e := e) k;simp only [VR] at hx;subst hx;refine ⟨_, hv, fun w => ?_⟩;cases d <;> first
    | exact (hni _ rfl).elim
    | simp [Instr.typeAssert, run_underlying hu, hz w]
  ·rename_i t v';simp only [VR] at hx;obtain ⟨y', rfl, hy⟩ := hx;split at k
   ·rename_i ht;obtain rfl := beq_t ht;simp only [sme] at k;subst k;refine ⟨if ok then .tuple #[y', .bool true] else y', ?_, fun w => ?_⟩
    ·cases ok
     ·simpa using hy
     ·simp only [VR, if_true];exact ⟨_, rfl, VRs_cons hy (VRs_cons (by simp only [VR]) VRs_nil)⟩
    ·cases d <;> first
      | exact (hni _ rfl).elim
      | (cases ok <;> simp [Instr.typeAssert, run_underlying hu])
   ·rename_i ht;have ht := beq_f ht;obtain ⟨rfl, z, hv, hz⟩ := failsA_run (e := e) k;refine ⟨_, hv, fun w => ?_⟩;cases d <;> first
     | exact (hni _ rfl).elim
     | simp [Instr.typeAssert, run_underlying hu, hz w, ht]
  ·cases k
 ·cases k

end Go.Ev
