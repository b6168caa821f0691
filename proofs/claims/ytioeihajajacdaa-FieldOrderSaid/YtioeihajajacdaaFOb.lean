/-
  What is known of two numbers in the law FieldOrder is true. No condition.
-/
import Derived.Test.YtioeihajajacdaaFOa
import Derived.Laws.Strings
namespace Go.Proofs.Ytioeihajajacdaa.fieldOrder
open Go.RowKit Go.Ev Go.Ev.Dig

def sel (n m : Int) (i : Nat) : Int := if i / 8 % 2 = 0 then n else m
def vals (n m : Int) (i : Nat) : Value :=
  match i / 16 with
  | 0 => .int .i64 (N (sel n m i) (i % 8))
  | 1 => .int .i64 (R (sel n m i) (i % 8))
  | 2 => .int .u8 (C (sel n m i) (i % 8))
  | 3 => .int .u8 (D (sel n m i) (i % 8))
  | _ => .bool false

theorem vals0 (n m : Int) {i : Nat} (h : i < 16) : vals n m i = .int .i64 (N (sel n m i) (i % 8)) := by
  have e : i / 16 = 0 := by omega
  simp only [vals, e]
theorem vals1 (n m : Int) {i : Nat} (h : 15 < i) (h2 : i < 32) : vals n m i = .int .i64 (R (sel n m i) (i % 8)) := by
  have e : i / 16 = 1 := by omega
  simp only [vals, e]
theorem vals2 (n m : Int) {i : Nat} (h : 31 < i) (h2 : i < 48) : vals n m i = .int .u8 (C (sel n m i) (i % 8)) := by
  have e : i / 16 = 2 := by omega
  simp only [vals, e]
theorem vals3 (n m : Int) {i : Nat} (h : 47 < i) (h2 : i < 64) : vals n m i = .int .u8 (D (sel n m i) (i % 8)) := by
  have e : i / 16 = 3 := by omega
  simp only [vals, e]
theorem sel16 (n m : Int) (i : Nat) : sel n m (i + 16) = sel n m i := by
  unfold sel; rw [show (i + 16) / 8 % 2 = i / 8 % 2 by omega]
theorem sel1 (n m : Int) {i : Nat} (h : i % 8 < 7) : sel n m (i + 1) = sel n m i := by
  unfold sel; rw [show (i + 1) / 8 % 2 = i / 8 % 2 by omega]
theorem vals_one (n m : Int) (i : Nat) : (vals n m i).oneCell' = true := by
  unfold vals; split <;> rfl

structure Fits (c : Cfg) (n m : Int) : Prop where
  neg : c.neg = decide (n < 0)
  big : c.big = decide (2147483647 < n)
  neg' : c.neg' = decide (m < 0)
  big' : c.big' = decide (2147483647 < m)
  k : 0 < c.k → 0 ≤ n ∧ n ≤ 2147483647 ∧ c.k = size n
  k' : 0 < c.k' → 0 ≤ m ∧ m ≤ 2147483647 ∧ c.k' = size m
  lt : c.lt = decide (n < m)
  eq : c.eq = decide (n = m)

theorem Fits.negOf {c : Cfg} {n m : Int} (h : Fits c n m) {i : Nat} (hi : i < 16) : c.negOf i = decide (sel n m i < 0) := by
  unfold Cfg.negOf sel
  cases hb : Nat.blt i 8
  · have : ¬ i < 8 := fun x => by rw [show Nat.blt i 8 = true from by simpa [Nat.blt_eq] using x] at hb; cases hb
    rw [if_neg (by omega)]; exact h.neg'
  · have : i < 8 := by simpa [Nat.blt_eq] using hb
    rw [if_pos (by omega)]; exact h.neg
theorem Fits.bigOf {c : Cfg} {n m : Int} (h : Fits c n m) {i : Nat} (hi : i < 16) : c.bigOf i = decide (2147483647 < sel n m i) := by
  unfold Cfg.bigOf sel
  cases hb : Nat.blt i 8
  · have : ¬ i < 8 := fun x => by rw [show Nat.blt i 8 = true from by simpa [Nat.blt_eq] using x] at hb; cases hb
    rw [if_neg (by omega)]; exact h.big'
  · have : i < 8 := by simpa [Nat.blt_eq] using hb
    rw [if_pos (by omega)]; exact h.big
theorem Fits.kOf {c : Cfg} {n m : Int} (h : Fits c n m) {i : Nat} (hi : i < 16) (hk : 0 < c.kOf i) : 0 ≤ sel n m i ∧ sel n m i ≤ 2147483647 ∧ c.kOf i = size (sel n m i) := by
  unfold Cfg.kOf at *
  unfold sel
  cases hb : Nat.blt i 8
  · have : ¬ i < 8 := fun x => by rw [show Nat.blt i 8 = true from by simpa [Nat.blt_eq] using x] at hb; cases hb
    rw [if_neg (by omega)]; rw [hb] at hk; exact h.k' hk
  · have : i < 8 := by simpa [Nat.blt_eq] using hb
    rw [if_pos (by omega)]; rw [hb] at hk; exact h.k hk

theorem opt_some {b : Bool} {u v : AV} (h : opt b u = some v) : b = true ∧ v = u := by
  unfold opt at h
  split at h
  · simp only [Option.some.injEq] at h; exact ⟨rfl, h.symm⟩
  · cases h

theorem blt_lt {a b : Nat} (h : Nat.blt a b = true) : a < b := by simpa [Nat.blt_eq] using h

theorem run_ints {P : Program} {o : Oper} {a : Act} {op : BinOp} {t yt : TypeId} {x y : Operand} (hop : o.op = .binOp op t x y yt) {k k' : IntKind} {m n : Int} {r : Value} (hx : a.eval x = .int k m) (hy : a.eval y = .int k' n)
    (h : ∀ w, (binOp op t (.int k m) (.int k' n)).run P w = .ok r w) (w : World) : (execOp a.eval o).run P w = .ok (.value r) w := by
  have hg : (eqGuard op t x y (.int k m) (.int k' n)).run P w = .ok () w := by cases op <;> simp [eqGuard]
  simp only [execOp, hop, hx, hy, Sem.run_bind, hg, Result.andThen_ok, h w, Sem.run_pure]
theorem run_strs {P : Program} {o : Oper} {a : Act} {op : BinOp} {t yt : TypeId} {x y : Operand} (hop : o.op = .binOp op t x y yt) {m n : ByteArray} {r : Value} (hx : a.eval x = .string m) (hy : a.eval y = .string n)
    (h : ∀ w, (binOp op t (.string m) (.string n)).run P w = .ok r w) (w : World) : (execOp a.eval o).run P w = .ok (.value r) w := by
  have hg : (eqGuard op t x y (.string m) (.string n)).run P w = .ok () w := by cases op <;> simp [eqGuard]
  simp only [execOp, hop, hx, hy, Sem.run_bind, hg, Result.andThen_ok, h w, Sem.run_pure]

theorem two {e : Env} {o : Oper} {a : Act} {op : BinOp} {t yt : TypeId} {x y : Operand} (hop : o.op = .binOp op t x y yt) {u v : AV} (hx : VRs e [u, v] (o.op.operands.toList.map a.eval)) : VR e u (a.eval x) ∧ VR e v (a.eval y) := by
  have hops : o.op.operands.toList = [x, y] := by rw [hop]; simp [Op.operands]
  rw [hops] at hx
  obtain ⟨z0, hz0, hv0⟩ := hx.at 0 _ rfl
  obtain ⟨z1, hz1, hv1⟩ := hx.at 1 _ rfl
  simp only [List.map_cons, List.map_nil, List.getElem?_cons_zero, List.getElem?_cons_succ, Option.some.injEq] at hz0 hz1
  rw [hz0, hz1]
  exact ⟨hv0, hv1⟩

/-! ### the texts -/
theorem eqNats_eq : ∀ {l m : List Nat}, eqNats l m = true → l = m
  | [], [], _ => rfl
  | [], _ :: _, h => by simp [eqNats] at h
  | _ :: _, [], h => by simp [eqNats] at h
  | a :: r, b :: s, h => by
    simp only [eqNats, Bool.and_eq_true] at h
    rw [beq_t h.1, eqNats_eq h.2]
theorem idsOf_map : ∀ {l : List AV} {ids : List Nat}, idsOf l = some ids → l = ids.map .byte
  | [], ids, h => by simp only [idsOf, Option.some.injEq] at h; subst h; rfl
  | c :: l, ids, h => by
    unfold idsOf at h
    split at h
    · rename_i heq; cases heq
    · rename_i i r heq
      cases heq
      simp only [Option.map_eq_some_iff] at h
      obtain ⟨is, his, rfl⟩ := h
      rw [idsOf_map his]; rfl
    · cases h
theorem litIs_map {l : List AV} {ids : List Nat} (h : litIs l ids = true) : l = ids.map .byte := by
  unfold litIs at h
  split at h
  · rename_i js hjs; rw [idsOf_map hjs, eqNats_eq h]
  · cases h

def num : Value → Int
  | .int _ q => q
  | _ => 0
theorem bytes_ns {e : Env} : ∀ (ids : List Nat) (ns : List Int), VRs e (ids.map .byte) (ns.map (Value.int .u8)) → ns = ids.map fun i => num (e.opq i)
  | [], ns, h => by simp only [List.map_nil, VRs] at h; simpa using h
  | i :: ids, [], h => by simp [VRs] at h
  | i :: ids, q :: ns, h => by
    simp only [List.map_cons, VRs, VR] at h
    obtain ⟨x, r, h1, ⟨n, rfl, hn⟩, hr⟩ := h
    simp only [List.cons.injEq, Value.int.injEq, true_and] at h1
    obtain ⟨rfl, rfl⟩ := h1
    rw [bytes_ns ids ns hr]
    simp [hn, num]

theorem strOf_list (ns : List Int) : (strOf ns).toList = ns.map fun q => UInt8.ofNat q.toNat := by
  unfold strOf
  rw [foldl_push_bytes, ByteArray.toList_eq]
  simp

theorem la_bytes {n m : Int} (b : Nat) (hb : b = 0 ∨ b = 8) {s : Int} (hs : s = if b = 0 then n else m) (h0 : 0 ≤ s) (h1 : s ≤ 2147483647) : ∀ k, k ≤ 5 → ((la b k).map fun i => UInt8.ofNat (num (vals n m i)).toNat) = enc (digs s k)
  | 0, _ => rfl
  | 1, _ => by
    have e1 : vals n m (32 + b) = .int .u8 (C s 0) := by
      rw [vals2 n m (by omega) (by omega)]
      have : sel n m (32 + b) = s := by rcases hb with rfl | rfl <;> simp [sel, hs]
      rw [this, show (32 + b) % 8 = 0 by omega]
    have hd := (N_bd h0 h1 0)
    simp only [la, List.map_cons, List.map_nil, e1, num, digs, enc]
    rw [C_eq h0 h1]
    rfl
  | k + 2, hk => by
    have ih := la_bytes b hb hs h0 h1 (k + 1) (by omega)
    have e1 : vals n m (48 + b + (k + 1)) = .int .u8 (D s (k + 1)) := by
      rw [vals3 n m (by omega) (by omega)]
      have : sel n m (48 + b + (k + 1)) = s := by
        unfold sel
        rcases hb with rfl | rfl
        · rw [if_pos (by omega)]; simp [hs]
        · rw [if_neg (by omega)]; simp [hs]
      rw [this, show (48 + b + (k + 1)) % 8 = k + 1 by omega]
    have hd := (N_bd h0 h1 (k + 1))
    have e2 : digs s (k + 2) = d s (k + 1) :: d s k :: digs s k := rfl
    have e3 : (D s (k + 1)).toNat = d s (k + 1) + 128 := by
      rw [D_eq h0 h1]; unfold d; omega
    simp only [la, List.map_cons, e1, ih, e2]
    show UInt8.ofNat (D s (k + 1)).toNat :: enc (digs s (k + 1)) = UInt8.ofNat (d s (k + 1) + 128) :: enc (d s k :: digs s k)
    rw [e3]
    rfl

theorem lit_text {e : Env} {n m : Int} (he : e.opq = vals n m) {l : List AV} {ids : List Nat} (hl : litIs l ids = true) {x : Value} (hx : VR e (.lit l) x) : ∃ t, x = .string t ∧ t.toList = ids.map fun i => UInt8.ofNat (num (vals n m i)).toNat := by
  simp only [VR] at hx
  obtain ⟨ns, rfl, hs⟩ := hx
  rw [litIs_map hl] at hs
  have := bytes_ns ids ns hs
  refine ⟨_, rfl, ?_⟩
  rw [strOf_list, this, he, List.map_map]
  rfl

theorem known_ok {c : Cfg} {n m : Int} (h : Fits c n m) (W : World) (P : Program) (h3 : P.underlying 3 = some (.int .i64)) (h5 : P.underlying 5 = some (.int .u8)) : FactsOK P (vals n m) W (some (known c)) := by
  intro G hG e he o a avs v hv hx
  simp only [Option.some.injEq] at hG
  subst hG
  unfold known at hv
  split at hv
  · -- the rest
    rename_i t x y yt i hop
    obtain ⟨hi, rfl⟩ := opt_some hv
    have hi := blt_lt hi
    obtain ⟨e1, e2⟩ := two hop hx
    simp only [VR, he] at e1 e2
    rw [vals0 n m hi] at e1
    refine ⟨vals n m (i + 16), by simp only [VR, he], fun w _ => run_ints hop e1 e2 (fun w => ?_) w⟩
    rw [vals1 n m (by omega) (by omega), sel16, show (i + 16) % 8 = i % 8 by omega]
    simp [binOp, Op.intDiv, R]
  · rename_i t x y yt i hop
    obtain ⟨hi, rfl⟩ := opt_some hv
    simp only [Bool.and_eq_true] at hi
    have hi1 := blt_lt hi.1
    have hi2 := blt_lt hi.2
    obtain ⟨e1, e2⟩ := two hop hx
    simp only [VR, he] at e1 e2
    rw [vals0 n m hi1] at e1
    refine ⟨vals n m (i + 1), by simp only [VR, he], fun w _ => run_ints hop e1 e2 (fun w => ?_) w⟩
    rw [vals0 n m (by omega), sel1 n m (by omega), show (i + 1) % 8 = i % 8 + 1 by omega]
    simp [binOp, Op.intDiv, N]
  · rename_i t x y yt i hop
    obtain ⟨hi, rfl⟩ := opt_some hv
    simp only [Bool.and_eq_true] at hi
    obtain ⟨⟨⟨i1, i2⟩, i3⟩, i4⟩ := hi
    have i1 := blt_lt i1
    have i2 := blt_lt i2
    have i3 := blt_lt i3
    have i4 := blt_lt i4
    obtain ⟨e1, e2⟩ := two hop hx
    simp only [VR, he] at e1 e2
    rw [vals0 n m i1] at e1
    obtain ⟨g0, g1, g2⟩ := h.kOf i1 i4
    refine ⟨.bool (Nat.blt (i % 8) (c.kOf i)), by simp only [VR], fun w _ => run_ints hop e1 e2 (fun w => ?_) w⟩
    have hp := pos_iff g0 g1
    have key : decide (0 < N (sel n m i) (i % 8)) = decide (i % 8 < size (sel n m i)) := by
      have : i % 8 = 1 ∨ i % 8 = 2 ∨ i % 8 = 3 ∨ i % 8 = 4 ∨ i % 8 = 5 := by omega
      rcases this with q | q | q | q | q <;> rw [q]
      · exact hp.1
      · exact hp.2.1
      · exact hp.2.2.1
      · exact hp.2.2.2.1
      · exact hp.2.2.2.2
    have hb : Nat.blt (i % 8) (c.kOf i) = decide (0 < N (sel n m i) (i % 8)) := by
      rw [key, g2, Bool.eq_iff_iff, Nat.blt_eq, decide_eq_true_eq]
    rw [hb]
    simp [binOp, Op.intCmp]
  · rename_i t x y yt i hop
    obtain ⟨hi, rfl⟩ := opt_some hv
    simp only [Bool.and_eq_true] at hi
    have i1 := blt_lt hi.1
    have i2 := beq_t hi.2
    obtain ⟨e1, e2⟩ := two hop hx
    simp only [VR, he] at e1 e2
    rw [vals0 n m i1, i2] at e1
    refine ⟨.bool (c.bigOf i), by simp only [VR], fun w _ => run_ints hop e1 e2 (fun w => ?_) w⟩
    rw [h.bigOf i1]
    simp [binOp, Op.intCmp, N]
  · rename_i t x y yt i hop
    obtain ⟨hi, rfl⟩ := opt_some hv
    simp only [Bool.and_eq_true] at hi
    have i1 := blt_lt hi.1
    have i2 := beq_t hi.2
    obtain ⟨e1, e2⟩ := two hop hx
    simp only [VR, he] at e1 e2
    rw [vals0 n m i1, i2] at e1
    refine ⟨.bool (c.negOf i), by simp only [VR], fun w _ => run_ints hop e1 e2 (fun w => ?_) w⟩
    rw [h.negOf i1]
    simp [binOp, Op.intCmp, N]
    rfl
  · rename_i t x y yt i hop
    obtain ⟨hi, rfl⟩ := opt_some hv
    simp only [Bool.and_eq_true] at hi
    have i1 := blt_lt hi.1
    have i2 := beq_t hi.2
    obtain ⟨e1, e2⟩ := two hop hx
    simp only [VR, he] at e1 e2
    rw [vals0 n m i1, i2] at e1
    refine ⟨.bool (!c.negOf i), by simp only [VR], fun w _ => run_ints hop e1 e2 (fun w => ?_) w⟩
    rw [h.negOf i1]
    have : (!decide (sel n m i < 0)) = decide (sel n m i ≥ 0) := by rw [Bool.eq_iff_iff]; simp
    rw [this]
    simp [binOp, Op.intCmp, N]
  · rename_i t x y yt i hop
    obtain ⟨hi, rfl⟩ := opt_some hv
    simp only [Bool.and_eq_true] at hi
    have i1 := blt_lt hi.1
    have i2 := beq_t hi.2
    obtain ⟨e1, e2⟩ := two hop hx
    simp only [VR, he] at e1 e2
    rw [vals0 n m i1, i2] at e1
    refine ⟨.bool (!c.bigOf i), by simp only [VR], fun w _ => run_ints hop e1 e2 (fun w => ?_) w⟩
    rw [h.bigOf i1]
    have : (!decide (2147483647 < sel n m i)) = decide (sel n m i ≤ 2147483647) := by rw [Bool.eq_iff_iff]; simp
    rw [this]
    simp [binOp, Op.intCmp, N]
    rfl
  · rename_i t x y yt hop
    simp only [Option.some.injEq] at hv
    subst hv
    obtain ⟨e1, e2⟩ := two hop hx
    simp only [VR, he] at e1 e2
    rw [vals0 n m (by omega)] at e1 e2
    refine ⟨.bool (!c.lt), by simp only [VR], fun w _ => run_ints hop e1 e2 (fun w => ?_) w⟩
    have : (!c.lt) = decide (n ≥ m) := by rw [h.lt, Bool.eq_iff_iff]; simp
    rw [this]
    simp [binOp, Op.intCmp, N, sel]
  · rename_i t x y yt hop
    simp only [Option.some.injEq] at hv
    subst hv
    obtain ⟨e1, e2⟩ := two hop hx
    simp only [VR, he] at e1 e2
    rw [vals0 n m (by omega)] at e1 e2
    refine ⟨.bool (!c.eq), by simp only [VR], fun w _ => run_ints hop e1 e2 (fun w => ?_) w⟩
    have : (!c.eq) = (n != m) := by rw [h.eq, Bool.eq_iff_iff]; simp
    rw [this]
    simp [binOp, Op.intCmp, N, sel]
  · rename_i x i hop
    obtain ⟨hi, rfl⟩ := opt_some hv
    simp only [Bool.and_eq_true] at hi
    have i1 := blt_lt hi.1
    have i2 := blt_lt hi.2
    have hops : o.op.operands.toList = [x] := by rw [hop]; simp [Op.operands]
    rw [hops] at hx
    obtain ⟨z0, hz0, hv0⟩ := hx.at 0 _ rfl
    simp only [List.map_cons, List.map_nil, List.getElem?_cons_zero, Option.some.injEq] at hz0
    simp only [VR, he] at hv0
    rw [vals1 n m i1 i2] at hv0
    refine ⟨.int .u8 (C (sel n m i) (i % 8)), ?_, fun w _ => ?_⟩
    · simp only [VR, he]
      exact ⟨_, rfl, by rw [vals2 n m (by omega) (by omega), sel16, show (i + 16) % 8 = i % 8 by omega]⟩
    · simp [execOp, hop, hz0, hv0, convert, run_underlying h3, run_underlying h5, Conv.intToInt, C]
  · rename_i t x y yt i hop
    obtain ⟨hi, rfl⟩ := opt_some hv
    simp only [Bool.and_eq_true] at hi
    have i1 := blt_lt hi.1
    have i2 := blt_lt hi.2
    obtain ⟨e1, e2⟩ := two hop hx
    simp only [VR, he] at e1 e2
    rw [vals2 n m i1 i2] at e1
    obtain ⟨q, e1, e3⟩ := e1
    simp only [Value.int.injEq, true_and] at e3
    subst e3
    refine ⟨.int .u8 (D (sel n m i) (i % 8)), ?_, fun w _ => run_ints hop e1 e2 (fun w => ?_) w⟩
    · simp only [VR, he]
      exact ⟨_, rfl, by rw [vals3 n m (by omega) (by omega), sel16, show (i + 16) % 8 = i % 8 by omega]⟩
    · simp [binOp, Op.intArith, D]
  · rename_i t x y yt l l' hop
    obtain ⟨e1, e2⟩ := two hop hx
    split at hv
    · rename_i hc
      simp only [Bool.and_eq_true] at hc
      obtain ⟨⟨⟨⟨c1, c2⟩, c3⟩, c4⟩, c5⟩ := hc
      have c4 := beq_t c4
      have c5 := blt_lt c5
      simp only [Option.some.injEq] at hv
      subst hv
      rw [h.eq, decide_eq_true_eq] at c1
      obtain ⟨t1, q1, t2⟩ := lit_text he c2 e1
      obtain ⟨u1, q2, u2⟩ := lit_text he c3 e2
      refine ⟨.bool true, by simp only [VR], fun w _ => run_strs hop q1 q2 (fun w => ?_) w⟩
      obtain ⟨g0, g1, g2⟩ := h.k c5
      rw [la_bytes 0 (.inl rfl) (s := n) (by simp) g0 g1 c.k (by rw [g2]; exact (size_pos n).2)] at t2
      rw [la_bytes 8 (.inr rfl) (s := m) (by simp) (c1 ▸ g0) (c1 ▸ g1) c.k' (by rw [← c4, g2]; exact (size_pos n).2)] at u2
      have heq : t1.toList = u1.toList := by rw [t2, u2, c1, c4]
      simp [binOp, Op.stringOp, heq]
    · obtain ⟨hi, rfl⟩ := opt_some hv
      simp only [Bool.and_eq_true] at hi
      obtain ⟨⟨⟨⟨c1, c2⟩, c3⟩, c4⟩, c5⟩ := hi
      have c4 := blt_lt c4
      have c5 := blt_lt c5
      rw [h.lt, decide_eq_true_eq] at c1
      obtain ⟨g0, g1, g2⟩ := h.k c4
      obtain ⟨g0', g1', g2'⟩ := h.k' c5
      obtain ⟨t1, q1, t2⟩ := lit_text he c2 e1
      obtain ⟨u1, q2, u2⟩ := lit_text he c3 e2
      refine ⟨.bool false, by simp only [VR], fun w _ => run_strs hop q1 q2 (fun w => ?_) w⟩
      have hb := bytes_begin g0 g1' c1
      rw [la_bytes 0 (.inl rfl) (s := n) (by simp) g0 g1 c.k (by rw [g2]; exact (size_pos n).2)] at t2
      rw [List.map_take, la_bytes 8 (.inr rfl) (s := m) (by simp) g0' g1' c.k' (by rw [g2']; exact (size_pos m).2)] at u2
      have hne : t1.toList ≠ u1.toList := by
        rw [t2, u2, g2, g2']
        exact hb
      simp [binOp, Op.stringOp, hne]
  · rename_i t x y yt l l' hop
    obtain ⟨e1, e2⟩ := two hop hx
    obtain ⟨hi, rfl⟩ := opt_some hv
    simp only [Bool.and_eq_true] at hi
    obtain ⟨⟨⟨⟨c1, c2⟩, c3⟩, c4⟩, c5⟩ := hi
    have c2 := beq_t c2
    have c5 := blt_lt c5
    rw [h.lt, decide_eq_true_eq] at c1
    obtain ⟨g0, g1, g2⟩ := h.k c5
    obtain ⟨g0', g1', g2'⟩ := h.k' (by omega)
    obtain ⟨t1, q1, t2⟩ := lit_text he c3 e1
    obtain ⟨u1, q2, u2⟩ := lit_text he c4 e2
    refine ⟨.bool false, by simp only [VR], fun w _ => run_strs hop q1 q2 (fun w => ?_) w⟩
    have hl := bytes_less g0 g1' c1 (by omega)
    rw [la_bytes 0 (.inl rfl) (s := n) (by simp) g0 g1 c.k (by rw [g2]; exact (size_pos n).2), g2] at t2
    rw [la_bytes 8 (.inr rfl) (s := m) (by simp) g0' g1' c.k' (by rw [g2']; exact (size_pos m).2), g2'] at u2
    have hless : Op.bytesLess t1.toList u1.toList = true := by rw [t2, u2]; exact hl
    simp [binOp, Op.stringOp, hless]
  · cases hv

end Go.Proofs.Ytioeihajajacdaa.fieldOrder
