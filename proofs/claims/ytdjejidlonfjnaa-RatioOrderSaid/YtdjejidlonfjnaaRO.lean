/-
  The law RatioOrder of the layer ratio: what is known of three floats, and that it is enough. No condition.
-/
import Derived.Test.YtdjejidlonfjnaaEvl
import Derived.Test.YtdjejidlonfjnaaFlo
import Derived.Test.YtdjejidlonfjnaaRows
import Derived.Laws.Cover2
import Derived.WalkKit
import Derived.ProofKit
import Derived.OpenShut
namespace Go.Proofs.Ytdjejidlonfjnaa.ratioOrder
open Go.ChangeShapes Go.WideShapes Go.ChangeAt Go.RowKit Go.Ev Go.Flo

theorem own : ownKnob Try.prog.godebug = none := by kernel_rfl
theorem laid : laidOutB Try.prog = true := by kernel_rfl
theorem sound : Sound Try.prog where
  mixed := by kernel_rfl
  names f fn c hf hb := by
    have hall : Try.prog.funcs.all (fun fn => fn.body.isNone || !(fn.name == "runtime.NumGoroutine")) = true := by kernel_rfl
    have := Array.all_eq_true_iff_forall_mem.1 hall fn (Array.mem_of_getElem? hf)
    simpa [hb] using this

def cmpN (a b : Nat) : Ordering := match Nat.blt a b with
  | true => .lt
  | false => match Nat.blt b a with
    | true => .gt
    | false => .eq
def at' : List (Option Nat) → Nat → Option Nat
  | [], _ => none
  | r :: _, 0 => r
  | _ :: l, i + 1 => at' l i
def ordN (c : List (Option Nat)) (i j : Nat) : Option Ordering := match at' c i, at' c j with
  | some a, some b => some (cmpN a b)
  | _, _ => none

/-- What is known of the three: how they stand to one another. -/
def known (c : List (Option Nat)) : Op → List AV → Option AV
  | .binOp .eql _ _ _ _, [.opq i, .opq j] => some (.bool (ordN c i j == some .eq))
  | .binOp .neq _ _ _ _, [.opq i, .opq j] => some (.bool (ordN c i j != some .eq))
  | .binOp .gtr _ _ _ _, [.opq i, .opq j] => some (.bool (ordN c i j == some .gt))
  | _, _ => none

theorem ynnn : yesOf Try.prog (some (known [none, none, none])) 4000 60 8 [.opq 0, .opq 1, .opq 2] = true := by kernel_rfl
theorem ynn0 : yesOf Try.prog (some (known [none, none, some 0])) 4000 60 8 [.opq 0, .opq 1, .opq 2] = true := by kernel_rfl
theorem yn0n : yesOf Try.prog (some (known [none, some 0, none])) 4000 60 8 [.opq 0, .opq 1, .opq 2] = true := by kernel_rfl
theorem yn00 : yesOf Try.prog (some (known [none, some 0, some 0])) 4000 60 8 [.opq 0, .opq 1, .opq 2] = true := by kernel_rfl
theorem yn01 : yesOf Try.prog (some (known [none, some 0, some 1])) 4000 60 8 [.opq 0, .opq 1, .opq 2] = true := by kernel_rfl
theorem yn10 : yesOf Try.prog (some (known [none, some 1, some 0])) 4000 60 8 [.opq 0, .opq 1, .opq 2] = true := by kernel_rfl
theorem y0nn : yesOf Try.prog (some (known [some 0, none, none])) 4000 60 8 [.opq 0, .opq 1, .opq 2] = true := by kernel_rfl
theorem y0n0 : yesOf Try.prog (some (known [some 0, none, some 0])) 4000 60 8 [.opq 0, .opq 1, .opq 2] = true := by kernel_rfl
theorem y0n1 : yesOf Try.prog (some (known [some 0, none, some 1])) 4000 60 8 [.opq 0, .opq 1, .opq 2] = true := by kernel_rfl
theorem y00n : yesOf Try.prog (some (known [some 0, some 0, none])) 4000 60 8 [.opq 0, .opq 1, .opq 2] = true := by kernel_rfl
theorem y000 : yesOf Try.prog (some (known [some 0, some 0, some 0])) 4000 60 8 [.opq 0, .opq 1, .opq 2] = true := by kernel_rfl
theorem y002 : yesOf Try.prog (some (known [some 0, some 0, some 2])) 4000 60 8 [.opq 0, .opq 1, .opq 2] = true := by kernel_rfl
theorem y01n : yesOf Try.prog (some (known [some 0, some 1, none])) 4000 60 8 [.opq 0, .opq 1, .opq 2] = true := by kernel_rfl
theorem y011 : yesOf Try.prog (some (known [some 0, some 1, some 1])) 4000 60 8 [.opq 0, .opq 1, .opq 2] = true := by kernel_rfl
theorem y012 : yesOf Try.prog (some (known [some 0, some 1, some 2])) 4000 60 8 [.opq 0, .opq 1, .opq 2] = true := by kernel_rfl
theorem y020 : yesOf Try.prog (some (known [some 0, some 2, some 0])) 4000 60 8 [.opq 0, .opq 1, .opq 2] = true := by kernel_rfl
theorem y021 : yesOf Try.prog (some (known [some 0, some 2, some 1])) 4000 60 8 [.opq 0, .opq 1, .opq 2] = true := by kernel_rfl
theorem y1n0 : yesOf Try.prog (some (known [some 1, none, some 0])) 4000 60 8 [.opq 0, .opq 1, .opq 2] = true := by kernel_rfl
theorem y10n : yesOf Try.prog (some (known [some 1, some 0, none])) 4000 60 8 [.opq 0, .opq 1, .opq 2] = true := by kernel_rfl
theorem y101 : yesOf Try.prog (some (known [some 1, some 0, some 1])) 4000 60 8 [.opq 0, .opq 1, .opq 2] = true := by kernel_rfl
theorem y102 : yesOf Try.prog (some (known [some 1, some 0, some 2])) 4000 60 8 [.opq 0, .opq 1, .opq 2] = true := by kernel_rfl
theorem y110 : yesOf Try.prog (some (known [some 1, some 1, some 0])) 4000 60 8 [.opq 0, .opq 1, .opq 2] = true := by kernel_rfl
theorem y120 : yesOf Try.prog (some (known [some 1, some 2, some 0])) 4000 60 8 [.opq 0, .opq 1, .opq 2] = true := by kernel_rfl
theorem y200 : yesOf Try.prog (some (known [some 2, some 0, some 0])) 4000 60 8 [.opq 0, .opq 1, .opq 2] = true := by kernel_rfl
theorem y201 : yesOf Try.prog (some (known [some 2, some 0, some 1])) 4000 60 8 [.opq 0, .opq 1, .opq 2] = true := by kernel_rfl
theorem y210 : yesOf Try.prog (some (known [some 2, some 1, some 0])) 4000 60 8 [.opq 0, .opq 1, .opq 2] = true := by kernel_rfl

def vals (x : Nat → Nat) (i : Nat) : Value := .float .f64 (x i)

theorem run_floats {P : Program} {o : Oper} {a : Act} {op : BinOp} {t yt : TypeId} {x y : Operand} (hop : o.op = .binOp op t x y yt) {k k' : FloatKind} {m n : Nat} {r : Value} (hx : a.eval x = .float k m) (hy : a.eval y = .float k' n)
    (h : ∀ w, (binOp op t (.float k m) (.float k' n)).run P w = .ok r w) (w : World) : (execOp a.eval o).run P w = .ok (.value r) w := by
  have hg : (eqGuard op t x y (.float k m) (.float k' n)).run P w = .ok () w := by cases op <;> simp [eqGuard]
  simp only [execOp, hop, hx, hy, Sem.run_bind, hg, Result.andThen_ok, h w, Sem.run_pure]

theorem two {e : Env} {o : Oper} {a : Act} {op : BinOp} {t yt : TypeId} {x y : Operand} (hop : o.op = .binOp op t x y yt) {u v : AV} (hx : VRs e [u, v] (o.op.operands.toList.map a.eval)) : VR e u (a.eval x) ∧ VR e v (a.eval y) := by
  have hops : o.op.operands.toList = [x, y] := by rw [hop]; simp [Op.operands]
  rw [hops] at hx
  obtain ⟨z0, hz0, hv0⟩ := hx.at 0 _ rfl
  obtain ⟨z1, hz1, hv1⟩ := hx.at 1 _ rfl
  simp only [List.map_cons, List.map_nil, List.getElem?_cons_zero, List.getElem?_cons_succ, Option.some.injEq] at hz0 hz1
  rw [hz0, hz1]
  exact ⟨hv0, hv1⟩

theorem known_ok {c : List (Option Nat)} {x : Nat → Nat} (hc : ∀ i j, ordN c i j = Ieee.double.order (x i) (x j)) (W : World) : FactsOK Try.prog (vals x) W (some (known c)) := by
  intro G hG e he o a avs v hv hx
  simp only [Option.some.injEq] at hG
  subst hG
  unfold known at hv
  split at hv
  · rename_i hop
    simp only [Option.some.injEq] at hv
    subst hv
    obtain ⟨h0, h1⟩ := two hop hx
    simp only [VR, he, vals] at h0 h1
    refine ⟨.bool _, by simp only [VR]; rfl, fun w _ => run_floats hop h0 h1 (fun w => ?_) w⟩
    rw [binOp_float_cmp_eql, hc]; rfl
  · rename_i hop
    simp only [Option.some.injEq] at hv
    subst hv
    obtain ⟨h0, h1⟩ := two hop hx
    simp only [VR, he, vals] at h0 h1
    refine ⟨.bool _, by simp only [VR]; rfl, fun w _ => run_floats hop h0 h1 (fun w => ?_) w⟩
    rw [binOp_float_cmp_neq, hc]; rfl
  · rename_i hop
    simp only [Option.some.injEq] at hv
    subst hv
    obtain ⟨h0, h1⟩ := two hop hx
    simp only [VR, he, vals] at h0 h1
    refine ⟨.bool _, by simp only [VR]; rfl, fun w _ => run_floats hop h0 h1 (fun w => ?_) w⟩
    rw [binOp_float_cmp_gtr, hc]; rfl
  · cases hv

def keys (k0 k1 k2 : Option Int) : Nat → Option Int
  | 0 => k0
  | 1 => k1
  | 2 => k2
  | _ => none

/-- A list of ranks says how the keys stand. -/
def Tells (c : List (Option Nat)) (k0 k1 k2 : Option Int) : Prop := ∀ i j, ordN c i j = cmpO (keys k0 k1 k2 i) (keys k0 k1 k2 j)

theorem tells {r0 r1 r2 : Option Nat} {k0 k1 k2 : Option Int} (h00 : ordN [r0, r1, r2] 0 0 = cmpO k0 k0) (h01 : ordN [r0, r1, r2] 0 1 = cmpO k0 k1) (h02 : ordN [r0, r1, r2] 0 2 = cmpO k0 k2)
    (h10 : ordN [r0, r1, r2] 1 0 = cmpO k1 k0) (h11 : ordN [r0, r1, r2] 1 1 = cmpO k1 k1) (h12 : ordN [r0, r1, r2] 1 2 = cmpO k1 k2)
    (h20 : ordN [r0, r1, r2] 2 0 = cmpO k2 k0) (h21 : ordN [r0, r1, r2] 2 1 = cmpO k2 k1) (h22 : ordN [r0, r1, r2] 2 2 = cmpO k2 k2) : Tells [r0, r1, r2] k0 k1 k2 := by
  intro i j
  have hbig : ∀ n, at' [r0, r1, r2] (n + 3) = none := fun n => rfl
  have hk : ∀ n, keys k0 k1 k2 (n + 3) = none := fun n => rfl
  have hno : ∀ k : Option Int, cmpO k none = none := fun k => by cases k <;> rfl
  match i, j with
  | 0, 0 => exact h00
  | 0, 1 => exact h01
  | 0, 2 => exact h02
  | 1, 0 => exact h10
  | 1, 1 => exact h11
  | 1, 2 => exact h12
  | 2, 0 => exact h20
  | 2, 1 => exact h21
  | 2, 2 => exact h22
  | n + 3, j => unfold ordN; rw [hbig, hk]; rfl
  | i, n + 3 => unfold ordN; rw [hbig, hk, hno]; cases at' [r0, r1, r2] i <;> rfl

theorem self (a : Int) : some Ordering.eq = cmpO (some a) (some a) := by simp only [cmpO]; rw [cmp_eq rfl]
theorem less {a b : Int} (h : a < b) : some Ordering.lt = cmpO (some a) (some b) := by simp only [cmpO]; rw [cmp_lt h]
theorem same {a b : Int} (h : a = b) : some Ordering.eq = cmpO (some a) (some b) := by simp only [cmpO]; rw [cmp_eq h]
theorem more {a b : Int} (h : b < a) : some Ordering.gt = cmpO (some a) (some b) := by simp only [cmpO]; rw [cmp_gt h]

theorem some_class (k0 k1 k2 : Option Int) : ∃ c, Tells c k0 k1 k2 ∧ yesOf Try.prog (some (known c)) 4000 60 8 [.opq 0, .opq 1, .opq 2] = true := by
  match k0, k1, k2 with
  | none, none, none =>
    exact ⟨_, tells (r0 := none) (r1 := none) (r2 := none) rfl rfl rfl rfl rfl rfl rfl rfl rfl, ynnn⟩
  | none, none, some c =>
    exact ⟨_, tells (r0 := none) (r1 := none) (r2 := some 0) rfl rfl rfl rfl rfl rfl rfl rfl (self _), ynn0⟩
  | none, some b, none =>
    exact ⟨_, tells (r0 := none) (r1 := some 0) (r2 := none) rfl rfl rfl rfl (self _) rfl rfl rfl rfl, yn0n⟩
  | none, some b, some c =>
    rcases Int.lt_trichotomy b c with h | h | h
    · exact ⟨_, tells (r0 := none) (r1 := some 0) (r2 := some 1) rfl rfl rfl rfl (self _) (less (by omega)) rfl (more (by omega)) (self _), yn01⟩
    · exact ⟨_, tells (r0 := none) (r1 := some 0) (r2 := some 0) rfl rfl rfl rfl (self _) (same (by omega)) rfl (same (by omega)) (self _), yn00⟩
    · exact ⟨_, tells (r0 := none) (r1 := some 1) (r2 := some 0) rfl rfl rfl rfl (self _) (more (by omega)) rfl (less (by omega)) (self _), yn10⟩
  | some a, none, none =>
    exact ⟨_, tells (r0 := some 0) (r1 := none) (r2 := none) (self _) rfl rfl rfl rfl rfl rfl rfl rfl, y0nn⟩
  | some a, none, some c =>
    rcases Int.lt_trichotomy a c with h | h | h
    · exact ⟨_, tells (r0 := some 0) (r1 := none) (r2 := some 1) (self _) rfl (less (by omega)) rfl rfl rfl (more (by omega)) rfl (self _), y0n1⟩
    · exact ⟨_, tells (r0 := some 0) (r1 := none) (r2 := some 0) (self _) rfl (same (by omega)) rfl rfl rfl (same (by omega)) rfl (self _), y0n0⟩
    · exact ⟨_, tells (r0 := some 1) (r1 := none) (r2 := some 0) (self _) rfl (more (by omega)) rfl rfl rfl (less (by omega)) rfl (self _), y1n0⟩
  | some a, some b, none =>
    rcases Int.lt_trichotomy a b with h | h | h
    · exact ⟨_, tells (r0 := some 0) (r1 := some 1) (r2 := none) (self _) (less (by omega)) rfl (more (by omega)) (self _) rfl rfl rfl rfl, y01n⟩
    · exact ⟨_, tells (r0 := some 0) (r1 := some 0) (r2 := none) (self _) (same (by omega)) rfl (same (by omega)) (self _) rfl rfl rfl rfl, y00n⟩
    · exact ⟨_, tells (r0 := some 1) (r1 := some 0) (r2 := none) (self _) (more (by omega)) rfl (less (by omega)) (self _) rfl rfl rfl rfl, y10n⟩
  | some a, some b, some c =>
    rcases Int.lt_trichotomy a b with h | h | h <;> rcases Int.lt_trichotomy b c with h2 | h2 | h2 <;> rcases Int.lt_trichotomy a c with h3 | h3 | h3
    · exact ⟨_, tells (r0 := some 0) (r1 := some 1) (r2 := some 2) (self _) (less (by omega)) (less (by omega)) (more (by omega)) (self _) (less (by omega)) (more (by omega)) (more (by omega)) (self _), y012⟩
    · omega
    · omega
    · exact ⟨_, tells (r0 := some 0) (r1 := some 1) (r2 := some 1) (self _) (less (by omega)) (less (by omega)) (more (by omega)) (self _) (same (by omega)) (more (by omega)) (same (by omega)) (self _), y011⟩
    · omega
    · omega
    · exact ⟨_, tells (r0 := some 0) (r1 := some 2) (r2 := some 1) (self _) (less (by omega)) (less (by omega)) (more (by omega)) (self _) (more (by omega)) (more (by omega)) (less (by omega)) (self _), y021⟩
    · exact ⟨_, tells (r0 := some 0) (r1 := some 2) (r2 := some 0) (self _) (less (by omega)) (same (by omega)) (more (by omega)) (self _) (more (by omega)) (same (by omega)) (less (by omega)) (self _), y020⟩
    · exact ⟨_, tells (r0 := some 1) (r1 := some 2) (r2 := some 0) (self _) (less (by omega)) (more (by omega)) (more (by omega)) (self _) (more (by omega)) (less (by omega)) (less (by omega)) (self _), y120⟩
    · exact ⟨_, tells (r0 := some 0) (r1 := some 0) (r2 := some 2) (self _) (same (by omega)) (less (by omega)) (same (by omega)) (self _) (less (by omega)) (more (by omega)) (more (by omega)) (self _), y002⟩
    · omega
    · omega
    · omega
    · exact ⟨_, tells (r0 := some 0) (r1 := some 0) (r2 := some 0) (self _) (same (by omega)) (same (by omega)) (same (by omega)) (self _) (same (by omega)) (same (by omega)) (same (by omega)) (self _), y000⟩
    · omega
    · omega
    · omega
    · exact ⟨_, tells (r0 := some 1) (r1 := some 1) (r2 := some 0) (self _) (same (by omega)) (more (by omega)) (same (by omega)) (self _) (more (by omega)) (less (by omega)) (less (by omega)) (self _), y110⟩
    · exact ⟨_, tells (r0 := some 1) (r1 := some 0) (r2 := some 2) (self _) (more (by omega)) (less (by omega)) (less (by omega)) (self _) (less (by omega)) (more (by omega)) (more (by omega)) (self _), y102⟩
    · exact ⟨_, tells (r0 := some 1) (r1 := some 0) (r2 := some 1) (self _) (more (by omega)) (same (by omega)) (less (by omega)) (self _) (less (by omega)) (same (by omega)) (more (by omega)) (self _), y101⟩
    · exact ⟨_, tells (r0 := some 2) (r1 := some 0) (r2 := some 1) (self _) (more (by omega)) (more (by omega)) (less (by omega)) (self _) (less (by omega)) (less (by omega)) (more (by omega)) (self _), y201⟩
    · omega
    · omega
    · exact ⟨_, tells (r0 := some 2) (r1 := some 0) (r2 := some 0) (self _) (more (by omega)) (more (by omega)) (less (by omega)) (self _) (same (by omega)) (less (by omega)) (same (by omega)) (self _), y200⟩
    · omega
    · omega
    · exact ⟨_, tells (r0 := some 2) (r1 := some 1) (r2 := some 0) (self _) (more (by omega)) (more (by omega)) (less (by omega)) (self _) (more (by omega)) (less (by omega)) (less (by omega)) (self _), y210⟩

theorem walk (x : Nat → Nat) (W : World) : Calls Try.prog 8 #[.float .f64 (x 0), .float .f64 (x 1), .float .f64 (x 2)] W fun e w' => e = .returned (.bool true) ∧ Below W.heap.size W w' := by
  obtain ⟨c, hc, hy⟩ := some_class (key (x 0)) (key (x 1)) (key (x 2))
  let y : Nat → Nat := fun i => if i < 3 then x i else 0x7ff8000000000001
  have hn : key 0x7ff8000000000001 = none := rfl
  have hk : ∀ i, key (y i) = keys (key (x 0)) (key (x 1)) (key (x 2)) i := fun i => by
    match i with
    | 0 => rfl
    | 1 => rfl
    | 2 => rfl
    | n + 3 =>
      show key (if n + 3 < 3 then x (n + 3) else 0x7ff8000000000001) = none
      rw [if_neg (by omega), hn]
  have hc' : ∀ i j, ordN c i j = Ieee.double.order (y i) (y j) := fun i j => by rw [order_eq, hk, hk]; exact hc i j
  exact calls_of_yesOf (Ω := vals y) sound hy (fun i => rfl) (known_ok hc' W) (VRs_cons (by simp only [VR]; rfl) (VRs_cons (by simp only [VR]; rfl) (VRs_cons (by simp only [VR]; rfl) VRs_nil)))

set_option maxRecDepth 100000 in
theorem lifted (os : Os) (started : os.Started) (H : Type) (enc : TypeId × Value → H) :
    ReturnsInHanded {} Try.checked os 8 .any (Rows.ratioOrderSpec.pre6 enc Try.prog Try.f8 Rows.ratioOrderRow.domain false) (Rows.ratioOrderSpec.post enc Try.prog Try.f8 false true false false) := by
  refine returnsInHanded_of_change (C := Try.checked) own started (by kernel_rfl) Try.func8
    (ChangeSpec.witness6 (enc := enc) (C := Try.checked) false ⟨#[], #[.float .f64 0, .float .f64 0, .float .f64 0], []⟩ 8 (by kernel_rfl) (by kernel_rfl) (by kernel_rfl) (by kernel_rfl)) ?_
  intro W base args ds gs before hval0 hW hcnd _
  have hval : ∀ (j : Nat) t v, Try.f8.params[j]? = some t → args[j]? = some v → Value.okWide Try.prog W .any base t v := hval0
  have hW' := hW
  obtain ⟨p, q, hA0, hV, rfl, hfz, hnd⟩ := hW
  have hA : DataW.TrodAll enc Try.prog W 0 (fun _ => true) true Try.f8.params.toList args.toList ds p := hA0
  have hAll := hA
  rw [Try.params8] at hA hval hAll
  obtain ⟨v0, v1, v2, d0, d1, d2, p0, p1, p2, rfl, rfl, rfl, h0, h1, h2⟩ := trodAll_three hA
  obtain ⟨rfl, rfl⟩ := trodVars_none hV
  obtain ⟨x0, rfl, rfl, rfl, w0⟩ := open_float Try.underlying62 (hval 0 62 _ rfl rfl) h0
  obtain ⟨x1, rfl, rfl, rfl, w1⟩ := open_float Try.underlying62 (hval 1 62 _ rfl rfl) h1
  obtain ⟨x2, rfl, rfl, rfl, w2⟩ := open_float Try.underlying62 (hval 2 62 _ rfl rfl) h2
  clear hA0 hval0
  let x : Nat → Nat := fun i => match i with
    | 0 => x0
    | 1 => x1
    | _ => x2
  refine (walk x W).mono fun e W' ⟨he, hg⟩ => ?_
  subst he
  exact ⟨_, rfl, _, [], _, [], _, [], hW', trodAll_cons_mk (shut_bool Try.underlying4 _) trodAll_mk0, trodAll_stays laid hg _ _ _ _ hAll (fun x hx => by simp at hx) (by kernel_rfl), rfl, hg.frame _, fun h => by cases h⟩

theorem over : Rows.ratioOrderRow.holds Try.pinned (OpenSpec.ofChange Rows.ratioOrderSpec) :=
  OpenClaim.holds_of_wide 8 Try.f8 rfl rfl rfl rfl rfl rfl rfl ⟨rfl, rfl, rfl, rfl, rfl⟩ rfl rfl rfl rfl rfl (by kernel_rfl) Try.func8 (by kernel_rfl)
    (of_decide_eq_true (by kernel_rfl)) (by unfold Func.isWrapper; first | (rw [if_pos (by decide +kernel)]; kernel_rfl) | (rw [if_neg (by decide +kernel)]; exact ⟨rfl, rfl⟩))
    (fun os started H enc _ => lifted os started H enc)

/-- The statement. -/
theorem proved : Rows.RatioOrderSaid :=
  over
#print axioms proved
end Go.Proofs.Ytdjejidlonfjnaa.ratioOrder
