/- Numbers from 0 to 2^31 - 1 in parts of seven bits, and their order as bytes: plain mathematics. No condition. -/
import Derived.Test.YtioeihajajacdaaEvl
import Derived.Laws.BytesArg
import Derived.Laws.BitsLemmas
import Derived.IntWalk
namespace Go.Ev.Dig

def N (n : Int) : Nat → Int
  | 0 => n
  | j + 1 => IntKind.i64.wrap ((N n j).tdiv 128)
def R (n : Int) (j : Nat) : Int := (N n j).tmod 128
def C (n : Int) (j : Nat) : Int := IntKind.u8.wrap (R n j)
def D (n : Int) (j : Nat) : Int := IntKind.u8.wrap (C n j + 128)

theorem N_bd {n : Int} (h0 : 0 ≤ n) (h1 : n ≤ 2147483647) : ∀ j, 0 ≤ N n j ∧ N n j ≤ 2147483647
  | 0 => ⟨h0, h1⟩
  | j + 1 => by
    obtain ⟨a, b⟩ := N_bd h0 h1 j
    have e : (N n j).tdiv 128 = N n j / 128 := Int.tdiv_eq_ediv_of_nonneg a
    simp only [N, e]
    rw [IntWalk.i64_in _ (by omega)]
    omega

theorem N_succ {n : Int} (h0 : 0 ≤ n) (h1 : n ≤ 2147483647) (j : Nat) : N n (j + 1) = N n j / 128 := by
  obtain ⟨a, b⟩ := N_bd h0 h1 j
  have e : (N n j).tdiv 128 = N n j / 128 := Int.tdiv_eq_ediv_of_nonneg a
  simp only [N, e]
  exact IntWalk.i64_in _ (by omega)

theorem R_eq {n : Int} (h0 : 0 ≤ n) (h1 : n ≤ 2147483647) (j : Nat) : R n j = N n j % 128 := Int.tmod_eq_emod_of_nonneg (N_bd h0 h1 j).1
theorem C_eq {n : Int} (h0 : 0 ≤ n) (h1 : n ≤ 2147483647) (j : Nat) : C n j = N n j % 128 := by
  unfold C; rw [R_eq h0 h1, IntWalk.u8_in _ (by omega)]
theorem D_eq {n : Int} (h0 : 0 ≤ n) (h1 : n ≤ 2147483647) (j : Nat) : D n j = N n j % 128 + 128 := by
  unfold D; rw [C_eq h0 h1, IntWalk.u8_in _ (by omega)]

/-! ### lists of digits, the highest first -/
def enc : List Nat → List UInt8
  | [] => []
  | [x] => [UInt8.ofNat x]
  | x :: y :: r => UInt8.ofNat (x + 128) :: enc (y :: r)
def val : List Nat → Nat
  | [] => 0
  | x :: r => x * 128 ^ r.length + val r

theorem val_lt : ∀ (l : List Nat), (∀ x ∈ l, x < 128) → val l < 128 ^ l.length
  | [], _ => by simp [val]
  | x :: r, h => by
    have h1 := val_lt r fun y hy => h y (List.mem_cons_of_mem _ hy)
    have h2 := h x (by simp)
    simp only [val, List.length_cons, Nat.pow_succ]
    have : x * 128 ^ r.length ≤ 127 * 128 ^ r.length := Nat.mul_le_mul_right _ (by omega)
    omega

theorem u8_lt {a b : Nat} (ha : a < 256) (hb : b < 256) (h : a < b) : decide (UInt8.ofNat a < UInt8.ofNat b) = true := by
  rw [decide_eq_true_eq, UInt8.lt_iff_toNat_lt, UInt8.toNat_ofNat', UInt8.toNat_ofNat', Nat.mod_eq_of_lt (by omega), Nat.mod_eq_of_lt (by omega)]
  exact h

theorem u8_ne {a b : Nat} (ha : a < 256) (hb : b < 256) (h : a ≠ b) : UInt8.ofNat a ≠ UInt8.ofNat b := by
  intro e
  have := congrArg UInt8.toNat e
  rw [UInt8.toNat_ofNat', UInt8.toNat_ofNat', Nat.mod_eq_of_lt (by omega), Nat.mod_eq_of_lt (by omega)] at this
  exact h this

theorem less : ∀ (l m : List Nat), l.length = m.length → (∀ x ∈ l, x < 128) → (∀ x ∈ m, x < 128) → val l < val m → Op.bytesLess (enc l) (enc m) = true
  | [], [], _, _, _, h => by simp [val] at h
  | [], _ :: _, h, _, _, _ => by simp at h
  | _ :: _, [], h, _, _, _ => by simp at h
  | [x], [y], _, hl, hm, h => by
    simp only [val, List.length_nil, Nat.pow_zero, Nat.mul_one, Nat.add_zero] at h
    have h1 := hl x (by simp)
    have h2 := hm y (by simp)
    simp only [enc, Op.bytesLess, Bool.or_eq_true]
    exact .inl (u8_lt (by omega) (by omega) h)
  | [_], _ :: _ :: _, h, _, _, _ => by simp at h
  | _ :: _ :: _, [_], h, _, _, _ => by simp at h
  | x :: x' :: r, y :: y' :: s, hlen, hl, hm, h => by
    have h1 := hl x (by simp)
    have h2 := hm y (by simp)
    have hlen' : (x' :: r).length = (y' :: s).length := by simpa using hlen
    have b1 := val_lt (x' :: r) fun z hz => hl z (List.mem_cons_of_mem _ hz)
    have b2 := val_lt (y' :: s) fun z hz => hm z (List.mem_cons_of_mem _ hz)
    have e1 : val (x :: x' :: r) = x * 128 ^ (x' :: r).length + val (x' :: r) := rfl
    have e2 : val (y :: y' :: s) = y * 128 ^ (y' :: s).length + val (y' :: s) := rfl
    rw [e1, e2, hlen'] at h
    rw [hlen'] at b1
    simp only [enc, Op.bytesLess, Bool.or_eq_true, Bool.and_eq_true, beq_iff_eq]
    rcases Nat.lt_trichotomy x y with g | g | g
    · exact .inl (u8_lt (by omega) (by omega) (by omega))
    · subst g
      exact .inr ⟨rfl, less (x' :: r) (y' :: s) hlen' (fun z hz => hl z (List.mem_cons_of_mem _ hz)) (fun z hz => hm z (List.mem_cons_of_mem _ hz)) (by omega)⟩
    · exfalso
      have : (y + 1) * 128 ^ (y' :: s).length ≤ x * 128 ^ (y' :: s).length := Nat.mul_le_mul_right _ (by omega)
      rw [Nat.add_mul] at this
      omega

theorem begins : ∀ (l m : List Nat), l ≠ [] → l.length < m.length → (∀ x ∈ l, x < 128) → (∀ x ∈ m, x < 128) → enc l ≠ (enc m).take l.length
  | [], _, h, _, _, _ => absurd rfl h
  | _ :: _, [], _, h, _, _ => by simp at h
  | [_], [_], _, h, _, _ => by simp at h
  | [x], y :: y' :: s, _, _, hl, hm => by
    have h1 := hl x (by simp)
    have h2 := hm y (by simp)
    simp only [enc, List.length_cons, List.length_nil, Nat.zero_add, List.take_succ_cons, List.take_zero, ne_eq, List.cons.injEq, and_true]
    exact u8_ne (by omega) (by omega) (by omega)
  | _ :: _ :: _, [_], _, h, _, _ => by simp at h
  | x :: x' :: r, y :: y' :: s, _, h, hl, hm => by
    intro e
    have e1 : enc (x :: x' :: r) = UInt8.ofNat (x + 128) :: enc (x' :: r) := rfl
    have e2 : enc (y :: y' :: s) = UInt8.ofNat (y + 128) :: enc (y' :: s) := rfl
    rw [e1, e2, List.length_cons, List.take_succ_cons] at e
    exact begins (x' :: r) (y' :: s) (by simp) (by simpa using h) (fun z hz => hl z (List.mem_cons_of_mem _ hz)) (fun z hz => hm z (List.mem_cons_of_mem _ hz)) (List.cons.inj e).2

/-! ### a number's digits -/
def d (n : Int) (j : Nat) : Nat := (N n j % 128).toNat
def digs (n : Int) : Nat → List Nat
  | 0 => []
  | k + 1 => d n k :: digs n k

theorem digs_length (n : Int) : ∀ k, (digs n k).length = k
  | 0 => rfl
  | k + 1 => by simp [digs, digs_length n k]
theorem digs_lt (n : Int) : ∀ k, ∀ x ∈ digs n k, x < 128
  | 0, x, h => by cases h
  | k + 1, x, h => by
    rcases List.mem_cons.1 h with rfl | h
    · unfold d; omega
    · exact digs_lt n k x h

theorem val_digs {n : Int} (h0 : 0 ≤ n) (h1 : n ≤ 2147483647) : ∀ k, ((val (digs n k) : Nat) : Int) + N n k * ((128 ^ k : Nat) : Int) = n
  | 0 => by simp [digs, val, N]
  | k + 1 => by
    have ih := val_digs h0 h1 k
    have hs := N_succ h0 h1 k
    obtain ⟨a, b⟩ := N_bd h0 h1 k
    have hd : ((d n k : Nat) : Int) = N n k % 128 := by unfold d; omega
    have e : N n k = 128 * N n (k + 1) + ((d n k : Nat) : Int) := by rw [hs, hd]; omega
    simp only [digs, val, digs_length]
    rw [Int.natCast_add, Int.natCast_mul, Nat.pow_succ, Int.natCast_mul]
    have ih' := ih
    rw [e, Int.add_mul] at ih'
    have r : N n (k + 1) * (((128 ^ k : Nat) : Int) * ((128 : Nat) : Int)) = 128 * N n (k + 1) * ((128 ^ k : Nat) : Int) := by
      rw [show ((128 : Nat) : Int) = 128 from rfl, Int.mul_comm (((128 ^ k : Nat) : Int)) 128, ← Int.mul_assoc, Int.mul_comm (N n (k + 1)) 128]
    rw [r]
    omega

/-- How many bytes a number has. -/
def size (n : Int) : Nat := if n < 128 then 1 else if n < 16384 then 2 else if n < 2097152 then 3 else if n < 268435456 then 4 else 5

theorem pos_iff {n : Int} (h0 : 0 ≤ n) (h1 : n ≤ 2147483647) : decide (0 < N n 1) = decide (1 < size n) ∧ decide (0 < N n 2) = decide (2 < size n) ∧ decide (0 < N n 3) = decide (3 < size n) ∧ decide (0 < N n 4) = decide (4 < size n) ∧ decide (0 < N n 5) = decide (5 < size n) := by
  have a1 := N_succ h0 h1 0
  have a2 := N_succ h0 h1 1
  have a3 := N_succ h0 h1 2
  have a4 := N_succ h0 h1 3
  have a5 := N_succ h0 h1 4
  have a0 : N n 0 = n := rfl
  simp only [Nat.zero_add, Nat.reduceAdd] at a1 a2 a3 a4 a5
  rw [a0] at a1
  unfold size
  refine ⟨?_, ?_, ?_, ?_, ?_⟩ <;> (congr 1; apply propext; split <;> (try split) <;> (try split) <;> (try split) <;> omega)

theorem N_size {n : Int} (h0 : 0 ≤ n) (h1 : n ≤ 2147483647) : N n (size n) = 0 := by
  have a1 := N_succ h0 h1 0
  have a2 := N_succ h0 h1 1
  have a3 := N_succ h0 h1 2
  have a4 := N_succ h0 h1 3
  have a5 := N_succ h0 h1 4
  have a0 : N n 0 = n := rfl
  simp only [Nat.zero_add, Nat.reduceAdd] at a1 a2 a3 a4 a5
  rw [a0] at a1
  unfold size
  split
  · omega
  · split
    · omega
    · split
      · omega
      · split <;> omega

theorem val_size {n : Int} (h0 : 0 ≤ n) (h1 : n ≤ 2147483647) : ((val (digs n (size n)) : Nat) : Int) = n := by
  have := val_digs h0 h1 (size n)
  rw [N_size h0 h1, Int.zero_mul, Int.add_zero] at this
  exact this

theorem size_mono {n m : Int} (h : n < m) : size n ≤ size m := by
  unfold size
  split <;> split <;> (try split) <;> (try split) <;> (try split) <;> (try split) <;> (try split) <;> (try split) <;> omega
theorem size_pos (n : Int) : 1 ≤ size n ∧ size n ≤ 5 := by
  unfold size
  split <;> (try split) <;> (try split) <;> (try split) <;> omega

/-- A number's bytes. -/
def bytes (n : Int) : List UInt8 := enc (digs n (size n))

theorem bytes_length_aux : ∀ (l : List Nat), (enc l).length = l.length
  | [] => rfl
  | [_] => rfl
  | x :: y :: r => by simp only [enc, List.length_cons, bytes_length_aux (y :: r)]

theorem bytes_less {n m : Int} (h0 : 0 ≤ n) (h1 : m ≤ 2147483647) (h : n < m) (hs : size n = size m) : Op.bytesLess (bytes n) (bytes m) = true := by
  refine less _ _ (by rw [digs_length, digs_length, hs]) (digs_lt _ _) (digs_lt _ _) ?_
  have e1 := val_size h0 (by omega : n ≤ 2147483647)
  have e2 := val_size (by omega : 0 ≤ m) h1
  omega

theorem less_irrefl : ∀ (l : List UInt8), Op.bytesLess l l = false
  | [] => rfl
  | a :: r => by simp [Op.bytesLess, less_irrefl r]

theorem bytes_begin {n m : Int} (h0 : 0 ≤ n) (h1 : m ≤ 2147483647) (h : n < m) : bytes n ≠ (bytes m).take (size n) := by
  rcases Nat.lt_or_ge (size n) (size m) with g | g
  · have := begins (digs n (size n)) (digs m (size m)) (by have := size_pos n; intro e; have := congrArg List.length e; rw [digs_length] at this; simp at this; omega) (by rw [digs_length, digs_length]; exact g) (digs_lt _ _) (digs_lt _ _)
    rw [digs_length] at this
    exact this
  · have hs : size n = size m := by have := size_mono h; omega
    intro e
    have hl := bytes_less h0 h1 h hs
    have : (bytes m).take (size n) = bytes m := List.take_of_length_le (by unfold bytes; rw [bytes_length_aux, digs_length, hs]; exact Nat.le_refl _)
    rw [this] at e
    rw [e, less_irrefl] at hl
    cases hl

end Go.Ev.Dig
