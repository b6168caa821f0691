/-
  Contracts of this seat: what loops and calls leave, for all inputs. No condition.
-/
import Derived.Test.YtlmcjfcfmcdcpaaDoorSycp
import Derived.Test.YtlmcjfcfmcdcpaaDoorCo
import Derived.Test.YtlmcjfcfmcdcpaaDoorGa
import Derived.Test.YtlmcjfcfmcdcpaaDoorGm
import Derived.Test.YtlmcjfcfmcdcpaaDoorGx
import Derived.Test.YtlmcjfcfmcdcpaaDoorFl
import Derived.Test.YtlmcjfcfmcdcpaaDoorFu
set_option linter.unusedSimpArgs false
set_option linter.unusedVariables false
namespace Go.Proofs.YtlmcjfcfmcdcpaaDoor.Fv
open Go.RowKit Go.Ev Go.Proofs.YtlmcjfcfmcdcpaaDoor.Co

open Go.Proofs.YtlmcjfcfmcdcpaaDoor.Ga
open Go.Proofs.YtlmcjfcfmcdcpaaDoor.Gm
open Go.Proofs.YtlmcjfcfmcdcpaaDoor.Gx
open Go.Proofs.YtlmcjfcfmcdcpaaDoor.Fl
open Go.Proofs.YtlmcjfcfmcdcpaaDoor.Fu

theorem shrI {n : Int} (k : Nat) (q : Int) (hk : k ≤ 64) (hq : q = 2 ^ k) (h0 : 0 ≤ n) : iopI .shr .i64 n (k : Int) = n / q := by
  show Int.fdiv n (2 ^ (min (k : Int).toNat 64)) = _
  rw [show min (k : Int).toNat 64 = k by omega, ← hq, Int.fdiv_eq_ediv_of_nonneg _ (by rw [hq]; exact Int.pow_nonneg (by omega))]
theorem byte24 {n : Int} (h : 0 ≤ n) : byteI n 24 = n / 16777216 % 256 := by
  show IntKind.u8.wrap (iopI .shr .i64 n ((24 : Nat) : Int)) = _
  rw [shrI 24 16777216 (by omega) (by decide) h, wrap8 (Int.ediv_nonneg h (by omega))]
theorem byte16 {n : Int} (h : 0 ≤ n) : byteI n 16 = n / 65536 % 256 := by
  show IntKind.u8.wrap (iopI .shr .i64 n ((16 : Nat) : Int)) = _
  rw [shrI 16 65536 (by omega) (by decide) h, wrap8 (Int.ediv_nonneg h (by omega))]
theorem byte8 {n : Int} (h : 0 ≤ n) : byteI n 8 = n / 256 % 256 := by
  show IntKind.u8.wrap (iopI .shr .i64 n ((8 : Nat) : Int)) = _
  rw [shrI 8 256 (by omega) (by decide) h, wrap8 (Int.ediv_nonneg h (by omega))]
theorem be_four {n : Int} (h0 : 0 ≤ n) (h1 : n ≤ 2147483647) : be (fourI n) = n := by
  unfold fourI be
  rw [byte24 h0, byte16 h0, byte8 h0, wrap8 h0]
  simp only [List.foldl]
  omega
theorem four_be {a b c e : Int} (ha : 0 ≤ a ∧ a ≤ 255) (hb : 0 ≤ b ∧ b ≤ 255) (hc : 0 ≤ c ∧ c ≤ 255) (he : 0 ≤ e ∧ e ≤ 255) : fourI (((a * 256 + b) * 256 + c) * 256 + e) = [a, b, c, e] := by
  unfold fourI
  rw [byte24 (by omega), byte16 (by omega), byte8 (by omega), wrap8 (by omega)]
  simp only [List.cons.injEq, and_true]
  omega
theorem prt_4 {x : List Int} {o : Int} (h0 : 0 ≤ o) (hl : o + 4 ≤ x.length) : prt x o (o + 4) = [(x[o.toNat]?).getD 0, (x[(o + 1).toNat]?).getD 0, (x[(o + 2).toNat]?).getD 0, (x[(o + 3).toNat]?).getD 0] := by
  rw [prt_step (x := x) (o := o) (t := o + 4) h0 (by omega) (by omega), prt_step (x := x) (o := o + 1) (t := o + 4) (by omega) (by omega) (by omega), show o + 1 + 1 = o + 2 by omega, prt_step (x := x) (o := o + 2) (t := o + 4) (by omega) (by omega) (by omega), show o + 2 + 1 = o + 3 by omega, prt_step (x := x) (o := o + 3) (t := o + 4) (by omega) (by omega) (by omega), prt_nil (x := x) (o := o + 3 + 1) (t := o + 4) (by omega) (by omega)]
theorem four_back {x : List Int} (hx : ∀ c ∈ x, 0 ≤ c ∧ c ≤ 255) {o t : Int} (h0 : 0 ≤ o) (ht : t = o + 4) (hl : t ≤ x.length) : fourI (be (prt x o t)) = prt x o t := by
  subst ht
  rw [be_4 (o1 := o + 1) (o2 := o + 2) (o3 := o + 3) h0 rfl rfl rfl rfl hl, prt_4 h0 hl]
  exact four_be (sel_in hx _) (sel_in hx _) (sel_in hx _) (sel_in hx _)
theorem lay_at (t s b q a : Int) (B : List Int) : prt (putI (layI t s b q a B)) 0 2 = [83, 75] ∧ prt (putI (layI t s b q a B)) 2 3 = [1] ∧ prt (putI (layI t s b q a B)) 3 4 = [IntKind.u8.wrap t] ∧ prt (putI (layI t s b q a B)) 4 8 = fourI s ∧ prt (putI (layI t s b q a B)) 8 12 = fourI b ∧
    prt (putI (layI t s b q a B)) 12 16 = fourI q ∧ prt (putI (layI t s b q a B)) 16 20 = fourI a ∧ prt (putI (layI t s b q a B)) 20 22 = [byteI B.length 8, IntKind.u8.wrap B.length] := ⟨rfl, rfl, rfl, rfl, rfl, rfl, rfl, rfl⟩
theorem prt_mid {H B S : List Int} {h n : Int} (hh : h = H.length) (hn : n = B.length) : prt (H ++ (B ++ S)) h (h + n) = B := by
  subst hh hn
  unfold prt
  rw [show ((H.length : Int) + B.length).toNat = H.length + B.length by omega, show ((H.length : Int)).toNat = H.length by omega, List.take_length_add_append, List.drop_left, List.take_left]
theorem lay_body (t s b q a : Int) (B : List Int) {n : Int} (hn : n = B.length) : prt (putI (layI t s b q a B)) 22 (22 + n) = B := by
  have h : putI (layI t s b q a B) = (layI t s b q a []).take 20 ++ [byteI B.length 8, IntKind.u8.wrap B.length] ++ (B ++ le4 (sumI (layI t s b q a B))) := rfl
  rw [h]
  exact prt_mid (by rfl) hn
theorem good_put (P : List Int) : goodI (putI P) = 1 := by
  unfold goodI
  rw [prt_put (P := P) (n := ((putI P).length : Int) - 4) (by have := put_len P; omega), if_pos rfl]
theorem err0 {t s b q a l : Int} : errI t s b q a l = 0 → (1 ≤ t ∧ t ≤ 5 ∧ 0 ≤ s ∧ s ≤ 2147483647 ∧ 0 ≤ b ∧ b ≤ 2147483647 ∧ 0 ≤ q ∧ q ≤ 2147483647 ∧ 0 ≤ a ∧ a ≤ 2147483647 ∧ l ≤ 1400 ∧ saysP t s b q a l) := by
  unfold errI rangeP
  by_cases hs : saysP t s b q a l
  · simp only [hs, if_true, and_true]
    repeat' split
    all_goals omega
  · simp only [hs, if_false]
    repeat' split
    all_goals omega
/-- What is put is read as it was. -/
theorem read_put {t s b q a l : Int} {B : List Int} (he : errI t s b q a l = 0) (hl : l = B.length) : readI (putI (layI t s b q a B)) = 0 ∧ be (prt (putI (layI t s b q a B)) 3 4) = t ∧ be (prt (putI (layI t s b q a B)) 4 8) = s ∧ be (prt (putI (layI t s b q a B)) 8 12) = b ∧ be (prt (putI (layI t s b q a B)) 12 16) = q ∧ be (prt (putI (layI t s b q a B)) 16 20) = a := by
  obtain ⟨e1, e2, e3, e4, e5, e6, e7, e8, e9, e10, e11, e12⟩ := err0 he
  obtain ⟨a1, a2, a3, a4, a5, a6, a7, a8⟩ := lay_at t s b q a B
  have hL : ((putI (layI t s b q a B)).length : Int) = 26 + l := by
    have h1 := put_len (layI t s b q a B)
    have h2 := lay_len t s b q a B
    omega
  have b3 : be [IntKind.u8.wrap t] = t := by
    rw [wrap8 (by omega)]; simp only [be, List.foldl]; omega
  have b8 : be [byteI B.length 8, IntKind.u8.wrap B.length] = l := by
    rw [byte8 (by omega), wrap8 (by omega)]; simp only [be, List.foldl]; omega
  refine ⟨?_, by rw [a3, b3], by rw [a4, be_four e3 e4], by rw [a5, be_four e5 e6], by rw [a6, be_four e7 e8], by rw [a7, be_four e9 e10]⟩
  unfold readI
  rw [good_put, hL, if_neg (by omega), if_neg (by omega), if_neg (by omega), a1, a2, a3, a4, a5, a6, a7, a8, b3, b8, be_four e3 e4, be_four e5 e6, be_four e7 e8, be_four e9 e10]
  unfold sayI rangeP
  rw [if_neg (by decide), if_neg (by decide), if_neg (by omega), if_neg (by omega), if_neg (by omega), show 26 + l - 26 = l by omega, if_pos e12]
/-- What is read is put as it was. -/
theorem put_read {z : List Int} (hz : ∀ c ∈ z, 0 ≤ c ∧ c ≤ 255) {l : Int} (hl : l = z.length) (hr : readI z = 0) : 26 ≤ l ∧ l ≤ 1426 ∧ errI (be (prt z 3 4)) (be (prt z 4 8)) (be (prt z 8 12)) (be (prt z 12 16)) (be (prt z 16 20)) (l - 26) = 0 ∧
    putI (layI (be (prt z 3 4)) (be (prt z 4 8)) (be (prt z 8 12)) (be (prt z 12 16)) (be (prt z 16 20)) (prt z 22 (l - 4))) = z := by
  unfold readI at hr
  rw [← hl] at hr
  split at hr
  · omega
  split at hr
  · omega
  split at hr
  · omega
  rename_i h1 h2 hg
  have hg := Decidable.not_not.1 hg
  unfold goodI at hg
  split at hg
  case isFalse => omega
  rename_i hp
  rw [← hl] at hp
  unfold sayI at hr
  split at hr
  · omega
  split at hr
  · omega
  split at hr
  · omega
  split at hr
  · omega
  split at hr
  · omega
  split at hr
  case isFalse => omega
  rename_i c1 c2 c3 c4 c5 c6
  have c1 := Decidable.not_not.1 c1
  have c2 := Decidable.not_not.1 c2
  have c4 := Decidable.not_not.1 c4
  have c5 := Decidable.not_not.1 c5
  refine ⟨by omega, by omega, ?_, ?_⟩
  · unfold errI
    rw [if_neg c3, if_neg (by exact fun h => h c4), if_neg (by omega), if_pos c6]
  · have x0 := sel_in hz 0
    have x1 := sel_in hz 1
    have x2 := sel_in hz 2
    have x3 := sel_in hz 3
    have x20 := sel_in hz 20
    have x21 := sel_in hz 21
    rw [be_2 (x := z) (o := 0) (o1 := 1) (t := 2) (by omega) (by omega) (by omega) (by omega)] at c1
    rw [be_1 (x := z) (o := 2) (t := 3) (by omega) (by omega) (by omega)] at c2
    rw [be_2 (x := z) (o := 20) (o1 := 21) (t := 22) (by omega) (by omega) (by omega) (by omega)] at c5
    simp only [show Int.toNat 0 = 0 from rfl, show Int.toNat 1 = 1 from rfl, show Int.toNat 2 = 2 from rfl, show Int.toNat 20 = 20 from rfl, show Int.toNat 21 = 21 from rfl] at c1 c2 c5
    have hB : ((prt z 22 (l - 4)).length : Int) = l - 26 := by rw [prt_length (by omega) (by omega) (by omega)]; omega
    have d1 := prt_app (x := z) (o := 0) (m := 4) (t := l - 4) (by omega) (by omega) (by omega) (by omega)
    have d2 := prt_app (x := z) (o := 4) (m := 8) (t := l - 4) (by omega) (by omega) (by omega) (by omega)
    have d3 := prt_app (x := z) (o := 8) (m := 12) (t := l - 4) (by omega) (by omega) (by omega) (by omega)
    have d4 := prt_app (x := z) (o := 12) (m := 16) (t := l - 4) (by omega) (by omega) (by omega) (by omega)
    have d5 := prt_app (x := z) (o := 16) (m := 20) (t := l - 4) (by omega) (by omega) (by omega) (by omega)
    have d6 := prt_app (x := z) (o := 20) (m := 22) (t := l - 4) (by omega) (by omega) (by omega) (by omega)
    have f0 := prt_4 (x := z) (o := 0) (by omega) (by omega)
    have f6 : prt z 20 22 = [(z[20]?).getD 0, (z[21]?).getD 0] := by
      rw [prt_step (x := z) (o := 20) (t := 22) (by omega) (by omega) (by omega), prt_step (x := z) (o := 20 + 1) (t := 22) (by omega) (by omega) (by omega), prt_nil (x := z) (o := 20 + 1 + 1) (t := 22) (by omega) (by omega)]
      rfl
    simp only [show ((0 : Int) + 4) = 4 from rfl, show ((0 : Int) + 1).toNat = 1 from rfl, show ((0 : Int) + 2).toNat = 2 from rfl, show ((0 : Int) + 3).toNat = 3 from rfl, show Int.toNat 0 = 0 from rfl] at f0
    have key : layI (be (prt z 3 4)) (be (prt z 4 8)) (be (prt z 8 12)) (be (prt z 12 16)) (be (prt z 16 20)) (prt z 22 (l - 4)) = prt z 0 (l - 4) := by
      rw [d1, d2, d3, d4, d5, d6, f0, f6]
      unfold layI
      rw [four_back (x := z) (o := 4) (t := 8) hz (by omega) (by omega) (by omega), four_back (x := z) (o := 8) (t := 12) hz (by omega) (by omega) (by omega), four_back (x := z) (o := 12) (t := 16) hz (by omega) (by omega) (by omega), four_back (x := z) (o := 16) (t := 20) hz (by omega) (by omega) (by omega), be_1 (x := z) (o := 3) (t := 4) (by omega) (by omega) (by omega), hB, byte8 (by omega), show Int.toNat 3 = 3 from rfl, wrap8 (n := (z[3]?).getD 0) x3.1, wrap8 (n := l - 26) (by omega)]
      have y0 : (z[0]?).getD 0 = 83 := by omega
      have y1 : (z[1]?).getD 0 = 75 := by omega
      have y3 : (z[3]?).getD 0 % 256 = (z[3]?).getD 0 := by omega
      have y20 : (l - 26) / 256 % 256 = (z[20]?).getD 0 := by omega
      have y21 : (l - 26) % 256 = (z[21]?).getD 0 := by omega
      rw [y0, y1, c2, y3, y20, y21]
      simp only [List.append_assoc]
    rw [key]
    exact hp.symm

end Go.Proofs.YtlmcjfcfmcdcpaaDoor.Fv
