/- What comes in as a struct: its fields, cell by cell. No condition. -/
import Derived.Test.YtmlocknojpmfpaaSycp
import Derived.ChangeArms
set_option linter.unusedSimpArgs false
set_option linter.unusedVariables false
namespace Go.Ev
open Go.ChangeShapes Go.WideShapes Go.ChangeAt Go.RowKit

def structIs (P : Program) (t : TypeId) (L : List (TypeId × Nat × Nat)) : Bool :=
 match P.underlying t with
 | some (.struct fs) => decide (fs.toList.map (fun f => (f.type, f.offset, P.cellsOf f.type)) = L)
 | _ => false

theorem structIs_iff {P : Program} {t : TypeId} {L : List (TypeId × Nat × Nat)} (h : structIs P t L = true) : ∃ fs, P.underlying t = some (.struct fs) ∧ fs.toList.map (fun f => (f.type, f.offset, P.cellsOf f.type)) = L := by
 unfold structIs at h;split at h
 ·rename_i fs hf; exact ⟨fs, hf, of_decide_eq_true h⟩
 ·cases h

section
variable {H : Type} {enc : TypeId × Value → H} {P : Program} {W : World} {sp : Nat → Bool} {held : Bool}

theorem trod_pieces {t : TypeId} {L : List (TypeId × Nat × Nat)} (ht : structIs P t L = true) {cs : List Value} (h : ∃ m y, DataW.trod enc P W 0 sp held m t cs = some y) :
  ∀ p ∈ L, ∃ m y, DataW.trod enc P W 0 sp held m p.1 ((cs.drop p.2.1).take p.2.2) = some y := by
 obtain ⟨fs, hf, hL⟩ := structIs_iff ht;obtain ⟨m, y, h⟩ := h;obtain ⟨xs, n, _, rfl, hl, hlen, hx⟩ := DataW.trod_struct hf h;intro p hp;rw [← hL, List.mem_map] at hp;obtain ⟨f, hfm, rfl⟩ := hp;obtain ⟨i, hi, he⟩ := List.getElem_of_mem hfm;have h1 := hx i f (by rw [← he]; simp at hi ⊢);have h2 : xs[i]? = some (xs[i]'(by rw [hlen]; simpa using hi)) := List.getElem?_eq_getElem _;rw [h2] at h1;exact ⟨n, _, h1⟩

theorem in_struct {t : TypeId} {L : List (TypeId × Nat × Nat)} (ht : structIs P t L = true) {n : Nat} (hn : P.cellsOf t = n) {v : Value} {d : DataW H} {ps : List MemPlace} {base : Nat}
  (hv : Value.okWide P W .any base t v) (h : DataW.Trod enc P W 0 sp held t v d ps) : ∃ cs : List Value, v = .agg cs.toArray ∧ cs.length = n ∧ ∃ m y, DataW.trod enc P W 0 sp held m t cs = some y := by
 obtain ⟨fs, hf, hL⟩ := structIs_iff ht;obtain ⟨cs, rfl, hs⟩ := okWide_struct hf hv;obtain ⟨m, hm⟩ := h;exact ⟨cs.toList, by simp, by rw [← hn, ← hs]; simp, m, _, by simpa [Value.cells] using hm⟩

theorem leaf_int {t : TypeId} {k : IntKind} (ht : P.underlying t = some (.int k)) {c : Value} (h : ∃ m y, DataW.trod enc P W 0 sp held m t [c] = some y) : ∃ n, c = .int k n ∧ inK k n := by
 obtain ⟨m, y, h⟩ := h;obtain ⟨n, h1, _, hw⟩ := DataW.trod_int ht h;simp only [List.cons.injEq, and_true] at h1;exact ⟨n, h1, wf_inK hw⟩

theorem leaf_bool {t : TypeId} (ht : P.underlying t = some .bool) {c : Value} (h : ∃ m y, DataW.trod enc P W 0 sp held m t [c] = some y) : ∃ b, c = .bool b := by
 obtain ⟨m, y, h⟩ := h;obtain ⟨b, h1, _⟩ := DataW.trod_bool ht h;simp only [List.cons.injEq, and_true] at h1;exact ⟨b, h1⟩

theorem leaf_str {t : TypeId} (ht : P.underlying t = some .string) {c : Value} (h : ∃ m y, DataW.trod enc P W 0 sp held m t [c] = some y) : ∃ s : ByteArray, c = .string s ∧ s.size ≤ 9223372036854775807 := by
 obtain ⟨m, y, h⟩ := h;obtain ⟨s, h1, _, hw⟩ := DataW.trod_string ht h;simp only [List.cons.injEq, and_true] at h1;exact ⟨s, h1, by simp only [maxLen] at hw; omega⟩

theorem leaf_any {t el : TypeId} (ht : P.underlying t = some (.slice el)) {c : Value} (h : ∃ m y, DataW.trod enc P W 0 sp held m t [c] = some y) : c.oneCell' = true := by
 obtain ⟨m, y, h⟩ := h;rcases DataW.trod_slice ht h with ⟨h1, _⟩ | ⟨a, len, cap, elems, rest, n, _, h1, _⟩
 all_goals
  simp only [List.cons.injEq, and_true] at h1;rw [h1]; rfl

structure InSliceW (W : World) (k : IntKind) (w : Nat) (v : Value) (b off len cap : Nat) (zs : List Int) : Prop where
 eq : v = .slice (some ⟨b, off, none⟩) len cap
 pos : 1 ≤ len
 le : len ≤ cap
 max : cap ≤ 9223372036854775807
 len : zs.length = len * w
 rng : ∀ n ∈ zs, inK k n
 blk : b < W.heap.size
 row : ∃ arr el fz, W.heap[b]? = some (.cells arr el fz) ∧ ∀ j n, zs[j]? = some n → arr[off + j]? = some (.int k n)

theorem leaf_slice {t el : TypeId} {k : IntKind} (ht : P.underlying t = some (.slice el)) (he : P.underlying el = some (.int k)) (hc : P.cellsOf el = 1) {v : Value}
  (h : ∃ m y, DataW.trod enc P W 0 (fun _ => true) held m t [v] = some y) : v = .slice none 0 0 ∨ (∃ a c, v = .slice (some a) 0 c) ∨ ∃ b off len cap zs, InSlice W k v b off len cap zs := by
 obtain ⟨fuel, y, hf⟩ := h;rcases open_ints ht he hc hf with ⟨hcs, hx⟩ | ⟨a, len', cap', zs, hcs, _, hl, hm, hz, hx, hcell, hwz⟩
 ·simp only [List.cons.injEq, and_true] at hcs;exact .inl hcs
 ·simp only [List.cons.injEq, and_true] at hcs;subst hcs;simp only [if_true] at hz;right;rcases Nat.eq_zero_or_pos len' with h0 | h0
  ·subst h0; exact .inl ⟨a, cap', rfl⟩
  ·right;obtain ⟨b, off, spot⟩ := a;have hspot : spot = none := by
    have h1 := hcell 0 (by omega);cases spot with
    | none => rfl
    | some x =>
     unfold World.cell? at h1;simp [Addr.add] at h1;split at h1 <;> simp_all
   subst hspot;have h1 := hcell 0 (by omega);rw [show (⟨b, off, Option.none⟩ : Addr).add 0 = ⟨b, off, Option.none⟩ from rfl] at h1;have hb := World.block_lt_of_cell? W _ h1;simp only [World.cell?] at h1;split at h1
   ·rename_i arr el' fz hrow;refine ⟨b, off, len', cap', zs.take len', rfl, h0, hl, by simp only [maxLen] at hm; omega, by simp; omega, fun n hn => wf_inK (hwz n (List.mem_of_mem_take hn)), hb, arr, el', fz, hrow, fun j n hj => ?_⟩;have hjl : j < len' := by
     have := (List.getElem?_eq_some_iff.1 hj).1;simp at this; omega
    have h2 := hcell j (by omega);rw [show (⟨b, off, Option.none⟩ : Addr).add j = ⟨b, off + j, Option.none⟩ from add_none .., cell_row hrow] at h2;rw [h2];rw [List.getElem?_take, if_pos hjl] at hj;simp [List.getD, hj]
   ·cases h1
end

theorem vr_agg {e : Env} {l : List AV} {vs : List Value} (h : VRs e l vs) : VR e (.agg l) (.agg vs.toArray) := by
 simp only [VR]; exact ⟨_, rfl, by simpa using h⟩
theorem vr_any {e : Env} {v : Value} (h : v.oneCell' = true) : VR e .any v := by simp only [VR]; exact h
theorem vr_int {e : Env} {k : IntKind} {n : Int} : VR e (.int k n) (.int k n) := by simp only [VR]
theorem vr_bool {e : Env} {b : Bool} : VR e (.bool b) (.bool b) := by simp only [VR]

end Go.Ev
