/- What comes in as values told by terms: lists of anything that has no pointers, maps, functions within. No condition. -/
import Derived.Test.YtidpndnehbhloaaDoorSypa
import Derived.ChangeArms
import Derived.SizedLaws
set_option linter.unusedSimpArgs false
set_option linter.unusedVariables false
namespace Go.Ev
open Go.ChangeShapes Go.WideShapes Go.ChangeAt Go.RowKit

mutual
def Sh.is (P : Program) : Sh → TypeId → Bool
 | .int k, t => match P.underlying t with
  | some (.int l) => decide (k = l)
  | _ => false
 | .bool, t => match P.underlying t with
  | some .bool => true
  | _ => false
 | .str, t => match P.underlying t with
  | some .string => true
  | _ => false
 | .sl s, t => match P.underlying t with
  | some (.slice e) => Nat.beq (P.cellsOf e) s.size && Nat.ble 1 s.size && Nat.ble 1 (P.bytesOf e) && s.is P e
  | _ => false
 | .agg l, t => match P.underlying t with
  | some (.struct fs) => Nat.beq (P.cellsOf t) (Sh.sizes l) && Sh.ises P l (fs.toList.map fun f => (f.type, f.offset)) 0
  | some (.array n e) => Nat.beq (P.cellsOf t) (Sh.sizes l) && Sh.ises P l ((List.range n).map fun i => (e, i * P.cellsOf e)) 0
  | _ => false
def Sh.ises (P : Program) : List Sh → List (TypeId × Nat) → Nat → Bool
 | [], [], _ => true
 | s :: l, p :: m, o => Nat.beq p.2 o && Nat.beq (P.cellsOf p.1) s.size && s.is P p.1 && Sh.ises P l m (o + s.size)
 | _, _, _ => false
end

mutual
def Sh.lens (B : Nat) : Sh → D → Prop
 | .int _, _ => True
 | .bool, _ => True
 | .str, d => d.toList.length ≤ B
 | .sl s, d => d.toList.length ≤ B ∧ ∀ x ∈ d.toList, s.lens B x
 | .agg l, d => Sh.lenses B l d.toList
def Sh.lenses (B : Nat) : List Sh → List D → Prop
 | [], _ => True
 | _ :: _, [] => True
 | s :: l, d :: r => s.lens B d ∧ Sh.lenses B l r
end

theorem weighsAll {H : Type} {P : Program} {e : TypeId} : ∀ {ds : List (DataW H)} {d : DataW H}, d ∈ ds → ∀ n ∈ d.weights P e, n ∈ DataW.weightsAll P e ds
 | x :: ds, d, hd, n, hn => by
  simp only [DataW.weightsAll, List.mem_append];rcases List.mem_cons.1 hd with rfl | hd
  ·exact .inl hn
  ·exact .inr (weighsAll hd n hn)
def Light {H : Type} (P : Program) (B : Nat) (t : TypeId) (d : DataW H) : Prop := B = 9223372036854775807 ∨ ∀ n ∈ d.weights P t, n ≤ B
theorem weighed {H : Type} {P : Program} {ts us : List TypeId} {ds gs : List (DataW H)} (hZ : (DataW.weightsEach P (ts ++ us) (ds ++ gs)).all (· ≤ reachBytes) = true) {j : Nat} {t : TypeId} {d : DataW H}
  (h1 : ts[j]? = some t) (h2 : ds[j]? = some d) : Light P 140737488351232 t d := .inr fun n hn => by
 have g1 := (List.getElem?_eq_some_iff.1 h1).1;have g2 := (List.getElem?_eq_some_iff.1 h2).1;have := List.all_eq_true.1 hZ n (DataW.weights_mem_each (ts := ts ++ us) (ds := ds ++ gs) (j := j) (t := t) (d := d) (by rw [List.getElem?_append_left g1]; exact h1) (by rw [List.getElem?_append_left g2]; exact h2) n hn);exact of_decide_eq_true this

section
variable {H : Type} {enc : TypeId × Value → H} {P : Program} {W : World} {sp : Nat → Bool} {held : Bool} {B : Nat}

theorem cells?_cell {a : Addr} {n : Nat} {base : Nat} {cs : List Value} (h : W.cells? base a n = some cs) : cs.length = n ∧ ∀ j, j < n → W.cell? (a.add j) = cs[j]? := by
 unfold World.cells? at h;split at h
 ·refine ⟨by simpa using mapM_some_length h, fun j hj => ?_⟩;have := mapM_some_get h j j (by simp [hj]);exact this
 ·cases h

mutual
theorem trodPC : ∀ (s : Sh) (t : TypeId), s.is P t = true → ∀ {m : Nat} {cs : List Value} {y : DataW H × List MemPlace}, DataW.trod enc P W 0 sp held m t cs = some y → Light P B t y.1 → ∃ d, PC (poolW W) s d cs ∧ s.lens B d
 | .int k, t, hs, m, cs, y, h, hz => by
  simp only [Sh.is] at hs;split at hs
  ·rename_i l hu;obtain rfl := of_decide_eq_true hs;obtain ⟨n, rfl, _, hw⟩ := DataW.trod_int hu h;exact ⟨.int n, by simp only [PC]; exact ⟨rfl, wf_inK hw⟩, by simp only [Sh.lens]⟩
  ·cases hs
 | .bool, t, hs, m, cs, y, h, hz => by
  simp only [Sh.is] at hs;split at hs
  ·rename_i hu;obtain ⟨b, rfl, _⟩ := DataW.trod_bool hu h;exact ⟨.int (if b then 1 else 0), by simp only [PC]; cases b <;> simp, by simp only [Sh.lens]⟩
  ·cases hs
 | .str, t, hs, m, cs, y, h, hz => by
  simp only [Sh.is] at hs;split at hs
  ·rename_i hu;obtain ⟨s, rfl, rfl, hw⟩ := DataW.trod_string hu h;have hz : s.size ≤ B := by
    rcases hz with rfl | hz
    ·exact hw
    ·exact hz _ (by simp [DataW.weights])
   refine ⟨.ofInts (strE s), ?_, ?_⟩
   ·simp only [PC, D.ints_ofInts, strOf_strE];exact ⟨trivial, strE_in s⟩
   ·simp only [Sh.lens, D.ofInts, D.toList_list, List.length_map, strE_length];omega
  ·cases hs
 | .sl s, t, hs, m, cs, y, h, hz => by
  simp only [Sh.is] at hs;split at hs
  ·rename_i e hu;simp only [bae] at hs;obtain ⟨⟨⟨h1, h2⟩, h4⟩, h3⟩ := hs;have h4 := ble_le h4;have h1 := beq_t h1;have h2 := ble_le h2;rcases DataW.trod_slice hu h with ⟨rfl, _⟩ | ⟨a, len, cap, elems, rest, n, _, rfl, rfl, _, hl, hm, hlen, hel, _⟩
   ·exact ⟨.list [], by simp only [PC]; exact ⟨_, rfl, .inl ⟨rfl, .inl rfl⟩⟩, by simp [Sh.lens]⟩
   ·rcases Nat.eq_zero_or_pos len with h0 | h0
    ·subst h0;exact ⟨.list [], by simp only [PC]; exact ⟨_, rfl, .inl ⟨rfl, .inr ⟨a, cap, rfl⟩⟩⟩, by simp [Sh.lens]⟩
    ·have hB : len ≤ B := by
      rcases hz with rfl | hz
      ·simp only [maxLen] at hm; omega
      ·have := hz (((elems.map (·.1)).length + (rest.map (·.1)).length) * P.bytesOf e) (by simp [DataW.weights, hu]);have h5 := Nat.mul_le_mul_left ((elems.map (·.1)).length + (rest.map (·.1)).length) h4;simp only [List.length_map] at this h5;omega
     have hz' : ∀ d ∈ elems.map (·.1), Light P B e d := fun d hd => by
      rcases hz with h | hz
      ·exact .inl h
      ·exact .inr fun n hn => hz n (by simp only [DataW.weights, hu]; exact List.mem_cons_of_mem _ (List.mem_append_left _ (weighsAll hd n hn)))
     obtain ⟨b, off, spot⟩ := a;have each : ∀ i, i < len → ∃ cs' d, (cs'.length = s.size ∧ ∀ j, j < s.size → W.cell? ((⟨b, off, spot⟩ : Addr).add (i * s.size + j)) = cs'[j]?) ∧ PC (poolW W) s d cs' ∧ s.lens B d := by
      intro i hi;have := hel i hi;rw [List.getElem?_eq_getElem (by omega), Option.bind_eq_some_iff] at this;obtain ⟨cs', g1, g2⟩ := this;obtain ⟨q1, q2⟩ := cells?_cell g1;obtain ⟨d, q3⟩ := trodPC s e h3 g2 (hz' _ (by simp only [List.mem_map]; exact ⟨_, List.getElem_mem _, rfl⟩));refine ⟨cs', d, ⟨by rw [q1, h1], fun j hj => ?_⟩, q3⟩;rw [← q2 j (by omega), h1];congr 1;simp only [Addr.add];repeat' split
      all_goals first | (simp_all; omega) | simp_all
     have hcell0 : ∃ v, W.cell? ((⟨b, off, spot⟩ : Addr).add 0) = some v := by
      obtain ⟨cs', d, ⟨q1, q2⟩, _⟩ := each 0 h0;have := q2 0 (by omega);rw [Nat.zero_mul, Nat.zero_add, List.getElem?_eq_getElem (by omega)] at this;exact ⟨_, this⟩
     obtain ⟨v0, hv0⟩ := hcell0;have hspot : spot = none := by
      cases spot with
      | none => rfl
      | some x =>
       unfold World.cell? at hv0;simp [Addr.add] at hv0;split at hv0 <;> simp_all
     subst hspot;rw [show (⟨b, off, Option.none⟩ : Addr).add 0 = ⟨b, off, Option.none⟩ from rfl] at hv0;simp only [World.cell?] at hv0;split at hv0
     ·rename_i arr el fz hrow;let f : Nat → D := fun i => if hi : i < len then (each i hi).choose_spec.choose else .int 0
      have hf : ∀ i (hi : i < len), PC (poolW W) s (f i) ((arr.toList.drop (off + i * s.size)).take s.size) ∧ s.lens B (f i) := by
       intro i hi;simp only [f, hi, dite_true];obtain ⟨⟨q1, q2⟩, q3, q4⟩ := (each i hi).choose_spec.choose_spec;refine ⟨?_, q4⟩;have : (each i hi).choose = (arr.toList.drop (off + i * s.size)).take s.size := by
        have hcs : ∀ j, j < s.size → (each i hi).choose[j]? = arr.toList[off + i * s.size + j]? := by
         intro j hj;have := q2 j hj;rw [add_none, cell_row hrow] at this;rw [← this];simp [Nat.add_assoc]
        apply List.ext_getElem?;intro j;rw [List.getElem?_take];split
        ·rename_i hj;rw [hcs j hj, List.getElem?_drop]
        ·rename_i hj;rw [List.getElem?_eq_none (by omega)]
       rw [← this]; exact q3
      refine ⟨.list ((List.range len).map f), ?_, ?_⟩
      ·simp only [PC];refine ⟨_, rfl, .inr ⟨b, off, cap, arr, by simp, by simpa using hl, poolW_of hrow, fun j x hj => ?_⟩⟩;simp only [D.toList_list, List.getElem?_map, Option.map_eq_some_iff] at hj;obtain ⟨i, hi, rfl⟩ := hj;obtain ⟨hil, hi⟩ := List.getElem?_eq_some_iff.1 hi;rw [List.getElem_range] at hi;subst hi;exact (hf j (by simpa using hil)).1
      ·simp only [Sh.lens, D.toList_list, List.length_map, List.length_range, List.mem_map, List.mem_range];refine ⟨hB, ?_⟩;rintro x ⟨i, hi, rfl⟩
       exact (hf i hi).2
     ·cases hv0
  ·cases hs
 | .agg l, t, hs, m, cs, y, h, hz => by
  simp only [Sh.is] at hs;split at hs
  ·rename_i fs hu;simp only [bae] at hs;obtain ⟨xs, n, _, rfl, hl, hlen, hf⟩ := DataW.trod_struct hu h;obtain ⟨ds, g1, g2⟩ := trodPCs l (fs.toList.map fun f => (f.type, f.offset)) 0 hs.2 (cs := cs) (m := n) (fun p hp => by
    simp only [List.mem_map] at hp;obtain ⟨f, hfm, rfl⟩ := hp;obtain ⟨i, hi, he⟩ := List.getElem_of_mem hfm;have := hf i f (by rw [← he]; simp at hi ⊢);have hxi : i < xs.length := by rw [hlen]; simpa using hi
    rw [List.getElem?_eq_getElem hxi] at this;refine ⟨_, this, ?_⟩;rcases hz with h | hz
    ·exact .inl h
    ·exact .inr fun n hn => hz n (by
      simp only [DataW.weights, hu];exact DataW.weights_mem_each (ts := fs.toList.map (·.type)) (ds := xs.map (·.1)) (j := i) (t := f.type) (d := (xs[i]'hxi).1) (by rw [List.getElem?_map, List.getElem?_eq_getElem hi]; simp only [Option.map_some, he]) (by rw [List.getElem?_map, List.getElem?_eq_getElem hxi]; rfl) n hn)) (by rw [hl, beq_t hs.1]; omega)
   exact ⟨.list ds, by simp only [PC, D.toList_list]; simpa using g1, by simp only [Sh.lens, D.toList_list]; exact g2⟩
  ·rename_i k e hu;simp only [bae] at hs;obtain ⟨xs, n, _, rfl, hl, hlen, hf⟩ := DataW.trod_array hu h;obtain ⟨ds, g1, g2⟩ := trodPCs l ((List.range k).map fun i => (e, i * P.cellsOf e)) 0 hs.2 (cs := cs) (m := n) (fun p hp => by
    simp only [List.mem_map, List.mem_range] at hp;obtain ⟨i, hi, rfl⟩ := hp;have := hf i hi;rw [List.getElem?_eq_getElem (by omega)] at this;refine ⟨_, this, ?_⟩;rcases hz with h | hz
    ·exact .inl h
    ·exact .inr fun n hn => hz n (by
      simp only [DataW.weights, hu];exact weighsAll (by simp only [List.mem_map]; exact ⟨_, List.getElem_mem _, rfl⟩) n hn)) (by rw [hl, beq_t hs.1]; omega)
   exact ⟨.list ds, by simp only [PC, D.toList_list]; simpa using g1, by simp only [Sh.lens, D.toList_list]; exact g2⟩
  ·cases hs
theorem trodPCs : ∀ (l : List Sh) (ps : List (TypeId × Nat)) (o : Nat), Sh.ises P l ps o = true → ∀ {cs : List Value} {m : Nat}, (∀ p ∈ ps, ∃ y, DataW.trod enc P W 0 sp held m p.1 ((cs.drop p.2).take (P.cellsOf p.1)) = some y ∧ Light P B p.1 y.1) → cs.length = o + Sh.sizes l →
  ∃ ds, PCs (poolW W) l ds (cs.drop o) ∧ Sh.lenses B l ds
 | [], ps, o, hs, cs, m, h, hl => ⟨[], by simp only [PCs]; exact ⟨trivial, List.drop_eq_nil_of_le (by simp only [Sh.sizes] at hl; omega)⟩, by simp only [Sh.lenses]⟩
 | s :: l, [], o, hs, cs, m, h, hl => by simp [Sh.ises] at hs
 | s :: l, p :: ps, o, hs, cs, m, h, hl => by
  simp only [Sh.ises, bae] at hs;obtain ⟨⟨⟨h1, h2⟩, h3⟩, h4⟩ := hs;have h1 := beq_t h1;have h2 := beq_t h2;simp only [Sh.sizes] at hl;obtain ⟨y, hy, hz⟩ := h p (by simp);obtain ⟨d, g1, g2⟩ := trodPC s p.1 h3 hy hz;obtain ⟨ds, g3, g4⟩ := trodPCs l ps (o + s.size) h4 (fun q hq => h q (by simp [hq])) (by omega);refine ⟨d :: ds, ?_, by simp only [Sh.lenses]; exact ⟨g2, g4⟩⟩;simp only [PCs];refine ⟨d, ds, (cs.drop o).take s.size, cs.drop (o + s.size), rfl, ?_, ?_, g3⟩
  ·rw [← List.drop_drop, List.take_append_drop]
  ·rw [← h1, ← h2]; exact g1
end

theorem in_val {s : Sh} {t : TypeId} (hs : (Sh.sl s).is P t = true) {v : Value} {d : DataW H} {ps : List MemPlace} {base : Nat}
  (hv : Value.okWide P W .any base t v) (h : DataW.Trod enc P W 0 sp held t v d ps) (hz : Light P B t d) : ∃ d, PC (poolW W) (.sl s) d [v] ∧ (Sh.sl s).lens B d := by
 have hs' := hs;simp only [Sh.is] at hs';split at hs'
 ·rename_i e hu;obtain ⟨a0, len, cap, rfl⟩ := okWide_slice hu hv;obtain ⟨fuel, hf⟩ := h;exact trodPC (.sl s) t hs hf hz
 ·cases hs'
theorem vr_val {Ω : Om} {s : Sh} {i : Nat} {d : D} {v : Value} (h : PC (poolW W) (.sl s) d [v]) (hd : Ω.d i = d) : VR (Env.none Ω W) (.pv s (.var i)) v := by
 subst hd;simp only [VR];exact h
end

end Go.Ev
