/- Calls of the library, by contracts that are laid at a seat: a map's keys, sorted; a text's copy. No condition. -/
import Derived.Test.YtmlocknojpmfpaaSypa
import Derived.Sort.KeysCollected
set_option linter.unusedSimpArgs false
set_option linter.unusedVariables false
namespace Go.Ev
open Go.RowKit Go.Maps Go.Sort
open Go.Proofs (encStr)

inductive LibK where
 | clone
 | keys (it : FuncId) (kt : TypeId)

def CloneLaw (P : Program) (g : FuncId) : Prop := ∀ (s : ByteArray) (w : World), s.size ≤ 281474976710656 → Calls P g #[.string s] w fun E w' => E = .returned (.string s) ∧ Below w.heap.size w w'

def KeysLaw (P : Program) (g it : FuncId) (kt : TypeId) : Prop := ∀ (bx b nn : Nat) (D0 : DataW Unit) (R : Value → Option (DataW Unit × List MemPlace)) (W : World), bx < W.heap.size → W.cell? ⟨bx, 0, none⟩ = some (.map (some b)) → W.ownsMap P kt R b nn D0 → Maps.size D0 ≤ maxLen → Maps.size D0 * 16 ≤ 140737488355328 →
 Calls P g #[.func (.func it) #[] #[.pointer (some ⟨bx, 0, none⟩)]] W fun e w' => ∃ (v : Value) (ss : List (List UInt8)), e = .returned v ∧ ss.Perm (strKeys D0) ∧
  w'.ownsRow W.heap.size kt 1 v ss.length ((ss.mergeSort (fun x y => decide (x ≤ y))).map encStr) ∧ (v = .slice none 0 0 ↔ ss = []) ∧ Below W.heap.size W w'

def LibHolds (P : Program) (g : FuncId) : LibK → Prop
 | .clone => CloneLaw P g
 | .keys it kt => P.underlying kt = some .string ∧ KeysLaw P g it kt

def insK (x : List UInt8) : List (List UInt8) → List (List UInt8)
 | [] => [x]
 | y :: l => match decide (x ≤ y) with
  | true => x :: y :: l
  | false => y :: insK x l
def sortK : List (List UInt8) → List (List UInt8)
 | [] => []
 | x :: l => insK x (sortK l)
theorem insK_perm (x : List UInt8) : ∀ l, (insK x l).Perm (x :: l)
 | [] => List.Perm.refl _
 | y :: l => by
  unfold insK;split
  ·exact List.Perm.refl _
  ·exact ((insK_perm x l).cons y).trans (List.Perm.swap x y l)
theorem sortK_perm : ∀ l, (sortK l).Perm l
 | [] => List.Perm.refl _
 | x :: l => (insK_perm x _).trans ((sortK_perm l).cons x)
theorem insK_sorted (x : List UInt8) : ∀ l : List (List UInt8), l.Pairwise (· ≤ ·) → (insK x l).Pairwise (· ≤ ·)
 | [], _ => by simp [insK]
 | y :: l, h => by
  unfold insK;obtain ⟨h1, h2⟩ := List.pairwise_cons.1 h;split
  ·rename_i hc;have hc := of_decide_eq_true hc;refine List.pairwise_cons.2 ⟨fun z hz => ?_, h⟩;rcases List.mem_cons.1 hz with rfl | hz
   ·exact hc
   ·exact List.le_trans hc (h1 z hz)
  ·rename_i hc;have hc := of_decide_eq_false hc;have hyx : y ≤ x := (List.le_total x y).resolve_left hc;refine List.pairwise_cons.2 ⟨fun z hz => ?_, insK_sorted x l h2⟩;rcases List.mem_cons.1 ((insK_perm x l).mem_iff.1 hz) with rfl | hz
   ·exact hyx
   ·exact h1 z hz
theorem sortK_sorted : ∀ l, (sortK l).Pairwise (· ≤ ·)
 | [] => List.Pairwise.nil
 | x :: l => insK_sorted x _ (sortK_sorted l)
theorem mergeSort_sortK {ss l : List (List UInt8)} (h : ss.Perm l) : ss.mergeSort (fun x y => decide (x ≤ y)) = sortK l := by
 have tr : ∀ a b c : List UInt8, decide (a ≤ b) = true → decide (b ≤ c) = true → decide (a ≤ c) = true := fun a b c h1 h2 => by simp only [decide_eq_true_eq] at *; exact List.le_trans h1 h2
 have to : ∀ a b : List UInt8, (decide (a ≤ b) || decide (b ≤ a)) = true := fun a b => by simp only [Bool.or_eq_true, decide_eq_true_eq]; exact List.le_total a b
 refine List.Perm.eq_of_pairwise (le := fun a b => decide (a ≤ b) = true) (fun a b _ _ h1 h2 => ?_) (List.pairwise_mergeSort tr to ss) ((sortK_sorted l).imp fun h => decide_eq_true h) (((List.mergeSort_perm ss _).trans h).trans (sortK_perm l).symm);simp only [decide_eq_true_eq] at h1 h2;exact List.le_antisymm h1 h2

def keysOf : List ME → Option (List (List UInt8))
 | [] => some []
 | m :: l => match m.key, keysOf l with
  | .str b, some r => match Nat.ble b.size maxLen with
   | true => some (b.data.toList :: r)
   | false => none
  | _, _ => none
def notIn (x : List UInt8) : List (List UInt8) → Bool
 | [] => true
 | y :: l => !decide (x = y) && notIn x l
def apartK : List (List UInt8) → Bool
 | [] => true
 | x :: l => notIn x l && apartK l
theorem notIn_ok {x : List UInt8} : ∀ {l}, notIn x l = true → x ∉ l
 | [], _ => by simp
 | y :: l, h => by
  simp only [notIn, bae, Bool.not_eq_true', decide_eq_false_iff_not] at h;simp only [List.mem_cons, not_or];exact ⟨h.1, notIn_ok h.2⟩
theorem apartK_ok : ∀ {l}, apartK l = true → l.Nodup
 | [], _ => List.nodup_nil
 | x :: l, h => by
  simp only [apartK, bae] at h;exact List.nodup_cons.2 ⟨notIn_ok h.1, apartK_ok h.2⟩

def strAV (l : List UInt8) : AV := .str ⟨l.toArray⟩

def keysCall (it : FuncId) (kt : TypeId) (args : List AV) (s : St) : Option (En × St) := match args with
 | [.func f [.ptr bx 0]] => match Nat.beq f it, s.cellR bx 0, s.row bx with
  | true, some (.mapv m), some _ => match s.heap.get m with
   | some (.map es c) => match keysOf es with
    | some ks => match Nat.ble es.length 1000000 && allBelow c es && nodupB (es.map (·.born)) && apartK ks with
     | true => match ks with
      | [] => some (.ret .nilslice, s)
      | _ => some (.ret (.slice s.nid 0 ks.length ks.length true), s.newO (.cells ⟨kt, ks.length, 1, true, false, [], T.nil.putL 0 ((sortK ks).map strAV), none⟩))
     | false => none
    | none => none
   | _ => none
  | _, _, _ => none
 | _ => none

def cloneCall (A : Ask) (args : List AV) (s : St) : Option (En × St) := match args with
 | [.str b] => match Nat.ble b.size 281474976710656 with
  | true => some (.ret (.str b), s)
  | false => none
 | [.sstr n x] => match A (.le n (.int 281474976710656)) with
  | some true => some (.ret (.sstr n x), s)
  | _ => none
 | _ => none

def libRun (A : Ask) (k : LibK) (args : List AV) (s : St) : Option (En × St) := match k with
 | .clone => cloneCall A args s
 | .keys it kt => keysCall it kt args s

theorem keysOf_ok {e : Env} : ∀ {l : List ME} {es : List MapEntry} {ks : List (List UInt8)}, keysOf l = some ks → MR e l es → es.map (·.key) = ks.map (fun k => Value.string ⟨k.toArray⟩) ∧ ks.length = l.length ∧ ∀ k ∈ ks, k.length ≤ maxLen
 | [], es, ks, h, hm => by
  simp only [keysOf, sme] at h;simp only [MR] at hm;subst h hm;exact ⟨rfl, rfl, fun k hk => by cases hk⟩
 | m :: l, es, ks, h, hm => by
  obtain ⟨x, rest, rfl, h1, h2, h3, h4⟩ := hm;simp only [keysOf] at h;split at h
  ·rename_i b r hk hr;split at h
   ·rename_i hb;simp only [sme] at h;subst h;obtain ⟨g1, g2, g3⟩ := keysOf_ok hr h4;rw [hk] at h1;simp only [VR] at h1;refine ⟨by simp [h1, g1], by simp [g2], fun k hk => ?_⟩;rcases List.mem_cons.1 hk with rfl | hk
    ·rw [Array.length_toList]; exact ble_le hb
    ·exact g3 k hk
   ·cases h
  ·cases h

def keyB : Value → List UInt8
 | .string b => b.data.toList
 | _ => []
theorem keysCall_ok {P : Program} {Ω : Om} {w0 : Base} {g it : FuncId} {kt : TypeId} (hk : P.underlying kt = some .string) (H : KeysLaw P g it kt) {args : List AV} {s s' : St} {en : En} (k : keysCall it kt args s = some (en, s')) {e : Env} {w : World} {as : List Value} (hr : Rel Ω w0 e s w) (ha : VRs e args as) :
  Calls P g as.toArray w fun E w' => ∃ e', e.le e' ∧ Rel Ω w0 e' s' w' ∧ EnR e' en E := by
 unfold keysCall at k;split at k
 rotate_left
 ·cases k
 rename_i f bx;split at k
 rotate_left
 ·cases k
 rename_i m b0 hf hcell hrow;split at k
 rotate_left
 ·cases k
 rename_i es c hmap;split at k
 rotate_left
 ·cases k
 rename_i ks hks;split at k
 rotate_left
 ·cases k
 rename_i hc;simp only [bae] at hc;obtain ⟨⟨⟨c1, c2⟩, c3⟩, c4⟩ := hc;obtain rfl := beq_t hf;have c1 := ble_le c1;have c3 := nodupB_ok c3;have c4 := apartK_ok c4;simp only [VRs, VR] at ha;obtain ⟨_, _, rfl, ⟨xs, rfl, _, _, hxs, ⟨bk, hbk, rfl⟩, rfl⟩, rfl⟩ := ha;have hxs : xs = #[.pointer (some ⟨bk, 0, none⟩)] := by apply Array.ext'; simpa using hxs
 subst hxs;have hrow' := St.row_some hrow;obtain ⟨bk', hb1, hbm, _, arr, fz, hheap, hR⟩ := hr.obj bx _ hrow';obtain rfl : bk' = bk := by rw [hbk] at hb1; exact (Option.some.inj hb1).symm
 have hat : b0.at 0 = some (.mapv m) := by simpa [St.cellR, hrow'] using hcell
 obtain ⟨y, hy, hyv⟩ := hR.cell 0 _ hat;simp only [VR] at hyv;obtain ⟨bm, hbm1, rfl⟩ := hyv;obtain ⟨bm', hb2, _, _, ar2, hh2, hMR⟩ := hr.obj m _ hmap;obtain rfl : bm' = bm := by rw [hbm1] at hb2; exact (Option.some.inj hb2).symm
 obtain ⟨q1, q2, q3⟩ := keysOf_ok hks hMR;have hsz : ar2.size = es.length := by rw [← Array.length_toList]; exact hMR.length
 let R : Value → Option (DataW Unit × List MemPlace) := fun _ => some (.nil, [])
 have hread : ∀ x ∈ ar2.toList, ∃ b : List UInt8, b ∈ ks ∧ x.key = .string ⟨b.toArray⟩ ∧ Go.WideElems.rd P kt R x = some (.string b, .nil) := by
  intro x hx;have : x.key ∈ ar2.toList.map (·.key) := List.mem_map.2 ⟨x, hx, rfl⟩;rw [q1] at this;obtain ⟨b, hb, hbk⟩ := List.mem_map.1 this;refine ⟨b, hb, hbk.symm, ?_⟩;have hl := q3 b hb;simp [Go.WideElems.rd, R, ← hbk, keyOf, hk, mapKey, ByteArray.size, hl]
 have hfit : Go.WideElems.Fit P kt R ar2 c := by
  refine ⟨?_, ⟨fun x hx => ?_, ?_, ?_⟩, fun x hx => ?_⟩
  ·have : (1000000 : Nat) ≤ maxLen := by decide
   omega
  ·obtain ⟨y, hy, _, _, h3⟩ := hMR.mem x hx;rw [h3]; exact allBelow_mem c2 y hy
  ·rw [hMR.borns]; exact c3
  ·rw [q1];refine List.Pairwise.map _ (fun a b hab hne => hab ?_) c4;simpa using hne
  ·obtain ⟨b, _, _, h3⟩ := hread x hx;exact ⟨_, h3⟩
 have hD : ∀ l : List MapEntry, (∀ x ∈ l, x ∈ ar2.toList) → strKeys (DataW.map ((l.map (Go.WideElems.rg P kt R)))) = l.map fun x => keyB x.key := by
  intro l hl;simp only [strKeys, List.map_map];refine List.map_congr_left fun x hx => ?_
  obtain ⟨b, _, h2, h3⟩ := hread x (hl x hx);simp [Go.WideElems.rg_of h3, h2, Go.strOf, keyB]
 -- what the contract says of it
 have hown : w.ownsMap P kt R bm' es.length (.map ((ar2.toList.map (Go.WideElems.rg P kt R)).foldr DataW.insert [])) := ⟨ar2, c, hh2, hfit, by omega, rfl⟩
 have hsize : Maps.size (DataW.map ((ar2.toList.map (Go.WideElems.rg P kt R)).foldr DataW.insert [])) = es.length := by
  simp only [Maps.size];rw [(Go.WideShapes.sorted_perm _).length_eq, List.length_map, Array.length_toList]; exact hsz
 have hperm : (strKeys (DataW.map ((ar2.toList.map (Go.WideElems.rg P kt R)).foldr DataW.insert []))).Perm ks := by
  have h1 : (strKeys (DataW.map ((ar2.toList.map (Go.WideElems.rg P kt R)).foldr DataW.insert []))).Perm (strKeys (DataW.map (ar2.toList.map (Go.WideElems.rg P kt R)))) := (Go.WideShapes.sorted_perm _).map _;rw [hD _ (fun x hx => hx)] at h1;have h2 : (ar2.toList.map fun x => keyB x.key) = (ar2.toList.map (·.key)).map keyB := by simp
  rw [h2, q1, List.map_map] at h1;have h3 : ks.map (keyB ∘ fun k => Value.string ⟨k.toArray⟩) = ks := by
   rw [show (keyB ∘ fun k : List UInt8 => Value.string ⟨k.toArray⟩) = id from funext fun k => by simp [keyB]]
   simp
  rw [h3] at h1;exact h1
 have hmx : es.length ≤ maxLen := Nat.le_trans c1 (by decide);have hcall := H bk' bm' es.length _ R w (hr.loc_lt hrow' hbk) (by rw [cell_row hheap]; exact hy) hown (by rw [hsize]; exact hmx) (by rw [hsize]; omega);refine hcall.mono fun E w' ⟨v, ss, hE, hss, hrowv, hnil, hb⟩ => ?_
 subst hE;have hlen : ss.length = ks.length := (hss.trans hperm).length_eq;rw [mergeSort_sortK (hss.trans hperm)] at hrowv;split at k
 ·rename_i hks0;simp only [sme, pme] at k;obtain ⟨rfl, rfl⟩ := k;have : ss = [] := List.eq_nil_of_length_eq_zero (by rw [hlen]; rfl);exact ⟨e, Env.le_refl e, hr.below_later hb, by simp only [EnR, VR]; exact hnil.2 this⟩
 ·rename_i hne;simp only [sme, pme] at k;obtain ⟨rfl, rfl⟩ := k;obtain ⟨hl, hv⟩ := hrowv;have hpos : 0 < ks.length := by
   cases ks with
   | nil => exact (hne rfl).elim
   | cons a l => simp
  rcases hv with ⟨_, h0⟩ | ⟨gb, cap, cur, rfl, hge, hcur, hncap, hcap, hcs, htake⟩
  ·omega
  ·rw [hlen] at hncap htake;have hsl : (sortK ks).length = ks.length := (sortK_perm ks).length_eq;have hget : ∀ (i : Nat) (b : List UInt8), (sortK ks)[i]? = some b → cur[i]? = some (Value.string ⟨b.toArray⟩) := by
    intro i b hi;have : (cur.toList.take (ks.length * 1))[i]? = some (encStr b) := by rw [htake, List.getElem?_map, hi]; rfl
    rw [List.getElem?_take] at this;split at this
    ·simpa using this
    ·cases this
   have hO : ObjR w0 (e.newB s gb (cap - ks.length) 0) s.nid gb w' (.cells ⟨kt, ks.length, 1, true, false, [], T.nil.putL 0 ((sortK ks).map strAV), none⟩) := by
    refine ⟨.inl (Nat.le_trans hr.below.size hge), by simp [Env.newB], cur, (0, 0), hcur, ?_⟩;refine ⟨?_, fun i v hi => ?_, fun off _ h => by omega, fun _ => rfl, fun h => (by cases h), fun kd h => (by cases h)⟩
    ·simp only [Env.newB, if_true]; omega
    ·unfold AB.at at hi;split at hi
     ·rename_i hlt;simp only [T.get_putL, T.get_nil, List.length_map, hsl, Nat.zero_le, true_and, Nat.zero_add, Nat.sub_zero] at hi;have hlt : i < ks.length := by simpa [Nat.blt_eq] using hlt
      rw [if_pos hlt, List.getElem?_map] at hi;obtain ⟨b, hb'⟩ : ∃ b, (sortK ks)[i]? = some b := ⟨_, List.getElem?_eq_getElem (by omega)⟩
      rw [hb'] at hi;simp only [Option.map_some, sme] at hi;subst hi;exact ⟨_, hget i b hb', by simp only [strAV, VR]⟩
     ·cases hi
   obtain ⟨le1, rel1⟩ := hr.newO (.cells ⟨kt, ks.length, 1, true, false, [], T.nil.putL 0 ((sortK ks).map strAV), none⟩) gb (cap - ks.length) 0 (hr.below_later hb).below hO
    (fun id o ho j hj => ⟨by have := hr.loc_lt ho hj; omega, hb.block j (hr.loc_lt ho hj)⟩) (fun j ar hj => hb.block j (hr.pool_lt hj)) (fun _ => hr.pool_new hge)
   refine ⟨_, le1, rel1, ?_⟩;simp only [EnR, VR];refine ⟨gb, by simp [Env.newB], ?_⟩;simp only [Env.newB, if_true, hlen];rw [show ks.length + (cap - ks.length) = cap by omega]

theorem cloneCall_ok {P : Program} {Ω : Om} {w0 : Base} {A : Ask} (hA : AskOK Ω A) {g : FuncId} (H : CloneLaw P g) {args : List AV} {s s' : St} {en : En} (k : cloneCall A args s = some (en, s')) {e : Env} {w : World} {as : List Value} (hr : Rel Ω w0 e s w) (ha : VRs e args as) :
  Calls P g as.toArray w fun E w' => ∃ e', e.le e' ∧ Rel Ω w0 e' s' w' ∧ EnR e' en E := by
 unfold cloneCall at k;split at k
 ·rename_i b;split at k
  ·rename_i hb;simp only [sme, pme] at k;obtain ⟨rfl, rfl⟩ := k;simp only [VRs, VR] at ha;obtain ⟨_, _, rfl, rfl, rfl⟩ := ha;refine (H b w (ble_le hb)).mono fun E w' ⟨hE, hbl⟩ => ⟨e, Env.le_refl e, hr.below_later hbl, ?_⟩
   subst hE;simp only [EnR, VR]
  ·cases k
 ·rename_i n x;split at k
  ·rename_i hq;simp only [sme, pme] at k;obtain ⟨rfl, rfl⟩ := k;simp only [VRs] at ha;obtain ⟨v, _, rfl, hv, rfl⟩ := ha;have hv' := hv;simp only [VR] at hv;obtain ⟨rfl, hn, _⟩ := hv;have h1 := hA _ _ hq;have ho : e.opq = Ω := hr.opq;have h2 : n.i e.opq ≤ 281474976710656 := by
    rw [ho];simp only [Q.val, E.i, E.den, D.toInt_int] at h1;exact of_decide_eq_true h1
   refine (H _ w ?_).mono fun E w' ⟨hE, hbl⟩ => ⟨e, Env.le_refl e, hr.below_later hbl, ?_⟩
   ·have : (strOf (x.s e.opq)).size = (x.s e.opq).length := strOf_size _;rw [this];omega
   ·subst hE;exact hv'
  ·cases k
 ·cases k

theorem libRun_ok {P : Program} {Ω : Om} {w0 : Base} {A : Ask} (hA : AskOK Ω A) {g : FuncId} {kk : LibK} (H : LibHolds P g kk) {args : List AV} {s s' : St} {en : En} (k : libRun A kk args s = some (en, s')) {e : Env} {w : World} {as : List Value} (hr : Rel Ω w0 e s w) (ha : VRs e args as) :
  Calls P g as.toArray w fun E w' => ∃ e', e.le e' ∧ Rel Ω w0 e' s' w' ∧ EnR e' en E := by
 cases kk with
 | clone => exact cloneCall_ok hA H k hr ha
 | keys it kt => exact keysCall_ok H.1 H.2 k hr ha
end Go.Ev
