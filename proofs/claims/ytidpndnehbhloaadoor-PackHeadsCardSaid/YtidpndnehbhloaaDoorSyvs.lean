/- Values that are told by terms: read where they lie. No condition. -/
import Derived.Test.YtidpndnehbhloaaDoorSyt
namespace Go.Ev
open Go.RowKit

def Sh.off : List Sh → Nat → Nat
 | [], _ => 0
 | _ :: _, 0 => 0
 | s :: l, i + 1 => s.size + Sh.off l i

theorem PCs.piece {h : Pool} : ∀ {l : List Sh} {ds : List D} {c : List Value}, PCs h l ds c → ∀ {i : Nat} {s : Sh}, l[i]? = some s → ∃ d, ds[i]? = some d ∧ PC h s d ((c.drop (Sh.off l i)).take s.size)
 | [], _, _, _, i, s, hi => by simp at hi
 | s0 :: l, ds, c, k, i, s, hi => by
  simp only [PCs] at k;obtain ⟨d, r, c1, c2, rfl, rfl, k1, k2⟩ := k;have hl := PC.length _ _ _ k1;cases i with
  | zero =>
   simp only [List.getElem?_cons_zero, sme] at hi;subst hi;refine ⟨d, rfl, ?_⟩;simp only [Sh.off, List.drop_zero];rw [← hl, List.take_left];exact k1
  | succ i =>
   simp only [List.getElem?_cons_succ] at hi;obtain ⟨d', g1, g2⟩ := PCs.piece k2 hi;refine ⟨d', by simpa using g1, ?_⟩;simp only [Sh.off];rw [List.drop_append, List.drop_eq_nil_of_le (by omega), List.nil_append];have : s0.size + Sh.off l i - c1.length = Sh.off l i := by omega
   rw [this];exact g2

def recL : E → Option (List E)
 | .lits l => match l with
  | [] => some []
  | _ => none
 | .bi o r a => match o with
  | .snoc => match recL r with
   | some l => some (l ++ [a])
   | none => none
  | _ => none
 | _ => none
theorem recL_den (Ω : Om) : ∀ {x : E} {l : List E}, recL x = some l → (x.den Ω).toList = l.map (E.den Ω)
 | .lits [], l, h => by simp only [recL, sme] at h; subst h; simp [E.den, D.ofInts]
 | .lits (_ :: _), l, h => by simp [recL] at h
 | .bi o r a, l, h => by
  cases o <;> simp only [recL] at h <;> first | (cases h; done) | skip
  split at h
  ·rename_i m hm;simp only [sme] at h;subst h;simp only [E.den, BO.den, D.toList_list, List.map_append, List.map_cons, List.map_nil];rw [recL_den Ω hm]
  ·cases h
 | .var _, _, h => by simp [recL] at h
 | .int _, _, h => by simp [recL] at h
 | .fn _ _, _, h => by simp [recL] at h
 | .un _ _, _, h => by simp [recL] at h
 | .tr _ _ _ _, _, h => by simp [recL] at h

def mkSelD (x : E) (i : Nat) : E := match recL x with
 | some l => match l[i]? with
  | some a => a
  | none => .bi .sel x (.int i)
 | none => .bi .sel x (.int i)
theorem mkSelD_den (Ω : Om) (x : E) (i : Nat) {d : D} (h : (x.den Ω).toList[i]? = some d) : (mkSelD x i).den Ω = d := by
 have h0 : (E.bi .sel x (.int i)).den Ω = d := by
  simp only [E.den, BO.den, D.nat, D.toInt_int, Int.toNat_natCast, h, Option.getD_some]
 unfold mkSelD;split
 ·rename_i l hl;rw [recL_den Ω hl] at h;split
  ·rename_i a ha;simpa [ha] using h
  ·exact h0
 ·exact h0
theorem sel_den (Ω : Om) (x i : E) {d : D} (h : (x.den Ω).toList[i.n Ω]? = some d) : (E.bi .sel x i).den Ω = d := by
 simp only [E.den, BO.den];have : (i.den Ω).nat = i.n Ω := rfl;rw [this, h, Option.getD_some]

mutual
def shAll (A : Ask) : Sh → E → Option (List AV)
 | .int k, x => some [mkS k x]
 | .bool, x => match askQ A (.eq x (.int 0)) with
  | some b => some [.bool (!b)]
  | none => none
 | .str, x => some [.sstr (.un .len x) x]
 | .sl s, x => some [.pv s x]
 | .agg l, x => shAlls A l x 0
def shAlls (A : Ask) : List Sh → E → Nat → Option (List AV)
 | [], _, _ => some []
 | s :: l, x, i => match shAll A s (mkSelD x i), shAlls A l x (i + 1) with
  | some a, some b => some (a ++ b)
  | _, _ => none
end
mutual
theorem shAll_vr {A : Ask} {e : Env} (hA : AskOK e.opq A) : ∀ {s : Sh} {x : E} {l : List AV}, shAll A s x = some l → ∀ {c : List Value}, PC e.h s (x.den e.opq) c → VRs e l c
 | .int k, x, l, h, c, hc => by
  simp only [shAll, sme] at h;subst h;simp only [PC] at hc;rw [hc.1];exact VRs_cons (mkS_vr (e := e) hc.2) VRs_nil
 | .bool, x, l, h, c, hc => by
  simp only [shAll] at h;split at h
  ·rename_i b hb;simp only [sme] at h;subst h;have := askQ_val hA hb;simp only [Q.val, E.i] at this;simp only [PC] at hc;rw [hc];refine VRs_cons ?_ VRs_nil;simp only [VR];rw [← this];by_cases h0 : (x.den e.opq).toInt = 0 <;> simp [h0, E.den]
  ·cases h
 | .str, x, l, h, c, hc => by
  simp only [shAll, sme] at h;subst h;simp only [PC] at hc;rw [hc.1];refine VRs_cons ?_ VRs_nil;simp only [VR];exact ⟨rfl, by simp [E.i, E.s, E.den, UO.den, D.ints], hc.2⟩
 | .sl s, x, l, h, c, hc => by
  simp only [shAll, sme] at h;subst h;have hc' := hc;simp only [PC] at hc;obtain ⟨a, rfl, _⟩ := hc;exact VRs_cons (by simp only [VR]; exact hc') VRs_nil
 | .agg m, x, l, h, c, hc => by
  simp only [shAll] at h;simp only [PC] at hc;exact shAlls_vr hA h (by simpa using hc)
theorem shAlls_vr {A : Ask} {e : Env} (hA : AskOK e.opq A) : ∀ {m : List Sh} {x : E} {i : Nat} {l : List AV}, shAlls A m x i = some l → ∀ {c : List Value}, PCs e.h m ((x.den e.opq).toList.drop i) c → VRs e l c
 | [], x, i, l, h, c, hc => by
  simp only [shAlls, sme] at h;subst h;simp only [PCs] at hc;rw [hc.2]; exact VRs_nil
 | s :: m, x, i, l, h, c, hc => by
  simp only [shAlls] at h;split at h
  ·rename_i a b h1 h2;simp only [sme] at h;subst h;simp only [PCs] at hc;obtain ⟨d, r, c1, c2, hd, rfl, k1, k2⟩ := hc;have hget : (x.den e.opq).toList[i]? = some d := by
    have := congrArg (fun l => l[0]?) hd;simpa using this
   have hr : r = (x.den e.opq).toList.drop (i + 1) := by
    have := congrArg (List.drop 1) hd;simpa [List.drop_drop] using this.symm
   subst hr;exact (shAll_vr hA h1 (by rw [mkSelD_den _ _ _ hget]; exact k1)).append (shAlls_vr hA h2 k2)
  ·cases h
end

theorem cell?_row {w : World} {k : Nat} {arr : Array Value} {el : TypeId} {fz : Nat × Nat} (h : w.heap[k]? = some (.cells arr el fz)) (o : Nat) : w.cell? ⟨k, o, none⟩ = arr[o]? := by
 simp [World.cell?, h]

def loadAg (P : Program) (A : Ask) (ty : TypeId) (s : Sh) (x : E) : Option AV := match s with
 | .agg l => match P.info? ty with
  | some i => match Nat.beq i.size (Sh.sizes l) with
   | true => (shAlls A l x 0).map .agg
   | false => none
  | none => none
 | _ => none
def loadSh (P : Program) (A : Ask) (ty : TypeId) (s : Sh) (x : E) : Option AV :=
 match P.underlying ty with
 | some (.struct _) | some (.array _ _) => loadAg P A ty s x
 | some _ => match s with
  | .agg _ => none
  | s => match shAll A s x with
   | some [v] => some v
   | _ => none
 | none => none

theorem loadSh_run {P : Program} {A : Ask} {e : Env} (hA : AskOK e.opq A) {ty : TypeId} {s : Sh} {x : E} {v : AV} (k : loadSh P A ty s x = some v) {cs : List Value} (hc : PC e.h s (x.den e.opq) cs) (b o : Nat) :
  ∃ y, VR e v y ∧ ∀ w : World, (∀ j c, cs[j]? = some c → w.cell? ⟨b, o + j, none⟩ = some c) → (loadVar ty ⟨b, o, none⟩).run P w = .ok y w := by
 unfold loadSh at k;have agg : (∃ f, P.underlying ty = some (.struct f)) ∨ (∃ n t, P.underlying ty = some (.array n t)) → loadAg P A ty s x = some v → ∃ y, VR e v y ∧ ∀ w : World, (∀ j c, cs[j]? = some c → w.cell? ⟨b, o + j, none⟩ = some c) → (loadVar ty ⟨b, o, none⟩).run P w = .ok y w := by
  intro hu k;unfold loadAg at k;split at k
  ·rename_i l;split at k
   ·rename_i i hi;split at k
    ·rename_i hs;have hs := beq_t hs;simp only [Option.map_eq_some_iff] at k;obtain ⟨m, hm, rfl⟩ := k;have hlen := PC.length _ _ _ hc;simp only [Sh.size] at hlen;simp only [PC] at hc;have hv := shAlls_vr hA hm (by simpa using hc);refine ⟨.agg cs.toArray, by simp only [VR]; exact ⟨_, rfl, hv⟩, fun w hw => ?_⟩;have hr := run_loadCells_at (P := P) w b o i.size cs (by omega) hw;rcases hu with ⟨f, hu⟩ | ⟨n, t, hu⟩ <;>
      simp [loadVar, isAgg, run_underlying hu, sizeOf, typeInfo, hi, hr]
    ·cases k
   ·cases k
  ·cases k
 split at k
 ·rename_i f hu; exact agg (.inl ⟨f, hu⟩) k
 ·rename_i n t hu; exact agg (.inr ⟨n, t, hu⟩) k
 ·rename_i d hns hna hu;split at k
  ·cases k
  ·rename_i hnagg;split at k
   ·rename_i v' hv;simp only [sme] at k;subst k;have hr := shAll_vr hA hv hc;simp only [VRs] at hr;obtain ⟨y, r, rfl, hy, rfl⟩ := hr;refine ⟨y, hy, fun w hw => ?_⟩;have h0 := hw 0 y rfl;rw [Nat.add_zero] at h0;cases d <;> first
     | exact (hns _ rfl).elim
     | exact (hna _ _ rfl).elim
     | simp [loadVar, isAgg, run_underlying hu, h0]
   ·cases k
 ·cases k

def Sh.all1 (s : Sh) : List Sh → Bool
 | [] => true
 | u :: l => u.beq s && s.all1 l
theorem Sh.all1_get {s : Sh} : ∀ {l : List Sh}, s.all1 l = true → ∀ {i : Nat}, i < l.length → l[i]? = some s ∧ Sh.off l i = i * s.size
 | [], _, i, hi => by simp at hi
 | u :: l, h, i, hi => by
  simp only [Sh.all1, bae] at h;obtain rfl := Sh.beq_eq h.1;cases i with
  | zero => exact ⟨rfl, by simp [Sh.off]⟩
  | succ i =>
   obtain ⟨h1, h2⟩ := Sh.all1_get h.2 (i := i) (by simpa using hi);refine ⟨by simpa using h1, ?_⟩;simp only [Sh.off, h2];rw [Nat.add_mul]; omega

def vNil : AV → Option AV
 | .pp s x => some (.pp s x)
 | .vptr id z j f => some (.vptr id z j f)
 | _ => none

def subAt : Nat → Sh → E → Nat → Nat → Option (Sh × E)
 | 0, _, _, _, _ => none
 | n + 1, s, x, f, z => match s with
  | .agg l => match Nat.beq f 0 && Nat.beq z (Sh.sizes l) with
   | true => some (.agg l, x)
   | false => (List.range l.length).findSome? fun i => match l[i]? with
    | some u => match Nat.ble (Sh.off l i) f && Nat.ble (f + z) (Sh.off l i + u.size) with
     | true => subAt n u (mkSelD x i) (f - Sh.off l i) z
     | false => none
    | none => none
  | u => match Nat.beq f 0 && Nat.beq z 1 with
   | true => some (u, x)
   | false => none
theorem subAt_ok {e : Env} : ∀ {n : Nat} {s : Sh} {x : E} {f z : Nat} {u : Sh} {y : E}, subAt n s x f z = some (u, y) → ∀ {c : List Value}, PC e.h s (x.den e.opq) c → PC e.h u (y.den e.opq) ((c.drop f).take u.size)
 | 0, _, _, _, _, _, _, h, _, _ => by simp [subAt] at h
 | n + 1, s, x, f, z, u, y, h, c, hc => by
  have whole : ∀ s', s = s' → f = 0 → u = s' → y = x → PC e.h u (y.den e.opq) ((c.drop f).take u.size) := by
   rintro s' rfl rfl rfl rfl
   have := PC.length _ _ _ hc;rw [List.drop_zero, ← this, List.take_length];exact hc
  unfold subAt at h;split at h
  ·rename_i l;split at h
   ·rename_i hf;simp only [bae] at hf;simp only [sme, pme] at h;exact whole _ rfl (beq_t hf.1) h.1.symm h.2.symm
   ·obtain ⟨i, _, hi⟩ := List.exists_of_findSome?_eq_some h;split at hi
    ·rename_i v hv;split at hi
     ·rename_i hb;simp only [bae] at hb;have b1 := ble_le hb.1;simp only [PC] at hc;obtain ⟨d, g1, g2⟩ := PCs.piece hc hv;have := subAt_ok hi (c := (c.drop (Sh.off l i)).take v.size) (by rw [mkSelD_den _ _ _ g1]; exact g2);have hlen := PC.length _ _ _ this;have e1 : ((List.drop (f - Sh.off l i) (List.take v.size (List.drop (Sh.off l i) c))).take u.size) = (c.drop f).take u.size := by
       rw [List.drop_take, List.drop_drop, List.take_take] at hlen ⊢;rw [show Sh.off l i + (f - Sh.off l i) = f by omega] at hlen ⊢;simp only [List.length_take] at hlen;congr 1;omega
      rw [← e1]; exact this
     ·cases hi
    ·cases hi
  ·rename_i u' hna;split at h
   ·rename_i hf;simp only [bae] at hf;simp only [sme, pme] at h;exact whole _ rfl (beq_t hf.1) h.1.symm h.2.symm
   ·cases h

def vLoad (P : Program) (m : Mem) (ty : TypeId) (a : AV) : Option AV := match a with
 | .pp s x => match m.pl with
  | true => loadSh P m.ask ty s x
  | false => none
 | .vptr id z j f => match m.vseq id, P.info? ty with
  | some q, some inf => match Nat.beq z q.s.size && ge0 m.ask j && ltB m.ask j q.n with
   | true => match subAt 12 q.s (.bi .sel q.x j) f inf.size with
    | some (u, y) => loadSh P m.ask ty u y
    | none => none
   | false => none
  | _, _ => none
 | _ => none

theorem vLoad_run {P : Program} {e : Env} {m : Mem} {M : World → Prop} (R : Reads P e m M) {ty : TypeId} {a v : AV} (k : vLoad P m ty a = some v) {a' : Value} (ha : VR e a a') :
  ∃ y, VR e v y ∧ ∀ w, M w → (Instr.loadAt ty a').run P w = .ok y w := by
 unfold vLoad at k;split at k
 ·rename_i s x;split at k
  ·rename_i hpl;simp only [VR] at ha;obtain ⟨b, o, arr, rfl, h1, h2⟩ := ha;obtain ⟨y, g1, g2⟩ := loadSh_run R.ask k h2 b o;refine ⟨y, g1, fun w hw => ?_⟩;obtain ⟨el, fz, hrow⟩ := R.pool hpl w hw _ _ h1;have := g2 w fun j c hj => by
    rw [cell?_row hrow];rw [List.getElem?_take] at hj;split at hj
    ·rw [List.getElem?_drop] at hj; simpa using hj
    ·cases hj
   simp [Instr.loadAt, Instr.sureAddr, this]
  ·cases k
 ·rename_i id z j f;split at k
  ·rename_i q inf hq hi;split at k
   ·rename_i hc;simp only [bae] at hc;obtain ⟨⟨c1, c2⟩, c3⟩ := hc;have c1 := beq_t c1;have c2 := ge0_val R.ask c2;have c3 := ltB_val R.ask c3;have hjn := n_of_i c2;split at k
    ·rename_i u y hu;obtain ⟨b, hb, hn, hrow⟩ := R.vseq id q hq;simp only [VR] at ha;obtain ⟨b', hb', rfl⟩ := ha;obtain rfl : b' = b := by rw [hb] at hb'; exact (Option.some.inj hb').symm
     have hlt : j.n e.opq < (q.x.den e.opq).toList.length := by omega
     obtain ⟨cs, g1, g2⟩ := hrow _ _ (List.getElem?_eq_getElem hlt);have g3 := subAt_ok (e := e) hu (c := cs) (by rw [sel_den _ _ _ (List.getElem?_eq_getElem hlt)]; exact g1);obtain ⟨r, g4, g5⟩ := loadSh_run R.ask k g3 b' (j.n e.opq * z + f);refine ⟨r, g4, fun w hw => ?_⟩;have := g5 w fun i c hi' => by
      rw [List.getElem?_take] at hi';split at hi'
      ·rw [List.getElem?_drop] at hi';have := g2 w hw _ _ hi';rw [c1, Nat.add_assoc];exact this
      ·cases hi'
     simp [Instr.loadAt, Instr.sureAddr, this]
    ·cases k
   ·cases k
  ·cases k
 ·cases k

def vField (P : Program) (ty : TypeId) (a : AV) (f : Nat) : Option AV := match P.underlying ty with
 | some (.struct fs) => match fs[f]? with
  | some fd => match P.info? fd.type with
   | some i => match i.size with
    | 0 => none
    | _ + 1 => match a with
     | .pp (.agg l) x => match l[f]? with
      | some s => match Nat.beq fd.offset (Sh.off l f) with
       | true => some (.pp s (mkSelD x f))
       | false => none
      | none => none
     | .vptr id z j o => some (.vptr id z j (o + fd.offset))
     | _ => none
   | none => none
  | none => none
 | _ => none

theorem vField_run {P : Program} {e : Env} {ty : TypeId} {a v : AV} {f : Nat} (k : vField P ty a f = some v) {a' : Value} (ha : VR e a a') :
  ∃ y, VR e v y ∧ ∀ w, (Instr.fieldAt ty a' f).run P w = .ok y w := by
 unfold vField at k;split at k
 ·rename_i fs hu;split at k
  ·rename_i fd hf;split at k
   ·rename_i i hi;split at k
    ·cases k
    ·rename_i n hn;split at k
     ·rename_i l x;split at k
      ·rename_i s hs;split at k
       ·rename_i ho;have ho := beq_t ho;simp only [sme] at k;subst k;simp only [VR] at ha;obtain ⟨b, o, arr, rfl, h1, h2⟩ := ha;simp only [PC] at h2;obtain ⟨d, g1, g2⟩ := PCs.piece h2 hs;have hlen := PC.length _ _ _ g2;refine ⟨.pointer (some ⟨b, o + fd.offset, none⟩), ?_, fun w => ?_⟩
        ·simp only [VR];refine ⟨b, o + fd.offset, arr, rfl, h1, ?_⟩;rw [mkSelD_den _ _ _ g1, ho];have e1 : ((((arr.toList.drop o).take (Sh.agg l).size).drop (Sh.off l f)).take s.size) = (arr.toList.drop (o + Sh.off l f)).take s.size := by
          rw [List.drop_take, List.drop_drop, List.take_take] at hlen ⊢;simp only [List.length_take] at hlen;congr 1;omega
         rw [← e1]; exact g2
        ·simp [Instr.fieldAt, run_underlying hu, hf, Instr.sureAddr, fieldPlace, sizeOf, typeInfo, hi, hn, add_none]
       ·cases k
      ·cases k
     ·rename_i id z j o;simp only [sme] at k;subst k;simp only [VR] at ha;obtain ⟨b, hb, rfl⟩ := ha;refine ⟨.pointer (some ⟨b, j.n e.opq * z + o + fd.offset, none⟩), ?_, fun w => ?_⟩
      ·simp only [VR]; exact ⟨b, hb, by rw [Nat.add_assoc]⟩
      ·simp [Instr.fieldAt, run_underlying hu, hf, Instr.sureAddr, fieldPlace, sizeOf, typeInfo, hi, hn, add_none]
     ·cases k
   ·cases k
  ·cases k
 ·cases k

def vIndexAddr (P : Program) (A : Ask) (t : TypeId) (a ix : AV) : Option AV := match toE ix with
 | some (_, i) => match P.underlying t with
  | some (.slice el) => match P.info? el with
   | some inf => match a with
    | .pv s x => match Nat.beq inf.size s.size && ge0 A i && ltB A i (.un .len x) with
     | true => some (.pp s (.bi .sel x i))
     | false => none
    | .vslice id z off len _ _ => match Nat.beq inf.size z && ge0 A i && ltB A i len with
     | true => some (.vptr id z (off.add i) 0)
     | false => none
    | _ => none
   | none => none
  | some (.array n el) => match P.info? el with
   | some inf => match a with
    | .pp (.agg (s :: l)) x => match Nat.beq inf.size s.size && s.all1 (s :: l) && Nat.beq n (l.length + 1) && ge0 A i && ltB A i (.int n) with
     | true => match i with
      | .int j => some (.pp s (mkSelD x j.toNat))
      | i => some (.pp s (.bi .sel x i))
     | false => none
    | .vptr id z j f => match i with
     | .int p => match decide (0 ≤ p ∧ p < n) with
      | true => some (.vptr id z j (f + p.toNat * inf.size))
      | false => none
     | _ => none
    | _ => none
   | none => none
  | _ => none
 | none => none

theorem vIndexAddr_run {P : Program} {e : Env} {A : Ask} (hA : AskOK e.opq A) {t : TypeId} {a ix v : AV} (k : vIndexAddr P A t a ix = some v) {a' ix' : Value} (ha : VR e a a') (hi : VR e ix ix') :
  ∃ y, VR e v y ∧ ∀ w, (Instr.indexAt t a' ix').run P w = .ok y w := by
 unfold vIndexAddr at k;split at k
 ·rename_i kk i hix;obtain ⟨rfl, hikk⟩ := toE_val hix hi;split at k
  ·rename_i el hu;split at k
   ·rename_i inf hinf;split at k
    ·rename_i s x;split at k
     ·rename_i hc;simp only [bae] at hc;have h1 := beq_t hc.1.1;have h0 := ge0_val hA hc.1.2;have hl := ltB_val hA hc.2;have hl : i.i e.opq < ((x.den e.opq).toList.length : Int) := hl;have hin := n_of_i h0;simp only [sme] at k;subst k;simp only [VR, PC, List.cons.injEq, and_true] at ha;obtain ⟨_, rfl, ⟨hnil, _⟩ | ⟨b, o, cp, arr, rfl, hle, hb, hel⟩⟩ := ha
      ·rw [hnil] at hl; simp at hl; omega
      ·have hlt : i.n e.opq < (x.den e.opq).toList.length := by omega
       have hget := List.getElem?_eq_getElem hlt;refine ⟨.pointer (some ⟨b, o + i.n e.opq * s.size, none⟩), ?_, fun w => ?_⟩
       ·simp only [VR];refine ⟨b, _, arr, rfl, hb, ?_⟩;rw [sel_den _ _ _ hget];exact hel _ _ hget
       ·have e1 : (i.i e.opq).toNat = i.n e.opq := rfl;simp [Instr.indexAt, asIntOf, run_underlying hu, h0, hl, sizeOf, typeInfo, hinf, add_none, h1, e1]
     ·cases k
    ·rename_i id z off len cap opn;split at k
     ·rename_i hc;simp only [bae] at hc;have h1 := beq_t hc.1.1;have h0 := ge0_val hA hc.1.2;have hl := ltB_val hA hc.2;have hin := n_of_i h0;simp only [sme] at k;subst k;simp only [VR] at ha;obtain ⟨b, p, hb, rfl, hp, l0, o0, lc⟩ := ha;have hln := n_of_i l0;have hcn := n_of_i (Ω := e.opq) (x := cap) (by omega);have hp := hp (by omega);have hlt : i.i e.opq < (len.n e.opq : Int) := by omega
      refine ⟨.pointer (some ⟨b, (off.n e.opq + i.n e.opq) * z, none⟩), ?_, fun w => ?_⟩
      ·simp only [VR];exact ⟨b, hb, by rw [add_n o0 h0, Nat.add_zero]⟩
      ·have e1 : (i.i e.opq).toNat = i.n e.opq := rfl;simp [Instr.indexAt, asIntOf, run_underlying hu, h0, hlt, sizeOf, typeInfo, hinf, add_none, h1, hp, e1, Nat.add_mul]
     ·cases k
    ·cases k
   ·cases k
  ·rename_i n el hu;split at k
   ·rename_i inf hinf;split at k
    ·rename_i s l x;split at k
     ·rename_i hc;simp only [bae] at hc;obtain ⟨⟨⟨⟨c1, c2⟩, c3⟩, c4⟩, c5⟩ := hc;have h1 := beq_t c1;have h3 := beq_t c3;have h0 := ge0_val hA c4;have hl : i.i e.opq < (n : Int) := ltB_val hA c5;clear c1 c3 c4 c5;have hin := n_of_i h0;simp only [VR] at ha;obtain ⟨b, o, arr, rfl, g1, g2⟩ := ha;simp only [PC] at g2;have hlt : i.n e.opq < (s :: l).length := by simp; omega
      obtain ⟨q1, q2⟩ := Sh.all1_get c2 hlt;obtain ⟨d, r1, r2⟩ := PCs.piece g2 q1;have hlen := PC.length _ _ _ r2;have hv : VR e (.pp s (.bi .sel x i)) (.pointer (some ⟨b, o + i.n e.opq * s.size, none⟩)) := by
       simp only [VR];refine ⟨b, _, arr, rfl, g1, ?_⟩;rw [sel_den _ _ _ r1, ← q2];have e1 : ((((arr.toList.drop o).take (Sh.agg (s :: l)).size).drop (Sh.off (s :: l) (i.n e.opq))).take s.size) = (arr.toList.drop (o + Sh.off (s :: l) (i.n e.opq))).take s.size := by
        rw [List.drop_take, List.drop_drop, List.take_take] at hlen ⊢;simp only [List.length_take] at hlen;congr 1;omega
       rw [← e1]; exact r2
      have hrun : ∀ w, (Instr.indexAt t (.pointer (some ⟨b, o, none⟩)) (.int kk (i.i e.opq))).run P w = .ok (.pointer (some ⟨b, o + i.n e.opq * s.size, none⟩)) w := fun w => by
       have e1 : (i.i e.opq).toNat = i.n e.opq := rfl;simp [Instr.indexAt, asIntOf, run_underlying hu, Instr.sureAddr, h0, hl, sizeOf, typeInfo, hinf, add_none, h1, e1]
      split at k
      ·rename_i j;simp only [sme] at k;subst k;refine ⟨_, ?_, hrun⟩;simp only [VR] at hv ⊢;obtain ⟨b', o', arr', he, v1, v2⟩ := hv;refine ⟨b', o', arr', he, v1, ?_⟩;rw [sel_den _ _ _ r1] at v2;rw [mkSelD_den _ _ _ (show (x.den e.opq).toList[j.toNat]? = some d from r1)];exact v2
      ·simp only [sme] at k;subst k;exact ⟨_, hv, hrun⟩
     ·cases k
    ·rename_i id z j f;split at k
     ·rename_i p;split at k
      ·rename_i hc;have hc := of_decide_eq_true hc;simp only [sme] at k;subst k;simp only [VR] at ha;obtain ⟨b, hb, rfl⟩ := ha;refine ⟨.pointer (some ⟨b, j.n e.opq * z + f + p.toNat * inf.size, none⟩), ?_, fun w => ?_⟩
       ·simp only [VR]; exact ⟨b, hb, by rw [Nat.add_assoc]⟩
       ·have e0 : (E.int p).i e.opq = p := rfl;simp [Instr.indexAt, asIntOf, run_underlying hu, Instr.sureAddr, e0, hc.1, hc.2, sizeOf, typeInfo, hinf, add_none]
      ·cases k
     ·cases k
    ·cases k
   ·cases k
  ·cases k
 ·cases k

def vLen (P : Program) (A : Ask) (t : TypeId) (a : AV) : Option AV := match P.underlying t with
 | some (.slice _) => match a with
  | .pv _ x => match fitB A .i64 (.un .len x) with
   | true => some (mkS .i64 (.un .len x))
   | false => none
  | .vslice _ _ _ len _ _ => match fitB A .i64 len with
   | true => some (mkS .i64 len)
   | false => none
  | _ => none
 | _ => none

theorem vLen_run {P : Program} {e : Env} {A : Ask} (hA : AskOK e.opq A) {t ty : TypeId} {x v : AV} (k : vLen P A t x = some v) {x' : Value} (hx : VR e x x') : ∃ y, VR e v y ∧ ∀ w, (Builtin.len_ #[t] ty #[x']).run P w = .ok y w := by
 unfold vLen at k;split at k
 ·rename_i el hu;split at k
  ·rename_i s x;split at k
   ·rename_i hf;have hf := fitB_val hA hf;simp only [sme] at k;subst k;refine ⟨_, mkS_vr (e := e) hf, fun w => ?_⟩;have e1 : (E.un .len x).i e.opq = ((x.den e.opq).toList.length : Int) := rfl;rw [e1];simp only [VR, PC, List.cons.injEq, and_true] at hx;obtain ⟨_, rfl, ⟨h0, rfl | ⟨ad, cp, rfl⟩⟩ | ⟨b, o, cp, arr, rfl, _⟩⟩ := hx
    ·simp [Builtin.len_, run_underlying hu, goInt, h0]
    ·simp [Builtin.len_, run_underlying hu, goInt, h0]
    ·simp [Builtin.len_, run_underlying hu, goInt]
   ·cases k
  ·rename_i id z off len cap opn;split at k
   ·rename_i hf;have hf := fitB_val hA hf;simp only [sme] at k;subst k;simp only [VR] at hx;obtain ⟨b, p, hb, rfl, _, g1, _⟩ := hx;refine ⟨_, mkS_vr (e := e) hf, fun w => ?_⟩;simp [Builtin.len_, run_underlying hu, goInt, n_of_i g1]
   ·cases k
  ·cases k
 ·cases k

def mkCutD (x l h : E) : E := match l, h with
 | .int 0, .un .len y => match x.beq y with
  | true => x
  | false => .tr .cut x l h
 | _, _ => .tr .cut x l h
theorem mkCutD_den (Ω : Om) (x l h : E) : ((mkCutD x l h).den Ω).toList = ((x.den Ω).toList.take (h.n Ω)).drop (l.n Ω) := by
 have h0 : ((E.tr .cut x l h).den Ω).toList = ((x.den Ω).toList.take (h.n Ω)).drop (l.n Ω) := rfl;unfold mkCutD;split
 ·split
  ·rename_i y hb;have := E.beq_eq hb;subst this;have e1 : (E.un .len x).n Ω = (x.den Ω).toList.length := by simp [E.n, E.den, UO.den, D.nat]
   have e2 : (E.int 0).n Ω = 0 := rfl;rw [e1, e2]; simp
  ·exact h0
 ·exact h0

def vSlice (P : Program) (A : Ask) (t : TypeId) (a : AV) (lo hi mx : Option AV) : Option AV := match P.underlying t, mx with
 | some (.slice el), none => match P.info? el with
  | some inf => match a with
   | .pv s x => match bndE (.int 0) lo, bndE (.un .len x) hi with
    | some l, some h => match Nat.beq inf.size s.size && ge0 A l && leB A l h && leB A h (.un .len x) with
     | true => some (.pv s (mkCutD x l h))
     | false => none
    | _, _ => none
   | .vslice id z off len cap opn => match bndE (.int 0) lo, bndE len hi with
    | some l, some h => match Nat.beq inf.size z && ge0 A l && leB A l h && leB A h cap with
     | true => some (.vslice id z (off.add l) (h.sub l) (cap.sub l) opn)
     | false => none
    | _, _ => none
   | _ => none
  | none => none
 | _, _ => none

theorem vSlice_run {P : Program} {e : Env} {A : Ask} (hA : AskOK e.opq A) {t : TypeId} {x v : AV} {lo hi mx : Option AV} (k : vSlice P A t x lo hi mx = some v) {x' : Value} {lo' hi' mx' : Option Value}
  (hx : VR e x x') (h1 : OR e lo lo') (h2 : OR e hi hi') (h3 : OR e mx mx') : ∃ y, VR e v y ∧ ∀ w, (Instr.sliceAt t x' lo' hi' mx').run P w = .ok y w := by
 unfold vSlice at k;split at k
 ·rename_i el hu;have hmx' : mx' = none := h3;subst hmx';split at k
  ·rename_i inf hinf;split at k
   ·rename_i s x;split at k
    ·rename_i l h hl hh;split at k
     ·rename_i hc;simp only [bae] at hc;obtain ⟨⟨⟨c0, c1⟩, c2⟩, c3⟩ := hc;have c0 := beq_t c0;have c1 := ge0_val hA c1;have c2 := leB_val hA c2;have c3 := leB_val hA c3;have c3 : h.i e.opq ≤ ((x.den e.opq).toList.length : Int) := c3;have n1 := n_of_i c1;have n2 := n_of_i (Ω := e.opq) (x := h) (by omega);simp only [sme] at k;subst k;have hb1 : (lo' = none ∧ l.n e.opq = 0) ∨ ∃ k, lo' = some (.int k (l.n e.opq)) := by
       rcases bndE_val h1 hl with ⟨q1, _, q3⟩ | ⟨kk, q1, _⟩
       ·subst q3; exact .inl ⟨q1, rfl⟩
       ·exact .inr ⟨kk, by rw [q1, n1]⟩
      have elen : (E.un .len x).n e.opq = (x.den e.opq).toList.length := by simp [E.n, E.den, UO.den, D.nat]
      have hb2 : (hi' = none ∧ (none : Option Value) = none ∧ h.n e.opq = (x.den e.opq).toList.length) ∨ ∃ k, hi' = some (.int k (h.n e.opq)) := by
       rcases bndE_val h2 hh with ⟨q1, q2, q3⟩ | ⟨kk, q1, _⟩
       ·subst q3; exact .inl ⟨q1, rfl, elen⟩
       ·exact .inr ⟨kk, by rw [q1, n2]⟩
      simp only [VR, PC, List.cons.injEq, and_true] at hx;obtain ⟨_, rfl, ⟨h0, hx⟩ | ⟨b, o, cp, arr, rfl, hle, hb, hel⟩⟩ := hx
      ·rw [h0] at c3 hb2;rw [List.length_nil] at c3 hb2;have z1 : l.n e.opq = 0 := by omega
       have z2 : h.n e.opq = 0 := by omega
       rw [z1] at hb1;rw [z2] at hb2;have hres : ((mkCutD x l h).den e.opq).toList = [] := by rw [mkCutD_den, h0]; simp
       rcases hx with rfl | ⟨ad, c, rfl⟩
       ·have hr : ∀ w, (Instr.sliceBounds true 0 0 lo' hi' none).run P w = .ok (0, 0, 0) w := fun w => run_bounds w true 0 0 lo' hi' none 0 0 0 hb1 hb2 (.inl ⟨rfl, rfl⟩) (Nat.le_refl 0) (Nat.le_refl 0) (Nat.le_refl 0)
        refine ⟨.slice none 0 0, ?_, fun w => ?_⟩
        ·simp only [VR, PC]; exact ⟨_, rfl, .inl ⟨hres, .inl rfl⟩⟩
        ·simp [Instr.sliceAt, Sem.run_bind, run_underlying hu, Result.andThen_ok, Instr.slice, hr, sizeOf, typeInfo, run_program, hinf, Sem.run_pure]
       ·have hr : ∀ w, (Instr.sliceBounds true 0 c lo' hi' none).run P w = .ok (0, 0, c) w := fun w => run_bounds w true 0 c lo' hi' none 0 0 c hb1 hb2 (.inl ⟨rfl, rfl⟩) (Nat.le_refl 0) (Nat.zero_le c) (Nat.le_refl c)
        refine ⟨.slice (if c = 0 then some ad else (some ad).map (·.add (0 * inf.size))) (0 - 0) (c - 0), ?_, fun w => ?_⟩
        ·simp only [VR, PC];refine ⟨_, rfl, .inl ⟨hres, .inr ?_⟩⟩;split
         ·exact ⟨ad, c, rfl⟩
         ·exact ⟨_, c, rfl⟩
        ·simp only [Instr.sliceAt, Sem.run_bind, run_underlying hu, Result.andThen_ok, Instr.slice, hr, sizeOf, typeInfo, run_program, hinf, Sem.run_pure]
      ·have hres : ((mkCutD x l h).den e.opq).toList.length = h.n e.opq - l.n e.opq := by rw [mkCutD_den]; simp; omega
       refine ⟨.slice (if cp - l.n e.opq = 0 then some ⟨b, o, none⟩ else some ⟨b, o + l.n e.opq * inf.size, none⟩) (h.n e.opq - l.n e.opq) (cp - l.n e.opq), ?_, fun w => ?_⟩
       ·simp only [VR, PC];refine ⟨_, rfl, ?_⟩;by_cases hz : h.n e.opq = l.n e.opq
        ·left;refine ⟨List.eq_nil_of_length_eq_zero (by omega), .inr ?_⟩;rw [hz, Nat.sub_self];split
         ·exact ⟨_, _, rfl⟩
         ·exact ⟨_, _, rfl⟩
        ·right;rw [if_neg (by omega), hres];refine ⟨b, _, _, arr, rfl, by omega, hb, fun j d hj => ?_⟩;rw [mkCutD_den, List.getElem?_drop, List.getElem?_take] at hj;split at hj
         ·have := hel _ _ hj;rw [c0];rw [show o + l.n e.opq * s.size + j * s.size = o + (l.n e.opq + j) * s.size by rw [Nat.add_mul]; omega];exact this
         ·cases hj
       ·have hr := run_bounds (P := P) w true (x.den e.opq).toList.length cp lo' hi' none (l.n e.opq) (h.n e.opq) cp hb1 hb2 (.inl ⟨rfl, rfl⟩) (by omega) (by omega) (by omega);simp only [Instr.sliceAt, Sem.run_bind, run_underlying hu, Result.andThen_ok, Instr.slice, hr, sizeOf, typeInfo, run_program, hinf, Sem.run_pure];congr 2;by_cases hq : cp = l.n e.opq
        ·rw [if_pos hq, if_pos (by omega)]
        ·rw [if_neg hq, if_neg (by omega)]; simp [add_none]
     ·cases k
    ·cases k
   ·rename_i id z off len cap opn;split at k
    ·rename_i l h hl hh;split at k
     ·rename_i hc;simp only [bae] at hc;obtain ⟨⟨⟨c0, c1⟩, c2⟩, c3⟩ := hc;have c0 := beq_t c0;have c1 := ge0_val hA c1;have c2 := leB_val hA c2;have c3 := leB_val hA c3;have n1 := n_of_i c1;have n2 := n_of_i (Ω := e.opq) (x := h) (by omega);simp only [sme] at k;subst k;simp only [VR] at hx;obtain ⟨b, p, hb, rfl, hp, g1, g2, g3⟩ := hx;have n4 := n_of_i (Ω := e.opq) (x := cap) (by omega);have n5 := n_of_i g1;have hb1 : (lo' = none ∧ l.n e.opq = 0) ∨ ∃ k, lo' = some (.int k (l.n e.opq)) := by
       rcases bndE_val h1 hl with ⟨q1, _, q3⟩ | ⟨kk, q1, _⟩
       ·subst q3; exact .inl ⟨q1, rfl⟩
       ·exact .inr ⟨kk, by rw [q1, n1]⟩
      have hb2 : (hi' = none ∧ (none : Option Value) = none ∧ h.n e.opq = len.n e.opq) ∨ ∃ k, hi' = some (.int k (h.n e.opq)) := by
       rcases bndE_val h2 hh with ⟨q1, q2, q3⟩ | ⟨kk, q1, _⟩
       ·subst q3; exact .inl ⟨q1, rfl, rfl⟩
       ·exact .inr ⟨kk, by rw [q1, n2]⟩
      generalize hsp : (if opn = true then e.spare id else 0) = sp at *;refine ⟨.slice (if cap.n e.opq + sp - l.n e.opq = 0 then some ⟨b, p, none⟩ else some ⟨b, p + l.n e.opq * inf.size, none⟩) (h.n e.opq - l.n e.opq) (cap.n e.opq + sp - l.n e.opq), ?_, fun w => ?_⟩
      ·simp only [VR, hsp];refine ⟨b, if cap.n e.opq + sp - l.n e.opq = 0 then p else p + l.n e.opq * inf.size, hb, ?_, ?_, ?_, ?_, ?_⟩
       ·rw [sub_n c1 c2, sub_n c1 (by omega)];rw [show cap.n e.opq - l.n e.opq + sp = cap.n e.opq + sp - l.n e.opq by omega];split <;> rfl
       ·intro hne;rw [sub_n c1 (by omega)] at hne;rw [if_neg (by omega), hp (by omega), c0, add_n g2 c1, Nat.add_mul]
       ·rw [E.sub_i]; omega
       ·rw [E.add_i]; omega
       ·rw [E.sub_i, E.sub_i]; omega
      ·have hr := run_bounds (P := P) w true (len.n e.opq) (cap.n e.opq + sp) lo' hi' none (l.n e.opq) (h.n e.opq) (cap.n e.opq + sp) hb1 hb2 (.inl ⟨rfl, rfl⟩) (by omega) (by omega) (by omega);simp only [Instr.sliceAt, Sem.run_bind, run_underlying hu, Result.andThen_ok, Instr.slice, hr, sizeOf, typeInfo, run_program, hinf, Sem.run_pure];congr 2;by_cases hq : cap.n e.opq + sp = l.n e.opq
       ·rw [if_pos hq, if_pos (by omega)]
       ·rw [if_neg hq, if_neg (by omega)]; simp [add_none]
     ·cases k
    ·cases k
   ·cases k
  ·cases k
 ·cases k

def vText (P : Program) (m : Mem) (src dst : TypeId) (a : AV) : Option AV :=
 match P.underlying src, P.underlying dst, a with
 | some (.slice el), some .string, .pv (.int k) x => match P.underlying el with
  | some (.int .u8) => match m.pl && decide (k = .u8) with
   | true => some (.sstr (.un .len x) x)
   | false => none
  | _ => none
 | _, _, _ => none

theorem pv_ints {h : Pool} {k : IntKind} {d : D} {a : Value} (H : PC h (.sl (.int k)) d [a]) : (∀ c ∈ d.ints, inK k c) ∧ ((d.toList = [] ∧ (a = .slice none 0 0 ∨ ∃ ad cp, a = .slice (some ad) 0 cp)) ∨
  ∃ b o cp arr, a = .slice (some ⟨b, o, none⟩) d.toList.length cp ∧ d.toList.length ≤ cp ∧ h b = some arr ∧ ∀ (j : Nat) (n : Int), d.ints[j]? = some n → arr[o + j]? = some (.int k n)) := by
 have hok := PC.ok _ _ _ H;simp only [Sh.ok] at hok;refine ⟨fun c hc => ?_, ?_⟩
 ·simp only [D.ints, List.mem_map] at hc;obtain ⟨x, hx, rfl⟩ := hc;exact hok x hx
 ·simp only [PC, List.cons.injEq, and_true] at H;obtain ⟨_, rfl, h0 | ⟨b, o, cp, arr, rfl, hle, hb, hel⟩⟩ := H
  ·exact .inl h0
  ·refine .inr ⟨b, o, cp, arr, rfl, hle, hb, fun j n hj => ?_⟩;rw [ints_get] at hj;simp only [Option.map_eq_some_iff] at hj;obtain ⟨x, hx, rfl⟩ := hj;have := (hel j x hx).1;simp only [Sh.size, Nat.mul_one] at this;have h2 := congrArg (fun l => l[0]?) this;simp at h2;exact h2

theorem vText_run {P : Program} {e : Env} {m : Mem} {M : World → Prop} (R : Reads P e m M) {src dst : TypeId} {x v : AV} (k : vText P m src dst x = some v) {y : Value} (hx : VR e x y) :
  ∃ z, VR e v z ∧ ∀ w, M w → (convert src dst y).run P w = .ok z w := by
 unfold vText at k;split at k
 ·rename_i el kk x hs hd;split at k
  ·rename_i he;split at k
   ·rename_i hc;simp only [bae, decide_eq_true_eq] at hc;obtain ⟨hpl, rfl⟩ := hc;simp only [sme] at k;subst k;simp only [VR] at hx;obtain ⟨hr, hx⟩ := pv_ints hx;have hlen : (x.den e.opq).toList.length = (x.s e.opq).length := by simp [E.s, D.ints]
    refine ⟨.string (strOf (x.s e.opq)), ?_, fun w hw => ?_⟩
    ·simp only [VR];exact ⟨trivial, by simp [E.i, E.s, E.den, UO.den, D.ints], hr⟩
    ·rcases hx with ⟨h0, rfl | ⟨ad, cp, rfl⟩⟩ | ⟨b, o, cp, arr, rfl, hle, hb, hel⟩
     ·rw [run_convert_bytes_string w src dst el _ _ _ hs he hd];have : x.s e.opq = [] := List.eq_nil_of_length_eq_zero (by rw [← hlen, h0]; rfl);rw [this];simp [Conv.bytesToString, strOf]
     ·rw [run_convert_bytes_string w src dst el _ _ _ hs he hd];have : x.s e.opq = [] := List.eq_nil_of_length_eq_zero (by rw [← hlen, h0]; rfl);rw [this];exact run_bytesToString w _ 0 _ _ (by simp [loadCells, loadCellsFrom])
     ·rw [run_convert_bytes_string w src dst el _ _ _ hs he hd];refine run_bytesToString w _ _ _ _ ?_;obtain ⟨el', fz, hrow⟩ := R.pool hpl w hw _ _ hb;refine run_loadCells_at (P := P) w b o _ _ (by simp [E.s, D.ints]) fun j y hj => ?_
      simp only [List.getElem?_map, Option.map_eq_some_iff] at hj;obtain ⟨c, hc1, rfl⟩ := hj;rw [cell?_row hrow];exact hel j c hc1
   ·cases k
  ·cases k
 ·cases k

def quietV (P : Program) (m : Mem) (t : T AV) (o : Oper) : Option AV :=
 match o.op with
 | .load ty x => match evalO t x with
  | some a => vLoad P m ty a
  | none => none
 | .nilCheck x => match evalO t x with
  | some a => vNil a
  | none => none
 | .fieldAddr s x f => match evalO t x with
  | some a => vField P s a f
  | none => none
 | .indexAddr ty x ix => match evalO t x, evalO t ix with
  | some a, some b => vIndexAddr P m.ask ty a b
  | _, _ => none
 | .slice ty x lo hi mx => match evalO t x, optO t lo, optO t hi, optO t mx with
  | some a, some l, some h, some c => vSlice P m.ask ty a l h c
  | _, _, _, _ => none
 | .convert src dst x => match evalO t x with
  | some a => vText P m src dst a
  | none => none
 | .call { callee := .builtin .len, args := args, argTypes := tys } => match args.toList, tys.toList with
  | [x], [ty] => match evalO t x with
   | some v => vLen P m.ask ty v
   | none => none
  | _, _ => none
 | _ => none

theorem quietV_run {P : Program} {e : Env} {m : Mem} {M : World → Prop} (R : Reads P e m M) {t : T AV} {a : Act} (h : FT e t a) {o : Oper} {v : AV} (k : quietV P m t o = some v) :
  ∃ x, VR e v x ∧ ∀ w, M w → (execOp a.eval o).run P w = .ok (.value x) w := by
 have lift : ∀ (s : Sem Value) (op' : execOp a.eval o = (do pure (.value (← s)))), (∃ z, VR e v z ∧ ∀ w, M w → s.run P w = .ok z w) → ∃ x, VR e v x ∧ ∀ w, M w → (execOp a.eval o).run P w = .ok (.value x) w := by
  intro s he ⟨z, h1, h2⟩;exact ⟨z, h1, fun w hw => by rw [he, Sem.run_bind, h2 w hw]; rfl⟩
 have call1 : ∀ {b : Builtin} {args : Array Operand} {tys : Array TypeId} (s : Sem Value), o.op = .call { callee := .builtin b, args := args, argTypes := tys } → (∀ c, builtin b tys o.type c (args.map a.eval) = (do pure (.value (← s)))) →
   (∃ z, VR e v z ∧ ∀ w, M w → s.run P w = .ok z w) → ∃ x, VR e v x ∧ ∀ w, M w → (execOp a.eval o).run P w = .ok (.value x) w := by
  intro b args tys s hop hb ⟨z, h1, h2⟩;refine ⟨z, h1, fun w hw => ?_⟩;simp only [execOp, hop, resolve, invoke, Sem.run_bind, Sem.run_pure, Result.andThen_ok, hb, h2 w hw]
 unfold quietV at k;split at k;case h_1 ty x hop =>
  split at k
  ·rename_i a' hx;exact lift (Instr.loadAt ty (a.eval x)) (by simp only [execOp, hop]) (vLoad_run R k (evalO_vr h hx))
  ·cases k
 case h_2 x hop =>
  split at k
  ·rename_i a' hx;have hv := evalO_vr h hx;unfold vNil at k;split at k
   ·cases k;refine ⟨_, hv, fun w _ => ?_⟩;simp only [VR] at hv;obtain ⟨b, o', arr, hv, _⟩ := hv;simp [execOp, hop, hv]
   ·cases k;refine ⟨_, hv, fun w _ => ?_⟩;simp only [VR] at hv;obtain ⟨b, hb, hv⟩ := hv;simp [execOp, hop, hv]
   ·cases k
  ·cases k
 case h_3 s x f hop =>
  split at k
  ·rename_i a' hx;obtain ⟨z, g1, g2⟩ := vField_run (P := P) k (evalO_vr h hx);exact lift (Instr.fieldAt s (a.eval x) f) (by simp only [execOp, hop]) ⟨z, g1, fun w _ => g2 w⟩
  ·cases k
 case h_4 ty x ix hop =>
  split at k
  ·rename_i a' b' hx hy;obtain ⟨z, g1, g2⟩ := vIndexAddr_run (P := P) R.ask k (evalO_vr h hx) (evalO_vr h hy);exact lift (Instr.indexAt ty (a.eval x) (a.eval ix)) (by simp only [execOp, hop]) ⟨z, g1, fun w _ => g2 w⟩
  ·cases k
 case h_5 ty x lo hi mx hop =>
  split at k
  ·rename_i a' l' h' c' hx hl hh hc;obtain ⟨z, g1, g2⟩ := vSlice_run (P := P) R.ask k (evalO_vr h hx) (optO_or h hl) (optO_or h hh) (optO_or h hc);exact lift (Instr.sliceAt ty (a.eval x) (lo.map a.eval) (hi.map a.eval) (mx.map a.eval)) (by simp only [execOp, hop]) ⟨z, g1, fun w _ => g2 w⟩
  ·cases k
 case h_6 src dst x hop =>
  split at k
  ·rename_i a' hx;exact lift (convert src dst (a.eval x)) (by simp only [execOp, hop]) (vText_run R k (evalO_vr h hx))
  ·cases k
 case h_7 args tys hop =>
  split at k
  ·rename_i x ty ha ht;split at k
   ·rename_i v' hx;obtain ⟨z, g1, g2⟩ := vLen_run (P := P) (ty := o.type) R.ask k (evalO_vr h hx);exact call1 (Builtin.len_ #[ty] o.type #[a.eval x]) hop (fun c => by simp [builtin, toList_one' ha, toList_one' ht]) ⟨z, g1, fun w _ => g2 w⟩
   ·cases k
  ·cases k
 case h_8 => cases k

end Go.Ev
