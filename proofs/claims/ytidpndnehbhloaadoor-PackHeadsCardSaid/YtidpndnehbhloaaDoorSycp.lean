/- Calls by contract on arguments that are known: the kernel reckons what they come to. No condition. -/
import Derived.Test.YtidpndnehbhloaaDoorSylm
set_option linter.unusedSimpArgs false
set_option linter.unusedVariables false
namespace Go.Ev
open Go.RowKit

def forceN {α : Type} (n : Nat) (k : Nat → α) : α := match n with
 | 0 => k 0
 | m + 1 => k (m + 1)
theorem forceN_eq {α : Type} (n : Nat) (k : Nat → α) : forceN n k = k n := by cases n <;> rfl
def forceI {α : Type} (n : Int) (k : Int → α) : α := match n with
 | .ofNat m => forceN m fun m => k (.ofNat m)
 | .negSucc m => forceN m fun m => k (.negSucc m)
theorem forceI_eq {α : Type} (n : Int) (k : Int → α) : forceI n k = k n := by cases n <;> simp [forceI, forceN_eq]
def forceL {α : Type} : List Int → (List Int → α) → α
 | [], k => k []
 | n :: l, k => forceI n fun n => forceL l fun l => k (n :: l)
theorem forceL_eq {α : Type} : ∀ (l : List Int) (k : List Int → α), forceL l k = k l
 | [], _ => rfl
 | n :: l, k => by simp only [forceL, forceI_eq, forceL_eq l]

def closedE : E → Bool
 | .var _ => false
 | .int _ => true
 | .lits _ => true
 | .fn _ x => closedE x
 | .un _ x => closedE x
 | .bi _ x y => closedE x && closedE y
 | .tr _ x y z => closedE x && closedE y && closedE z
theorem den_closed {Ω Ω' : Om} (hf : Ω.f = Ω'.f) : ∀ x : E, closedE x = true → x.den Ω = x.den Ω'
 | .var _, h => by cases h
 | .int _, _ => rfl
 | .lits _, _ => rfl
 | .fn g x, h => by simp only [E.den]; rw [hf, den_closed hf x h]
 | .un o x, h => by simp only [E.den]; rw [den_closed hf x h]
 | .bi o x y, h => by
  simp only [closedE, bae] at h;simp only [E.den]; rw [den_closed hf x h.1, den_closed hf y h.2]
 | .tr o x y z, h => by
  simp only [closedE, bae] at h;simp only [E.den]; rw [den_closed hf x h.1.1, den_closed hf y h.1.2, den_closed hf z h.2]

def omC (G : Nat → D → D) : Om := ⟨fun _ => .bool false, fun _ => .int 0, G⟩

def normV (G : Nat → D → D) : AV → AV
 | .sint k x => match closedE x with
  | true => forceI (x.i (omC G)) fun n => .int k n
  | false => .sint k x
 | .agg cs => match cs with
  | .sint k (.bi .sel s (.int 0)) :: r => match runOf k s 0 (.sint k (.bi .sel s (.int 0)) :: r) && closedE s with
   | true => forceL (s.s (omC G)) fun l => match Nat.beq l.length (r.length + 1) with
    | true => .agg (l.map (.int k))
    | false => .agg cs
   | false => .agg cs
  | _ => .agg cs
 | v => v

theorem normV_vr {G : Nat → D → D} {e : Env} (hf : e.opq.f = G) {v : AV} {a : Value} (h : VR e v a) : VR e (normV G v) a := by
 unfold normV;split
 ·rename_i k x;split
  ·rename_i hc;rw [forceI_eq];simp only [VR] at h ⊢;rw [h.1];simp only [E.i];rw [den_closed (Ω := e.opq) (Ω' := omC G) hf x hc]
  ·exact h
 ·rename_i cs;split
  ·rename_i k s r;split
   ·rename_i hc;simp only [bae] at hc;rw [forceL_eq];split
    ·rename_i hl;have hl := beq_t hl;simp only [VR] at h ⊢;obtain ⟨as, rfl, hs⟩ := h;refine ⟨as, rfl, ?_⟩;obtain ⟨h1, _⟩ := runOf_val hc.1 hs;have hss : s.s (omC G) = s.s e.opq := by simp only [E.s]; rw [den_closed (Ω := e.opq) (Ω' := omC G) hf s hc.2]
     rw [hss] at hl ⊢;have heq : as.toList = (s.s e.opq).map (Value.int k) := by
      rw [h1];refine List.ext_getElem? fun i => ?_
      simp only [List.getElem?_map, List.length_cons, Nat.zero_add];rcases Nat.lt_or_ge i (r.length + 1) with hi | hi
      ·rw [List.getElem?_range hi];have hg : (s.s e.opq)[i]? = some (s.s e.opq)[i] := List.getElem?_eq_getElem (by omega);rw [hg];simp only [Option.map_some, sme, Value.int.injEq, true_and];exact sel_i _ _ _ (by simp only [E.n, E.den, D.nat, D.toInt_int, Int.toNat_natCast]; exact hg)
      ·rw [List.getElem?_eq_none (by simpa using hi), List.getElem?_eq_none (by omega)]; rfl
     rw [heq];have go : ∀ l : List Int, VRs e (l.map (AV.int k)) (l.map (Value.int k)) := by
      intro l;induction l with
      | nil => exact VRs_nil
      | cons n l ih => exact VRs_cons (by simp only [VR]) ih
     exact go _
    ·exact h
   ·exact h
  ·exact h
 ·exact h

def normCall (G : Nat → D → D) (c : Caller) : Caller := fun f args s => match c f args s with
 | some (.ret v, s') => some (.ret (normV G v), s')
 | r => r
theorem normCall_ok {P : Program} {Ω : Om} {w0 : Base} {G : Nat → D → D} (hf : Ω.f = G) {c : Caller} (h : CallOK P Ω w0 c) : CallOK P Ω w0 (normCall G c) := by
 intro f args s en s' k e w as hr ha;unfold normCall at k;split at k
 ·rename_i v s1 hc;simp only [sme, pme] at k;obtain ⟨rfl, rfl⟩ := k;refine (h f args s _ _ hc e w as hr ha).mono fun E w' ⟨e', g1, g2, g3⟩ => ⟨e', g1, g2, ?_⟩
  cases E with
  | returned x => exact normV_vr (by rw [g2.opq]; exact hf) g3
  | panicked l => exact g3.elim
  | outgrown => exact g3.elim
 ·exact h f args s _ _ k e w as hr ha

def knownW (G : Nat → D → D) (A : Ask) (tab : List LEntry) (cs : List (FuncId × CSpec)) (ov : Overs) : Known := knownOf A tab (orCall (normCall G (specCall cs A)) (overCall ov A))
theorem knownW_ok {P : Program} {tab : List LEntry} {cs : List (FuncId × CSpec)} {ov : Overs} {f : Nat → D → D} (h : TableOK P tab f) (hc : SpecsOK P cs f) (ho : OversOK P ov f) {Ω : Om} (hf : Ω.f = f) {w0 : Base} {A : Ask} (hA : AskOK Ω A) : KnownOK P Ω w0 (knownW f A tab cs ov) :=
 knownOf_ok h hf hA (orCall_ok (normCall_ok hf (specCall_ok hf hA hc)) (overCall_ok ho hf hA))

def callW (P : Program) (G : Nat → D → D) (A : Ask) (tab : List LEntry) (cs : List (FuncId × CSpec)) (ov : Overs) (fuel depth : Nat) (g : FuncId) (C : CSpec) : Option (En × St) := callN P (knownW G A tab cs ov) fuel depth g C.args C.st

theorem choldsW_of {P : Program} (S : Sound P) {g : FuncId} {C : CSpec} {f : Nat → D → D} {tab : List LEntry} (htab : TableOK P tab f) {cs : List (FuncId × CSpec)} (hcs : SpecsOK P cs f) {ov : Overs} (hov : OversOK P ov f) {fuel depth : Nat} (hdr : distinctB (C.rows.map (·.1)) = true)
  (step : ∀ d, (∀ q ∈ C.pre, q.1.val ⟨fun _ => .bool false, d, f⟩ = q.2) → factsR ⟨fun _ => .bool false, d, f⟩ C.rows → factsA ⟨fun _ => .bool false, d, f⟩ C.args → ∃ A ρ N ds, AskOK ⟨fun _ => .bool false, d, f⟩ A ∧ endC C ρ N (callW P f A tab cs ov fuel depth g C) = some ds ∧ Duties ⟨fun _ => .bool false, d, f⟩ ds) : CHolds P g C f := by
 intro d hp v B e w as hr ha;have e1 : (⟨fun _ => .bool false, d, f⟩ : Om).d = e.opq.d := by rw [hr.opq]
 have e2 : (⟨fun _ => .bool false, d, f⟩ : Om).f = e.opq.f := by rw [hr.opq]
 obtain ⟨A, ρ, N, ds, hA0, hend, hds⟩ := step d hp (factsR_of fun p hp => by
  obtain ⟨k, _, hO⟩ := hr.obj p.1 _ (rowsT_get (distinctB_nodup hdr) hp);exact hO.facts e1 e2) (VRs.facts e1 e2 ha)
 have hA : AskOK ⟨v, d, f⟩ A := fun q bb hq => (val_same (Ω := ⟨fun _ => .bool false, d, f⟩) (Ω' := ⟨v, d, f⟩) rfl rfl q).trans (hA0 q bb hq)
 have hds : Duties ⟨v, d, f⟩ ds := by
  intro p hp;have := hds p hp;obtain ⟨bb, x, y⟩ := p;cases bb <;> simp only [Duty.met, E.i, E.s, den_newV v (fun _ => .bool false) d f] <;> exact this
 unfold endC at hend;split at hend
 ·rename_i v1 s1 hcall;split at hend
  ·rename_i hc;simp only [bae] at hc;obtain ⟨⟨c1, c2⟩, c3⟩ := hc;split at hend
   ·rename_i a b h1 h2;simp only [sme] at hend;subst hend;obtain ⟨d1, d2⟩ := hds.app;refine (callN_ok S (knownW_ok htab hcs hov (Ω := ⟨v, d, f⟩) rfl (w0 := B) hA) fuel depth g C.args _ _ _ hcall e w as hr ha).mono fun E w' ⟨e1, g1, g2, g3⟩ => ?_
    obtain ⟨nd, od⟩ := renB_split c2;have ho1 : e1.opq = ⟨v, d, f⟩ := g2.opq;refine ⟨e1.pull ρ, ⟨N, g2.see h2 d2 c1 nd od⟩, ?_, same_loc (L := C.L) c3 hr g1, pull_even g1 ρ⟩;cases E with
    | returned y =>
     simp only [EnR] at g3;exact ⟨y, rfl, seeArg_vr g2 (Env.pull_ok e1 ρ) h1 (by rw [ho1]; exact d1) g3⟩
    | panicked l => exact g3.elim
    | outgrown => exact g3.elim
   ·cases hend
  ·cases hend
 ·cases hend

theorem tl : type_of% (And.intro @allTold'.eq_1 (And.intro @allTold'.eq_2 (And.intro @dutiesTold.eq_1 (And.intro @dutiesTold.eq_2 (And.intro @dutiesTold.eq_3 (And.intro @factsA.eq_1 (And.intro @factsA.eq_2 (And.intro @factsC.eq_1 (And.intro @factsC.eq_2 (And.intro @factsC.eq_3 (And.intro @factsP.eq_1 (And.intro @factsP.eq_2 (And.intro @factsR.eq_1 (And.intro @factsR.eq_2 (And.intro @AV.facts.eq_1 (And.intro @AV.facts.eq_2 (And.intro @AV.facts.eq_3 (And.intro @AV.facts.eq_4 (And.intro @AV.facts.eq_5 (And.intro @AV.facts.eq_6 (And.intro @AV.facts.eq_7 (And.intro @AV.facts.eq_8 (And.intro @AV.facts.eq_9 (And.intro @AV.facts.eq_10 (And.intro @RW.facts.eq_1 (And.intro @RW.facts.eq_2 (And.intro @RW.facts.eq_3 (And.intro @RW.facts.eq_4 (And.intro @inK.eq_1 (And.intro @and_true (And.intro @Q.holds'.eq_1 (And.intro @Q.holds'.eq_2 (And.intro @Q.holds'.eq_3 (And.intro @Q.holds'.eq_4 (And.intro @Q.holds'.eq_5 (And.intro @Q.holds'.eq_6 (And.intro @Q.holds'.eq_7 (And.intro @Q.holds'.eq_8 (And.intro @Q.holds'.eq_9 (And.intro @E.i.eq_1 (And.intro @E.s.eq_1 (And.intro @E.n.eq_1 (And.intro @D.nat.eq_1 (And.intro @E.den.eq_1 (And.intro @E.den.eq_2 (And.intro @E.den.eq_3 (And.intro @E.den.eq_4 (And.intro @E.den.eq_5 (And.intro @E.den.eq_6 (And.intro @E.den.eq_7 (And.intro @BO.den.eq_1 (And.intro @BO.den.eq_2 (And.intro @BO.den.eq_3 (And.intro @BO.den.eq_4 (And.intro @BO.den.eq_5 (And.intro @BO.den.eq_6 (And.intro @BO.den.eq_7 (And.intro @BO.den.eq_8 (And.intro @BO.den.eq_9 (And.intro @BO.den.eq_10 (And.intro @BO.den.eq_11 (And.intro @BO.den.eq_12 (And.intro @UO.den.eq_1 (And.intro @UO.den.eq_2 (And.intro @UO.den.eq_3 (And.intro @UO.den.eq_4 (And.intro @UO.den.eq_5 (And.intro @UO.den.eq_6 (And.intro @UO.den.eq_7 (And.intro @UO.den.eq_8 (And.intro @UO.den.eq_9 (And.intro @TO.den.eq_1 (And.intro @TO.den.eq_2 (And.intro @TO.den.eq_3 (And.intro @TO.den.eq_4 (And.intro @D.toInt_int (And.intro @D.toList_list (And.intro @D.ints_ofInts (And.intro @i64min (And.intro @i64max (And.intro @u8min (And.intro @u8max (And.intro @u16min (And.intro @u16max (And.intro @u32min (And.intro @u32max (And.intro @u64min (And.intro @u64max (And.intro @i32min (And.intro @i32max (And.intro @Om.sub.eq_1 (And.intro @selI (And.intro @ints_app (And.intro @ints_cut (And.intro @ints_upd (And.intro @ints_rep (And.intro @ints_splice (And.intro @ints_seg @len_ints)))))))))))))))))))))))))))))))))))))))))))))))))))))))))))))))))))))))))))))))))))))))))))))))))) := And.intro @allTold'.eq_1 (And.intro @allTold'.eq_2 (And.intro @dutiesTold.eq_1 (And.intro @dutiesTold.eq_2 (And.intro @dutiesTold.eq_3 (And.intro @factsA.eq_1 (And.intro @factsA.eq_2 (And.intro @factsC.eq_1 (And.intro @factsC.eq_2 (And.intro @factsC.eq_3 (And.intro @factsP.eq_1 (And.intro @factsP.eq_2 (And.intro @factsR.eq_1 (And.intro @factsR.eq_2 (And.intro @AV.facts.eq_1 (And.intro @AV.facts.eq_2 (And.intro @AV.facts.eq_3 (And.intro @AV.facts.eq_4 (And.intro @AV.facts.eq_5 (And.intro @AV.facts.eq_6 (And.intro @AV.facts.eq_7 (And.intro @AV.facts.eq_8 (And.intro @AV.facts.eq_9 (And.intro @AV.facts.eq_10 (And.intro @RW.facts.eq_1 (And.intro @RW.facts.eq_2 (And.intro @RW.facts.eq_3 (And.intro @RW.facts.eq_4 (And.intro @inK.eq_1 (And.intro @and_true (And.intro @Q.holds'.eq_1 (And.intro @Q.holds'.eq_2 (And.intro @Q.holds'.eq_3 (And.intro @Q.holds'.eq_4 (And.intro @Q.holds'.eq_5 (And.intro @Q.holds'.eq_6 (And.intro @Q.holds'.eq_7 (And.intro @Q.holds'.eq_8 (And.intro @Q.holds'.eq_9 (And.intro @E.i.eq_1 (And.intro @E.s.eq_1 (And.intro @E.n.eq_1 (And.intro @D.nat.eq_1 (And.intro @E.den.eq_1 (And.intro @E.den.eq_2 (And.intro @E.den.eq_3 (And.intro @E.den.eq_4 (And.intro @E.den.eq_5 (And.intro @E.den.eq_6 (And.intro @E.den.eq_7 (And.intro @BO.den.eq_1 (And.intro @BO.den.eq_2 (And.intro @BO.den.eq_3 (And.intro @BO.den.eq_4 (And.intro @BO.den.eq_5 (And.intro @BO.den.eq_6 (And.intro @BO.den.eq_7 (And.intro @BO.den.eq_8 (And.intro @BO.den.eq_9 (And.intro @BO.den.eq_10 (And.intro @BO.den.eq_11 (And.intro @BO.den.eq_12 (And.intro @UO.den.eq_1 (And.intro @UO.den.eq_2 (And.intro @UO.den.eq_3 (And.intro @UO.den.eq_4 (And.intro @UO.den.eq_5 (And.intro @UO.den.eq_6 (And.intro @UO.den.eq_7 (And.intro @UO.den.eq_8 (And.intro @UO.den.eq_9 (And.intro @TO.den.eq_1 (And.intro @TO.den.eq_2 (And.intro @TO.den.eq_3 (And.intro @TO.den.eq_4 (And.intro @D.toInt_int (And.intro @D.toList_list (And.intro @D.ints_ofInts (And.intro @i64min (And.intro @i64max (And.intro @u8min (And.intro @u8max (And.intro @u16min (And.intro @u16max (And.intro @u32min (And.intro @u32max (And.intro @u64min (And.intro @u64max (And.intro @i32min (And.intro @i32max (And.intro @Om.sub.eq_1 (And.intro @selI (And.intro @ints_app (And.intro @ints_cut (And.intro @ints_upd (And.intro @ints_rep (And.intro @ints_splice (And.intro @ints_seg @len_ints)))))))))))))))))))))))))))))))))))))))))))))))))))))))))))))))))))))))))))))))))))))))))))))))))
end Go.Ev
