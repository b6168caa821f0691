/- Waits of floats rise: what hangs on edges, and on sums that come to the same. No condition. -/
import Derived.Test.YtgfaopbifonacaaRm
set_option linter.unusedSimpArgs false
set_option linter.unusedVariables false
namespace Go.Flo
open Ieee Go Go.Ev
theorem addR_fin {a b : Int} (o : addOk a b) (h : Fin (addR a b)) : Fin a ∧ Fin b := by
  unfold addR at h
  unfold addOk at o
  by_cases fa : Fin a
  · by_cases fb : Fin b
    · exact ⟨fa, fb⟩
    · rw [if_neg (fun x => fb x.2), if_pos fa] at h; exact absurd h fb
  · rw [if_neg (fun x => fa x.1), if_neg fa] at h; exact absurd h fa
theorem mulR_fin {c b : Int} (h : Fin (mulR c b)) : Fin b := by
  unfold mulR at h
  by_cases fb : Fin b
  · exact fb
  · rw [if_neg fb] at h; exact absurd h fb
/-- What is read alike is waited for alike. -/
def AsMuch (v v' : Int) : Prop :=
  0 ≤ v' ∧ fcmI v' 4633641066610819072 = fcmI v 4633641066610819072 ∧ fcmI v' 4611686018427387904 = fcmI v 4611686018427387904 ∧
  (fcmI v 4633641066610819072 ≠ 1 → fcmI v 4611686018427387904 ≠ -1 → (fintO (fceilI v')).getD 0 = (fintO (fceilI v)).getD 0)
theorem asMuch {v v' r : Int} (h : FV v r) (h' : FV v' r) : AsMuch v v' := by
  have c1 := fcm_tell h FV_60
  have c2 := fcm_tell h FV_2
  have c3 := fcm_tell h' FV_60
  have c4 := fcm_tell h' FV_2
  refine ⟨h'.1, by omega, by omega, fun a1 a2 => ?_⟩
  obtain ⟨t1, _⟩ := tick_ok h (by omega) (by omega)
  obtain ⟨u1, _⟩ := tick_ok h' (by omega) (by omega)
  rw [t1, u1]
theorem sixty_lt : (4633641066610819072 : Int) < infR := by decide
theorem two_gt : -(infR : Int) < (4611686018427387904 : Int) := by decide

theorem rises_more {n0 n1 n2 : Nat} (l2 : n2 < 18446744073709551616) {m s r t x a b y u z : Int} (em : m = nrmI n0) (es : s = nrmI n1) (er : r = absI n2) (et : t = fopI .mul 4616189618054758400 s) (ex : x = fopI .add m t)
    (ea : a = fopI .add m r) (eb : b = fopI .add s r) (ey : y = fopI .add a t) (eu : u = fopI .mul 4616189618054758400 b) (ez : z = fopI .add m u) :
    (0 ≤ x → fcmI x 4633641066610819072 ≠ 1 → fcmI x 4611686018427387904 ≠ -1 → (0 ≤ a → 0 ≤ b ∧ 0 ≤ y) ∧ (0 ≤ b → 0 ≤ a ∧ 0 ≤ z)) ∧
    (0 ≤ x → 0 ≤ a → fcmI a m = 0 → AsMuch x y) ∧ (0 ≤ x → 0 ≤ b → fcmI b s = 0 → AsMuch x z) ∧
    (0 ≤ x → 0 ≤ a → b < 0 → fcmI a m = 1) ∧
    (0 ≤ x → fcmI x 4633641066610819072 ≠ 1 → 0 ≤ u → z < 0 → fcmI 4611686018427387904 m = 1) ∧
    (0 ≤ a → fcmI a m = 1 → 0 ≤ u → 0 ≤ z) ∧
    (0 ≤ x → fcmI x 4633641066610819072 = 1 → (0 ≤ a → 0 ≤ b ∧ 0 ≤ y ∧ 0 ≤ z) ∧ (0 ≤ b → 0 ≤ a)) := by
  have wm : Wd m := em ▸ Wd_nrm n0
  have ws : Wd s := es ▸ Wd_nrm n1
  have wr : Wd r := by rw [er]; exact Wd_nrm _
  have wa : Wd a := ea ▸ Wd_fop _ _ _
  have wb : Wd b := eb ▸ Wd_fop _ _ _
  have px : 0 ≤ x → 0 ≤ m ∧ 0 ≤ t := fun h => fop_pos (ex ▸ h)
  have pa : 0 ≤ a → 0 ≤ m ∧ 0 ≤ r := fun h => fop_pos (ea ▸ h)
  have pb : 0 ≤ b → 0 ≤ s ∧ 0 ≤ r := fun h => fop_pos (eb ▸ h)
  have pt : 0 ≤ t → 0 ≤ s := fun h => (fop_pos (et ▸ h)).2
  have ft : 0 ≤ s → FV t (mulR 4616189618054758400 (rg s)) := fun h => by rw [et]; exact mul4_rg (ws.fv h)
  have fu : 0 ≤ b → FV u (mulR 4616189618054758400 (rg b)) := fun h => by rw [eu]; exact mul4_rg (wb.fv h)
  have fr : 0 ≤ r → 0 ≤ rg r := fun h => by
    have h2 := er ▸ h
    by_cases hn : nrmI n2 = -1
    · rw [abs_nan l2 hn] at h2; omega
    · have := Wd_nrm n2
      have fo := this.fv (by have := nrmI_ge n2; omega)
      have := abs_fv l2 fo
      rw [← er] at this
      rw [this.rg]; omega
  have sum : ∀ {p q c : Int}, c = fopI .add p q → 0 ≤ c → ∀ {i j : Int}, FV p i → FV q j → addOk i j ∧ FV c (addR i j) := fun {p q c} hc h {i j} fi fj => by
    obtain ⟨k1, k2⟩ := add_rg fi fj
    by_cases ho : addOk i j
    · exact ⟨ho, hc ▸ k1 ho⟩
    · rw [hc, k2 ho] at h; omega
  have fx : 0 ≤ x → addOk (rg m) (mulR 4616189618054758400 (rg s)) ∧ FV x (addR (rg m) (mulR 4616189618054758400 (rg s))) := fun h =>
    sum ex h (wm.fv (px h).1) (ft (pt (px h).2))
  have b60 := sixty_lt
  have b2 := two_gt
  have ip := infR_pos
  refine ⟨fun h h60 h2 => ?_, fun h ha hc => ?_, fun h hb hc => ?_, fun h ha hb => ?_, fun h h60 hu hz => ?_, fun ha hc hu => ?_, fun h h60 => ?_⟩
  · obtain ⟨k1, k2⟩ := fx h
    have c1 := fcm_tell k2 FV_60
    have c2 := fcm_tell k2 FV_2
    obtain ⟨f1, f2⟩ := addR_fin k1 (by unfold Fin; omega)
    have f3 := mulR_fin f2
    have hm := (px h).1
    have hs := pt (px h).2
    have ob : 0 ≤ r → 0 ≤ b := fun hr => by
      rw [eb]; exact ((add_rg (ws.fv hs) (wr.fv hr)).1 (.inl f3)).1
    have oa : 0 ≤ r → 0 ≤ a := fun hr => by
      rw [ea]; exact ((add_rg (wm.fv hm) (wr.fv hr)).1 (.inl f1)).1
    refine ⟨fun ha => ⟨ob (pa ha).2, ?_⟩, fun hb => ⟨oa (pb hb).2, ?_⟩⟩
    · rw [ey]; exact ((add_rg (wa.fv ha) (ft hs)).1 (.inr (.inl f2))).1
    · rw [ez]; exact ((add_rg (wm.fv hm) (fu hb)).1 (.inl f1)).1
  · obtain ⟨k1, k2⟩ := fx h
    have hm := (px h).1
    have hs := pt (px h).2
    have c := fcm_tell (wa.fv ha) (wm.fv hm)
    have e : rg a = rg m := by omega
    have k3 := (add_rg (wa.fv ha) (ft hs)).1 (by rw [e]; exact k1)
    rw [e, ← ey] at k3
    exact asMuch k2 k3
  · obtain ⟨k1, k2⟩ := fx h
    have hm := (px h).1
    have hs := pt (px h).2
    have c := fcm_tell (wb.fv hb) (ws.fv hs)
    have e : rg b = rg s := by omega
    have k3 := (add_rg (wm.fv hm) (fu hb)).1 (by rw [e]; exact k1)
    rw [e, ← ez] at k3
    exact asMuch k2 k3
  · obtain ⟨k1, k2⟩ := fx h
    have hm := (px h).1
    have hs := pt (px h).2
    have hr := (pa ha).2
    have r0 := fr hr
    have rr := FV_range (wr.fv hr)
    have rs := FV_range (ws.fv hs)
    have rm := FV_range (wm.fv hm)
    have no : ¬ addOk (rg s) (rg r) := fun o => by
      have := ((add_rg (ws.fv hs) (wr.fv hr)).1 o).1
      rw [← eb] at this; omega
    have n1 : ¬ Fin (rg s) := fun f => no (.inl f)
    have n2 : ¬ Fin (rg r) := fun f => no (.inr (.inl f))
    have n3 : rg s ≠ rg r := fun f => no (.inr (.inr f))
    have es2 : rg s = -(infR : Int) := by unfold Fin at n1 n2; omega
    have er2 : rg r = infR := by unfold Fin at n2; omega
    have et2 : mulR 4616189618054758400 (rg s) = rg s := by unfold mulR; rw [if_neg n1]
    obtain ⟨k3, k4⟩ := sum ea ha (wm.fv hm) (wr.fv hr)
    have fm : Fin (rg m) := by
      rw [et2] at k1
      rcases k1 with f | f | f
      · exact f
      · exact absurd f n1
      · rcases k3 with f' | f' | f'
        · exact f'
        · exact absurd f' n2
        · omega
    have e5 : addR (rg m) (rg r) = rg r := by
      unfold addR; rw [if_neg (fun q => n2 q.2), if_pos fm]
    rw [e5] at k4
    have c := fcm_tell k4 (wm.fv hm)
    unfold Fin at fm
    omega
  · obtain ⟨k1, k2⟩ := fx h
    have hm := (px h).1
    have hb : 0 ≤ b := (fop_pos (eu ▸ hu)).2
    have no : ¬ addOk (rg m) (mulR 4616189618054758400 (rg b)) := fun o => by
      have := ((add_rg (wm.fv hm) (fu hb)).1 o).1
      rw [← ez] at this; omega
    have n1 : ¬ Fin (rg m) := fun f => no (.inl f)
    have e5 : addR (rg m) (mulR 4616189618054758400 (rg s)) = rg m := by
      unfold addR; rw [if_neg (fun q => n1 q.1), if_neg n1]
    rw [e5] at k2
    have c1 := fcm_tell k2 FV_60
    have c2 := fcm_tell FV_2 (wm.fv hm)
    have rm := FV_range (wm.fv hm)
    unfold Fin at n1
    omega
  · have hm := (pa ha).1
    have hr := (pa ha).2
    have hb : 0 ≤ b := (fop_pos (eu ▸ hu)).2
    obtain ⟨k3, k4⟩ := sum ea ha (wm.fv hm) (wr.fv hr)
    have c := fcm_tell (wa.fv ha) (wm.fv hm)
    have e : rg a = addR (rg m) (rg r) := k4.rg
    have fm : Fin (rg m) := by
      by_cases f : Fin (rg m)
      · exact f
      · have e5 : addR (rg m) (rg r) = rg m := by
          unfold addR; rw [if_neg (fun q => f q.1), if_neg f]
        omega
    rw [ez]; exact ((add_rg (wm.fv hm) (fu hb)).1 (.inl fm)).1
  · obtain ⟨k1, k2⟩ := fx h
    have hm := (px h).1
    have hs := pt (px h).2
    have c1 := fcm_tell k2 FV_60
    have rm := FV_range (wm.fv hm)
    have rs := FV_range (ws.fv hs)
    have rt := mulR_in (c := 4616189618054758400) rs
    -- neither is the least of all
    have nm : rg m ≠ -(infR : Int) := fun e => by
      have f : ¬ Fin (rg m) := by unfold Fin; omega
      have e5 : addR (rg m) (mulR 4616189618054758400 (rg s)) = rg m := by
        unfold addR; rw [if_neg (fun q => f q.1), if_neg f]
      omega
    have nt : mulR 4616189618054758400 (rg s) ≠ -(infR : Int) := fun e => by
      have f : ¬ Fin (mulR 4616189618054758400 (rg s)) := by unfold Fin; omega
      by_cases fm : Fin (rg m)
      · have e5 : addR (rg m) (mulR 4616189618054758400 (rg s)) = mulR 4616189618054758400 (rg s) := by
          unfold addR; rw [if_neg (fun q => f q.2), if_pos fm]
        omega
      · rcases k1 with q | q | q
        · exact fm q
        · exact f q
        · exact nm (q.trans e)
    have ns : rg s ≠ -(infR : Int) := fun e => by
      have f : ¬ Fin (rg s) := by unfold Fin; omega
      have e5 : mulR 4616189618054758400 (rg s) = rg s := by unfold mulR; rw [if_neg f]
      omega
    have okr : ∀ {i : Int}, -(infR : Int) ≤ i ∧ i ≤ infR → i ≠ -(infR : Int) → ∀ {j : Int}, -(infR : Int) ≤ j ∧ j ≤ infR → j ≠ -(infR : Int) → addOk i j := fun {i} a1 a2 {j} b1 b2 => by
      unfold addOk Fin; omega
    have oa : 0 ≤ r → 0 ≤ a := fun hr => by
      have := fr hr
      rw [ea]; exact ((add_rg (wm.fv hm) (wr.fv hr)).1 (okr rm nm (FV_range (wr.fv hr)) (by omega))).1
    have ob : 0 ≤ r → 0 ≤ b := fun hr => by
      have := fr hr
      rw [eb]; exact ((add_rg (ws.fv hs) (wr.fv hr)).1 (okr rs ns (FV_range (wr.fv hr)) (by omega))).1
    refine ⟨fun ha => ?_, fun hb => oa (pb hb).2⟩
    have hr := (pa ha).2
    have r0 := fr hr
    have hb := ob hr
    obtain ⟨k3, k4⟩ := sum ea ha (wm.fv hm) (wr.fv hr)
    obtain ⟨k5, k6⟩ := sum eb hb (ws.fv hs) (wr.fv hr)
    have ga : rg m ≤ rg a := by rw [k4.rg]; exact le_addR rm (FV_range (wr.fv hr)) r0 k3
    have gb : rg s ≤ rg b := by rw [k6.rg]; exact le_addR rs (FV_range (wr.fv hr)) r0 k5
    have gu : mulR 4616189618054758400 (rg s) ≤ mulR 4616189618054758400 (rg b) := mulR_mono fin_4 rs (FV_range (wb.fv hb)) gb
    refine ⟨hb, ?_, ?_⟩
    · rw [ey]; exact ((add_rg (wa.fv ha) (ft hs)).1 (okr (FV_range (wa.fv ha)) (by omega) rt nt)).1
    · rw [ez]; exact ((add_rg (wm.fv hm) (fu hb)).1 (okr rm nm (mulR_in (FV_range (wb.fv hb))) (by omega))).1
end Go.Flo
namespace Go.Proofs.Ytgfaopbifonacaa.Rs
theorem here : True := trivial
end Go.Proofs.Ytgfaopbifonacaa.Rs
