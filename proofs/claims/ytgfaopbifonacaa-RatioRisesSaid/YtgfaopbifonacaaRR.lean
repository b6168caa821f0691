/-
  The law RatioRises of the layer ratio holds of the code: for all inputs the call returns true, and the arguments read as they did. No condition.
-/
import Derived.Test.YtgfaopbifonacaaCo
import Derived.Test.YtgfaopbifonacaaRRw
import Derived.Test.YtgfaopbifonacaaSycp
import Derived.Test.YtgfaopbifonacaaRa
import Derived.Test.YtgfaopbifonacaaRm
import Derived.Test.YtgfaopbifonacaaRs
import Derived.WalkKit
import Derived.ProofKit
import Derived.OpenShut
set_option linter.unusedSimpArgs false
set_option linter.unusedVariables false
namespace Go.Proofs.Ytgfaopbifonacaa.ratioRises
open Go.ChangeShapes Go.WideShapes Go.ChangeAt Go.RowKit Go.Ev Go.Proofs.Ytgfaopbifonacaa.Co Go.Proofs.Ytgfaopbifonacaa.Ra Go.Proofs.Ytgfaopbifonacaa.Rm Go.Proofs.Ytgfaopbifonacaa.Rs

open Go.Flo

set_option maxRecDepth 100000 in
set_option maxHeartbeats 6000000 in
theorem c_walk {W : World} {n0 : Nat} (hn0 : n0 < 18446744073709551616) {n1 : Nat} (hn1 : n1 < 18446744073709551616) {n2 : Nat} (hn2 : n2 < 18446744073709551616) (hG : GlobsR (om n0 n1 n2) W g0) : Calls Try.prog 5 #[.float .f64 n0, .float .f64 n1, .float .f64 n2] W fun e w' => e = .returned (.bool true) ∧ Below W.heap.size W w' := by
  have r0 := Rel.globs (om n0 n1 n2) W g0 hG
  have hargs : VRs (Env.none (om n0 n1 n2)) [.sbits (.var 0), .sbits (.var 10), .sbits (.var 20)] [.float .f64 n0, .float .f64 n1, .float .f64 n2] := VRs_cons (vr_sbits (i := 0) hn0 (by rw [r0.opq]; rfl)) (VRs_cons (vr_sbits (i := 10) hn1 (by rw [r0.opq]; rfl)) (VRs_cons (vr_sbits (i := 20) hn2 (by rw [r0.opq]; rfl)) (VRs_nil)))
  have K := rises_ok (n0 := n0) (n1 := n1) hn2 rfl rfl rfl rfl rfl rfl rfl rfl rfl rfl
  simp only [absI] at K
  obtain ⟨k1, k2, k3, k4, k5, k6, k7, k8, k9, k10, k11, k12, k13, k14, k15, k16, k17, k18⟩ := K
  have s0 := self_tell (Wd_nrm n0)
  have s1 := self_tell (Wd_nrm n1)
  have s3 := self_tell (Wd_fop .add (nrmI n0) (fopI .mul 4616189618054758400 (nrmI n1)))
  have s4 := self_tell (Wd_fop .add (fopI .add (nrmI n0) (absI n2)) (fopI .mul 4616189618054758400 (nrmI n1)))
  have s5 := self_tell (Wd_fop .add (nrmI n0) (fopI .mul 4616189618054758400 (fopI .add (nrmI n1) (absI n2))))
  simp only [absI] at s4 s5
  have u1 : fopI .add (nrmI n0) (-1) = -1 := fopI_neg (.inr (by decide))
  have u2 : fcmI (-1) (nrmI n0) = 2 := fcmI_neg (.inl (by decide))
  have u3 : fcmI (-1) (nrmI n1) = 2 := fcmI_neg (.inl (by decide))
  have g0 := nrmI_ge n0
  have g1 := nrmI_ge n1
  have H0 := fun (_ : Unit) => And.intro k1 (And.intro k2 (And.intro k3 (And.intro k4 (And.intro k5 (And.intro k6 (And.intro k7 (And.intro k8 k9)))))))
  have Hs := fun (_ : Unit) => And.intro s0 (And.intro s1 (And.intro s3 (And.intro s4 s5)))
  clear k1 k2 k3 k4 k5 k6 k7 k8 k9 s0 s1 s3 s4 s5
  have Ha := fun (_ : Unit) => And.intro k10 k11
  clear k10 k11
  have Hl := fun (_ : Unit) => And.intro k17 k18
  clear k17 k18
  have J := rises_more (n0 := n0) (n1 := n1) hn2 rfl rfl rfl rfl rfl rfl rfl rfl rfl rfl
  simp only [absI] at J
  obtain ⟨j1, j2, j3, j4, j5, j6, j7⟩ := J
  cases h0 : Q.val (om n0 n1 n2) c_q0
  · have p0 := (Q.holds'_iff _ _ _).2 h0
    simp only [c_q0, Q.holds', D.nat, E.n, E.den, BO.den, UO.den, D.toInt_int, E.i, and_true, om_0, om_10, om_20, Int.toNat_natCast] at p0
    have h1 : Q.val (om n0 n1 n2) c_q1 = false := (Q.holds'_iff _ _ _).1 (by
      simp only [c_q1, Q.holds', D.nat, E.n, E.den, BO.den, UO.den, D.toInt_int, E.i, and_true, om_0, om_10, om_20, Int.toNat_natCast]
      all_goals (omega))
    have p1 := (Q.holds'_iff _ _ _).2 h1
    try (
      simp only [c_q1, Q.holds', D.nat, E.n, E.den, BO.den, UO.den, D.toInt_int, E.i, and_true, om_0, om_10, om_20, Int.toNat_natCast] at p1)
    cases h2 : Q.val (om n0 n1 n2) c_q2
    · have p2 := (Q.holds'_iff _ _ _).2 h2
      simp only [c_q2, Q.holds', D.nat, E.n, E.den, BO.den, UO.den, D.toInt_int, E.i, and_true, om_0, om_10, om_20, Int.toNat_natCast] at p2
      have h3 : Q.val (om n0 n1 n2) c_q3 = false := (Q.holds'_iff _ _ _).1 (by
        simp only [c_q3, Q.holds', D.nat, E.n, E.den, BO.den, UO.den, D.toInt_int, E.i, and_true, om_0, om_10, om_20, Int.toNat_natCast]
        all_goals (have e0 := H0 (); omega))
      have p3 := (Q.holds'_iff _ _ _).2 h3
      try (
        simp only [c_q3, Q.holds', D.nat, E.n, E.den, BO.den, UO.den, D.toInt_int, E.i, and_true, om_0, om_10, om_20, Int.toNat_natCast] at p3)
      exact calls_of_yesV sound tab_ok specs_ok overs_ok c_y0 rfl (tellA_ok (told_cons h0 (told_cons h1 (told_cons h2 (told_cons h3 told_nil))))) r0 hargs
    · have p2 := (Q.holds'_iff _ _ _).2 h2
      simp only [c_q2, Q.holds', D.nat, E.n, E.den, BO.den, UO.den, D.toInt_int, E.i, and_true, om_0, om_10, om_20, Int.toNat_natCast] at p2
      have h3 : Q.val (om n0 n1 n2) c_q3 = false := (Q.holds'_iff _ _ _).1 (by
        simp only [c_q3, Q.holds', D.nat, E.n, E.den, BO.den, UO.den, D.toInt_int, E.i, and_true, om_0, om_10, om_20, Int.toNat_natCast]
        all_goals (have e0 := H0 (); omega))
      have p3 := (Q.holds'_iff _ _ _).2 h3
      try (
        simp only [c_q3, Q.holds', D.nat, E.n, E.den, BO.den, UO.den, D.toInt_int, E.i, and_true, om_0, om_10, om_20, Int.toNat_natCast] at p3)
      exact calls_of_yesV sound tab_ok specs_ok overs_ok c_y3 rfl (tellA_ok (told_cons h0 (told_cons h1 (told_cons h2 (told_cons h3 told_nil))))) r0 hargs
  · have p0 := (Q.holds'_iff _ _ _).2 h0
    simp only [c_q0, Q.holds', D.nat, E.n, E.den, BO.den, UO.den, D.toInt_int, E.i, and_true, om_0, om_10, om_20, Int.toNat_natCast] at p0
    cases h1 : Q.val (om n0 n1 n2) c_q4
    · have p1 := (Q.holds'_iff _ _ _).2 h1
      simp only [c_q4, Q.holds', D.nat, E.n, E.den, BO.den, UO.den, D.toInt_int, E.i, and_true, om_0, om_10, om_20, Int.toNat_natCast] at p1
      cases h2 : Q.val (om n0 n1 n2) c_q2
      · have p2 := (Q.holds'_iff _ _ _).2 h2
        simp only [c_q2, Q.holds', D.nat, E.n, E.den, BO.den, UO.den, D.toInt_int, E.i, and_true, om_0, om_10, om_20, Int.toNat_natCast] at p2
        cases h3 : Q.val (om n0 n1 n2) c_q3
        · have p3 := (Q.holds'_iff _ _ _).2 h3
          simp only [c_q3, Q.holds', D.nat, E.n, E.den, BO.den, UO.den, D.toInt_int, E.i, and_true, om_0, om_10, om_20, Int.toNat_natCast] at p3
          exact calls_of_yesV sound tab_ok specs_ok overs_ok c_y1 rfl (tellA_ok (told_cons h0 (told_cons h1 (told_cons h2 (told_cons h3 told_nil))))) r0 hargs
        · have p3 := (Q.holds'_iff _ _ _).2 h3
          simp only [c_q3, Q.holds', D.nat, E.n, E.den, BO.den, UO.den, D.toInt_int, E.i, and_true, om_0, om_10, om_20, Int.toNat_natCast] at p3
          exact calls_of_yesV sound tab_ok specs_ok overs_ok c_y2 rfl (tellA_ok (told_cons h0 (told_cons h1 (told_cons h2 (told_cons h3 told_nil))))) r0 hargs
      · have p2 := (Q.holds'_iff _ _ _).2 h2
        simp only [c_q2, Q.holds', D.nat, E.n, E.den, BO.den, UO.den, D.toInt_int, E.i, and_true, om_0, om_10, om_20, Int.toNat_natCast] at p2
        cases h3 : Q.val (om n0 n1 n2) c_q3
        · have p3 := (Q.holds'_iff _ _ _).2 h3
          simp only [c_q3, Q.holds', D.nat, E.n, E.den, BO.den, UO.den, D.toInt_int, E.i, and_true, om_0, om_10, om_20, Int.toNat_natCast] at p3
          exact calls_of_yesV sound tab_ok specs_ok overs_ok c_y6 rfl (tellA_ok (told_cons h0 (told_cons h1 (told_cons h2 (told_cons h3 told_nil))))) r0 hargs
        · have p3 := (Q.holds'_iff _ _ _).2 h3
          simp only [c_q3, Q.holds', D.nat, E.n, E.den, BO.den, UO.den, D.toInt_int, E.i, and_true, om_0, om_10, om_20, Int.toNat_natCast] at p3
          exact calls_of_yesV sound tab_ok specs_ok overs_ok c_y7 rfl (tellA_ok (told_cons h0 (told_cons h1 (told_cons h2 (told_cons h3 told_nil))))) r0 hargs
    · have p1 := (Q.holds'_iff _ _ _).2 h1
      simp only [c_q4, Q.holds', D.nat, E.n, E.den, BO.den, UO.den, D.toInt_int, E.i, and_true, om_0, om_10, om_20, Int.toNat_natCast] at p1
      have h2 : Q.val (om n0 n1 n2) c_q5 = true := (Q.holds'_iff _ _ _).1 (by
        simp only [c_q5, Q.holds', D.nat, E.n, E.den, BO.den, UO.den, D.toInt_int, E.i, and_true, om_0, om_10, om_20, Int.toNat_natCast]
        all_goals (have e1 := Hs (); omega))
      have p2 := (Q.holds'_iff _ _ _).2 h2
      try (
        simp only [c_q5, Q.holds', D.nat, E.n, E.den, BO.den, UO.den, D.toInt_int, E.i, and_true, om_0, om_10, om_20, Int.toNat_natCast] at p2)
      cases h3 : Q.val (om n0 n1 n2) c_q6
      · have p3 := (Q.holds'_iff _ _ _).2 h3
        simp only [c_q6, Q.holds', D.nat, E.n, E.den, BO.den, UO.den, D.toInt_int, E.i, and_true, om_0, om_10, om_20, Int.toNat_natCast] at p3
        cases h4 : Q.val (om n0 n1 n2) c_q22
        · have p4 := (Q.holds'_iff _ _ _).2 h4
          simp only [c_q22, Q.holds', D.nat, E.n, E.den, BO.den, UO.den, D.toInt_int, E.i, and_true, om_0, om_10, om_20, Int.toNat_natCast] at p4
          have h5 : Q.val (om n0 n1 n2) c_q35 = true := (Q.holds'_iff _ _ _).1 (by
            simp only [c_q35, Q.holds', D.nat, E.n, E.den, BO.den, UO.den, D.toInt_int, E.i, and_true, om_0, om_10, om_20, Int.toNat_natCast]
            all_goals (have w := k12 (by omega); simp only [Waited, UO.den, D.toInt_int] at w; omega))
          have p5 := (Q.holds'_iff _ _ _).2 h5
          try (
            simp only [c_q35, Q.holds', D.nat, E.n, E.den, BO.den, UO.den, D.toInt_int, E.i, and_true, om_0, om_10, om_20, Int.toNat_natCast] at p5)
          have h6 : Q.val (om n0 n1 n2) c_q36 = true := (Q.holds'_iff _ _ _).1 (by
            simp only [c_q36, Q.holds', D.nat, E.n, E.den, BO.den, UO.den, D.toInt_int, E.i, and_true, om_0, om_10, om_20, Int.toNat_natCast, i64min, i64max, inK]
            all_goals (have w := k12 (by omega); simp only [Waited, UO.den, D.toInt_int] at w; omega))
          have p6 := (Q.holds'_iff _ _ _).2 h6
          try (
            simp only [c_q36, Q.holds', D.nat, E.n, E.den, BO.den, UO.den, D.toInt_int, E.i, and_true, om_0, om_10, om_20, Int.toNat_natCast, i64min, i64max, inK] at p6)
          have h7 : Q.val (om n0 n1 n2) c_q37 = true := (Q.holds'_iff _ _ _).1 (by
            simp only [c_q37, Q.holds', D.nat, E.n, E.den, BO.den, UO.den, D.toInt_int, E.i, and_true, om_0, om_10, om_20, Int.toNat_natCast]
            all_goals (have w := k12 (by omega); simp only [Waited, UO.den, D.toInt_int] at w; omega))
          have p7 := (Q.holds'_iff _ _ _).2 h7
          try (
            simp only [c_q37, Q.holds', D.nat, E.n, E.den, BO.den, UO.den, D.toInt_int, E.i, and_true, om_0, om_10, om_20, Int.toNat_natCast] at p7)
          have h8 : Q.val (om n0 n1 n2) c_q38 = true := (Q.holds'_iff _ _ _).1 (by
            simp only [c_q38, Q.holds', D.nat, E.n, E.den, BO.den, UO.den, D.toInt_int, E.i, and_true, om_0, om_10, om_20, Int.toNat_natCast]
            all_goals (have w := k12 (by omega); simp only [Waited, UO.den, D.toInt_int] at w; omega))
          have p8 := (Q.holds'_iff _ _ _).2 h8
          try (
            simp only [c_q38, Q.holds', D.nat, E.n, E.den, BO.den, UO.den, D.toInt_int, E.i, and_true, om_0, om_10, om_20, Int.toNat_natCast] at p8)
          cases h9 : Q.val (om n0 n1 n2) c_q2
          · have p9 := (Q.holds'_iff _ _ _).2 h9
            simp only [c_q2, Q.holds', D.nat, E.n, E.den, BO.den, UO.den, D.toInt_int, E.i, and_true, om_0, om_10, om_20, Int.toNat_natCast] at p9
            have h10 : Q.val (om n0 n1 n2) c_q3 = false := (Q.holds'_iff _ _ _).1 (by
              simp only [c_q3, Q.holds', D.nat, E.n, E.den, BO.den, UO.den, D.toInt_int, E.i, and_true, om_0, om_10, om_20, Int.toNat_natCast]
              all_goals (omega))
            have p10 := (Q.holds'_iff _ _ _).2 h10
            try (
              simp only [c_q3, Q.holds', D.nat, E.n, E.den, BO.den, UO.den, D.toInt_int, E.i, and_true, om_0, om_10, om_20, Int.toNat_natCast] at p10)
            have h11 : Q.val (om n0 n1 n2) c_q7 = false := (Q.holds'_iff _ _ _).1 (by
              simp only [c_q7, Q.holds', D.nat, E.n, E.den, BO.den, UO.den, D.toInt_int, E.i, and_true, om_0, om_10, om_20, Int.toNat_natCast]
              all_goals (omega))
            have p11 := (Q.holds'_iff _ _ _).2 h11
            try (
              simp only [c_q7, Q.holds', D.nat, E.n, E.den, BO.den, UO.den, D.toInt_int, E.i, and_true, om_0, om_10, om_20, Int.toNat_natCast] at p11)
            have h12 : Q.val (om n0 n1 n2) c_q8 = false := (Q.holds'_iff _ _ _).1 (by
              simp only [c_q8, Q.holds', D.nat, E.n, E.den, BO.den, UO.den, D.toInt_int, E.i, and_true, om_0, om_10, om_20, Int.toNat_natCast]
              all_goals (omega))
            have p12 := (Q.holds'_iff _ _ _).2 h12
            try (
              simp only [c_q8, Q.holds', D.nat, E.n, E.den, BO.den, UO.den, D.toInt_int, E.i, and_true, om_0, om_10, om_20, Int.toNat_natCast] at p12)
            exact calls_of_yesV sound tab_ok specs_ok overs_ok c_y23 rfl (tellA_ok (told_cons h0 (told_cons h1 (told_cons h2 (told_cons h3 (told_cons h4 (told_cons h5 (told_cons h6 (told_cons h7 (told_cons h8 (told_cons h9 (told_cons h10 (told_cons h11 (told_cons h12 told_nil)))))))))))))) r0 hargs
          · have p9 := (Q.holds'_iff _ _ _).2 h9
            simp only [c_q2, Q.holds', D.nat, E.n, E.den, BO.den, UO.den, D.toInt_int, E.i, and_true, om_0, om_10, om_20, Int.toNat_natCast] at p9
            have h10 : Q.val (om n0 n1 n2) c_q3 = true := (Q.holds'_iff _ _ _).1 (by
              simp only [c_q3, Q.holds', D.nat, E.n, E.den, BO.den, UO.den, D.toInt_int, E.i, and_true, om_0, om_10, om_20, Int.toNat_natCast]
              all_goals (omega))
            have p10 := (Q.holds'_iff _ _ _).2 h10
            try (
              simp only [c_q3, Q.holds', D.nat, E.n, E.den, BO.den, UO.den, D.toInt_int, E.i, and_true, om_0, om_10, om_20, Int.toNat_natCast] at p10)
            cases h11 : Q.val (om n0 n1 n2) c_q9
            · have p11 := (Q.holds'_iff _ _ _).2 h11
              simp only [c_q9, Q.holds', D.nat, E.n, E.den, BO.den, UO.den, D.toInt_int, E.i, and_true, om_0, om_10, om_20, Int.toNat_natCast] at p11
              have h12 : Q.val (om n0 n1 n2) c_q10 = true := (Q.holds'_iff _ _ _).1 (by
                simp only [c_q10, Q.holds', D.nat, E.n, E.den, BO.den, UO.den, D.toInt_int, E.i, and_true, om_0, om_10, om_20, Int.toNat_natCast]
                all_goals (have e2 := Ha (); omega))
              have p12 := (Q.holds'_iff _ _ _).2 h12
              try (
                simp only [c_q10, Q.holds', D.nat, E.n, E.den, BO.den, UO.den, D.toInt_int, E.i, and_true, om_0, om_10, om_20, Int.toNat_natCast] at p12)
              cases h13 : Q.val (om n0 n1 n2) c_q11
              · have p13 := (Q.holds'_iff _ _ _).2 h13
                simp only [c_q11, Q.holds', D.nat, E.n, E.den, BO.den, UO.den, D.toInt_int, E.i, and_true, om_0, om_10, om_20, Int.toNat_natCast] at p13
                have h14 : Q.val (om n0 n1 n2) c_q12 = true := (Q.holds'_iff _ _ _).1 (by
                  simp only [c_q12, Q.holds', D.nat, E.n, E.den, BO.den, UO.den, D.toInt_int, E.i, and_true, om_0, om_10, om_20, Int.toNat_natCast]
                  all_goals (have e2 := Ha (); omega))
                have p14 := (Q.holds'_iff _ _ _).2 h14
                try (
                  simp only [c_q12, Q.holds', D.nat, E.n, E.den, BO.den, UO.den, D.toInt_int, E.i, and_true, om_0, om_10, om_20, Int.toNat_natCast] at p14)
                have h15 : Q.val (om n0 n1 n2) c_q13 = true := (Q.holds'_iff _ _ _).1 (by
                  simp only [c_q13, Q.holds', D.nat, E.n, E.den, BO.den, UO.den, D.toInt_int, E.i, and_true, om_0, om_10, om_20, Int.toNat_natCast]
                  all_goals (omega))
                have p15 := (Q.holds'_iff _ _ _).2 h15
                try (
                  simp only [c_q13, Q.holds', D.nat, E.n, E.den, BO.den, UO.den, D.toInt_int, E.i, and_true, om_0, om_10, om_20, Int.toNat_natCast] at p15)
                have h16 : Q.val (om n0 n1 n2) c_q14 = true := (Q.holds'_iff _ _ _).1 (by
                  simp only [c_q14, Q.holds', D.nat, E.n, E.den, BO.den, UO.den, D.toInt_int, E.i, and_true, om_0, om_10, om_20, Int.toNat_natCast]
                  all_goals (have e1 := Hs (); omega))
                have p16 := (Q.holds'_iff _ _ _).2 h16
                try (
                  simp only [c_q14, Q.holds', D.nat, E.n, E.den, BO.den, UO.den, D.toInt_int, E.i, and_true, om_0, om_10, om_20, Int.toNat_natCast] at p16)
                have h17 : Q.val (om n0 n1 n2) c_q15 = false := (Q.holds'_iff _ _ _).1 (by
                  simp only [c_q15, Q.holds', D.nat, E.n, E.den, BO.den, UO.den, D.toInt_int, E.i, and_true, om_0, om_10, om_20, Int.toNat_natCast]
                  all_goals (have v := j2 (by omega) (by omega) (by omega); simp only [AsMuch] at v; omega))
                have p17 := (Q.holds'_iff _ _ _).2 h17
                try (
                  simp only [c_q15, Q.holds', D.nat, E.n, E.den, BO.den, UO.den, D.toInt_int, E.i, and_true, om_0, om_10, om_20, Int.toNat_natCast] at p17)
                have h18 : Q.val (om n0 n1 n2) c_q23 = false := (Q.holds'_iff _ _ _).1 (by
                  simp only [c_q23, Q.holds', D.nat, E.n, E.den, BO.den, UO.den, D.toInt_int, E.i, and_true, om_0, om_10, om_20, Int.toNat_natCast]
                  all_goals (have r := k15 (by omega) (by omega); simp only [Rises] at r; omega))
                have p18 := (Q.holds'_iff _ _ _).2 h18
                try (
                  simp only [c_q23, Q.holds', D.nat, E.n, E.den, BO.den, UO.den, D.toInt_int, E.i, and_true, om_0, om_10, om_20, Int.toNat_natCast] at p18)
                have h19 : Q.val (om n0 n1 n2) c_q32 = true := (Q.holds'_iff _ _ _).1 (by
                  simp only [c_q32, Q.holds', D.nat, E.n, E.den, BO.den, UO.den, D.toInt_int, E.i, and_true, om_0, om_10, om_20, Int.toNat_natCast]
                  all_goals (have w2 := k13 (by omega); simp only [Waited, UO.den, D.toInt_int] at w2; omega))
                have p19 := (Q.holds'_iff _ _ _).2 h19
                try (
                  simp only [c_q32, Q.holds', D.nat, E.n, E.den, BO.den, UO.den, D.toInt_int, E.i, and_true, om_0, om_10, om_20, Int.toNat_natCast] at p19)
                have h20 : Q.val (om n0 n1 n2) c_q33 = true := (Q.holds'_iff _ _ _).1 (by
                  simp only [c_q33, Q.holds', D.nat, E.n, E.den, BO.den, UO.den, D.toInt_int, E.i, and_true, om_0, om_10, om_20, Int.toNat_natCast, i64min, i64max, inK]
                  all_goals (have w2 := k13 (by omega); simp only [Waited, UO.den, D.toInt_int] at w2; omega))
                have p20 := (Q.holds'_iff _ _ _).2 h20
                try (
                  simp only [c_q33, Q.holds', D.nat, E.n, E.den, BO.den, UO.den, D.toInt_int, E.i, and_true, om_0, om_10, om_20, Int.toNat_natCast, i64min, i64max, inK] at p20)
                have h21 : Q.val (om n0 n1 n2) c_q41 = true := (Q.holds'_iff _ _ _).1 (by
                  simp only [c_q41, Q.holds', D.nat, E.n, E.den, BO.den, UO.den, D.toInt_int, E.i, and_true, om_0, om_10, om_20, Int.toNat_natCast]
                  all_goals (have r := k15 (by omega) (by omega); simp only [Rises] at r; omega))
                have p21 := (Q.holds'_iff _ _ _).2 h21
                try (
                  simp only [c_q41, Q.holds', D.nat, E.n, E.den, BO.den, UO.den, D.toInt_int, E.i, and_true, om_0, om_10, om_20, Int.toNat_natCast] at p21)
                have h22 : Q.val (om n0 n1 n2) c_q16 = true := (Q.holds'_iff _ _ _).1 (by
                  simp only [c_q16, Q.holds', D.nat, E.n, E.den, BO.den, UO.den, D.toInt_int, E.i, and_true, om_0, om_10, om_20, Int.toNat_natCast]
                  all_goals (have e0 := H0 (); omega))
                have p22 := (Q.holds'_iff _ _ _).2 h22
                try (
                  simp only [c_q16, Q.holds', D.nat, E.n, E.den, BO.den, UO.den, D.toInt_int, E.i, and_true, om_0, om_10, om_20, Int.toNat_natCast] at p22)
                have h23 : Q.val (om n0 n1 n2) c_q17 = true := (Q.holds'_iff _ _ _).1 (by
                  simp only [c_q17, Q.holds', D.nat, E.n, E.den, BO.den, UO.den, D.toInt_int, E.i, and_true, om_0, om_10, om_20, Int.toNat_natCast]
                  all_goals (omega))
                have p23 := (Q.holds'_iff _ _ _).2 h23
                try (
                  simp only [c_q17, Q.holds', D.nat, E.n, E.den, BO.den, UO.den, D.toInt_int, E.i, and_true, om_0, om_10, om_20, Int.toNat_natCast] at p23)
                have h24 : Q.val (om n0 n1 n2) c_q18 = true := (Q.holds'_iff _ _ _).1 (by
                  simp only [c_q18, Q.holds', D.nat, E.n, E.den, BO.den, UO.den, D.toInt_int, E.i, and_true, om_0, om_10, om_20, Int.toNat_natCast]
                  all_goals (have e1 := Hs (); omega))
                have p24 := (Q.holds'_iff _ _ _).2 h24
                try (
                  simp only [c_q18, Q.holds', D.nat, E.n, E.den, BO.den, UO.den, D.toInt_int, E.i, and_true, om_0, om_10, om_20, Int.toNat_natCast] at p24)
                have h25 : Q.val (om n0 n1 n2) c_q19 = false := (Q.holds'_iff _ _ _).1 (by
                  simp only [c_q19, Q.holds', D.nat, E.n, E.den, BO.den, UO.den, D.toInt_int, E.i, and_true, om_0, om_10, om_20, Int.toNat_natCast]
                  all_goals (have v2 := j3 (by omega) (by omega) (by omega); simp only [AsMuch] at v2; omega))
                have p25 := (Q.holds'_iff _ _ _).2 h25
                try (
                  simp only [c_q19, Q.holds', D.nat, E.n, E.den, BO.den, UO.den, D.toInt_int, E.i, and_true, om_0, om_10, om_20, Int.toNat_natCast] at p25)
                have h26 : Q.val (om n0 n1 n2) c_q24 = false := (Q.holds'_iff _ _ _).1 (by
                  simp only [c_q24, Q.holds', D.nat, E.n, E.den, BO.den, UO.den, D.toInt_int, E.i, and_true, om_0, om_10, om_20, Int.toNat_natCast]
                  all_goals (have r2 := k16 (by omega) (by omega); simp only [Rises] at r2; omega))
                have p26 := (Q.holds'_iff _ _ _).2 h26
                try (
                  simp only [c_q24, Q.holds', D.nat, E.n, E.den, BO.den, UO.den, D.toInt_int, E.i, and_true, om_0, om_10, om_20, Int.toNat_natCast] at p26)
                have h27 : Q.val (om n0 n1 n2) c_q29 = true := (Q.holds'_iff _ _ _).1 (by
                  simp only [c_q29, Q.holds', D.nat, E.n, E.den, BO.den, UO.den, D.toInt_int, E.i, and_true, om_0, om_10, om_20, Int.toNat_natCast]
                  all_goals (have w3 := k14 (by omega); simp only [Waited, UO.den, D.toInt_int] at w3; omega))
                have p27 := (Q.holds'_iff _ _ _).2 h27
                try (
                  simp only [c_q29, Q.holds', D.nat, E.n, E.den, BO.den, UO.den, D.toInt_int, E.i, and_true, om_0, om_10, om_20, Int.toNat_natCast] at p27)
                have h28 : Q.val (om n0 n1 n2) c_q30 = true := (Q.holds'_iff _ _ _).1 (by
                  simp only [c_q30, Q.holds', D.nat, E.n, E.den, BO.den, UO.den, D.toInt_int, E.i, and_true, om_0, om_10, om_20, Int.toNat_natCast, i64min, i64max, inK]
                  all_goals (have w3 := k14 (by omega); simp only [Waited, UO.den, D.toInt_int] at w3; omega))
                have p28 := (Q.holds'_iff _ _ _).2 h28
                try (
                  simp only [c_q30, Q.holds', D.nat, E.n, E.den, BO.den, UO.den, D.toInt_int, E.i, and_true, om_0, om_10, om_20, Int.toNat_natCast, i64min, i64max, inK] at p28)
                have h29 : Q.val (om n0 n1 n2) c_q42 = true := (Q.holds'_iff _ _ _).1 (by
                  simp only [c_q42, Q.holds', D.nat, E.n, E.den, BO.den, UO.den, D.toInt_int, E.i, and_true, om_0, om_10, om_20, Int.toNat_natCast]
                  all_goals (have r2 := k16 (by omega) (by omega); simp only [Rises] at r2; omega))
                have p29 := (Q.holds'_iff _ _ _).2 h29
                try (
                  simp only [c_q42, Q.holds', D.nat, E.n, E.den, BO.den, UO.den, D.toInt_int, E.i, and_true, om_0, om_10, om_20, Int.toNat_natCast] at p29)
                cases h30 : Q.val (om n0 n1 n2) c_q39
                · have p30 := (Q.holds'_iff _ _ _).2 h30
                  simp only [c_q39, Q.holds', D.nat, E.n, E.den, BO.den, UO.den, D.toInt_int, E.i, and_true, om_0, om_10, om_20, Int.toNat_natCast] at p30
                  cases h31 : Q.val (om n0 n1 n2) c_q40
                  · have p31 := (Q.holds'_iff _ _ _).2 h31
                    simp only [c_q40, Q.holds', D.nat, E.n, E.den, BO.den, UO.den, D.toInt_int, E.i, and_true, om_0, om_10, om_20, Int.toNat_natCast] at p31
                    cases h32 : Q.val (om n0 n1 n2) c_q44
                    · have p32 := (Q.holds'_iff _ _ _).2 h32
                      simp only [c_q44, Q.holds', D.nat, E.n, E.den, BO.den, UO.den, D.toInt_int, E.i, and_true, om_0, om_10, om_20, Int.toNat_natCast] at p32
                      have h33 : Q.val (om n0 n1 n2) c_q43 = true := (Q.holds'_iff _ _ _).1 (by
                        simp only [c_q43, Q.holds', D.nat, E.n, E.den, BO.den, UO.den, D.toInt_int, E.i, and_true, om_0, om_10, om_20, Int.toNat_natCast]
                        all_goals (have w := k12 (by omega); simp only [Waited, UO.den, D.toInt_int] at w; have e3 := Hl (); omega))
                      have p33 := (Q.holds'_iff _ _ _).2 h33
                      try (
                        simp only [c_q43, Q.holds', D.nat, E.n, E.den, BO.den, UO.den, D.toInt_int, E.i, and_true, om_0, om_10, om_20, Int.toNat_natCast] at p33)
                      exact calls_of_yesV sound tab_ok specs_ok overs_ok c_y58 rfl (tellA_ok (told_cons h0 (told_cons h1 (told_cons h2 (told_cons h3 (told_cons h4 (told_cons h5 (told_cons h6 (told_cons h7 (told_cons h8 (told_cons h9 (told_cons h10 (told_cons h11 (told_cons h12 (told_cons h13 (told_cons h14 (told_cons h15 (told_cons h16 (told_cons h17 (told_cons h18 (told_cons h19 (told_cons h20 (told_cons h21 (told_cons h22 (told_cons h23 (told_cons h24 (told_cons h25 (told_cons h26 (told_cons h27 (told_cons h28 (told_cons h29 (told_cons h30 (told_cons h31 (told_cons h32 (told_cons h33 told_nil))))))))))))))))))))))))))))))))))) r0 hargs
                    · have p32 := (Q.holds'_iff _ _ _).2 h32
                      simp only [c_q44, Q.holds', D.nat, E.n, E.den, BO.den, UO.den, D.toInt_int, E.i, and_true, om_0, om_10, om_20, Int.toNat_natCast] at p32
                      exact calls_of_yesV sound tab_ok specs_ok overs_ok c_y72 rfl (tellA_ok (told_cons h0 (told_cons h1 (told_cons h2 (told_cons h3 (told_cons h4 (told_cons h5 (told_cons h6 (told_cons h7 (told_cons h8 (told_cons h9 (told_cons h10 (told_cons h11 (told_cons h12 (told_cons h13 (told_cons h14 (told_cons h15 (told_cons h16 (told_cons h17 (told_cons h18 (told_cons h19 (told_cons h20 (told_cons h21 (told_cons h22 (told_cons h23 (told_cons h24 (told_cons h25 (told_cons h26 (told_cons h27 (told_cons h28 (told_cons h29 (told_cons h30 (told_cons h31 (told_cons h32 told_nil)))))))))))))))))))))))))))))))))) r0 hargs
                  · have p31 := (Q.holds'_iff _ _ _).2 h31
                    simp only [c_q40, Q.holds', D.nat, E.n, E.den, BO.den, UO.den, D.toInt_int, E.i, and_true, om_0, om_10, om_20, Int.toNat_natCast] at p31
                    exact calls_of_yesV sound tab_ok specs_ok overs_ok c_y36 rfl (tellA_ok (told_cons h0 (told_cons h1 (told_cons h2 (told_cons h3 (told_cons h4 (told_cons h5 (told_cons h6 (told_cons h7 (told_cons h8 (told_cons h9 (told_cons h10 (told_cons h11 (told_cons h12 (told_cons h13 (told_cons h14 (told_cons h15 (told_cons h16 (told_cons h17 (told_cons h18 (told_cons h19 (told_cons h20 (told_cons h21 (told_cons h22 (told_cons h23 (told_cons h24 (told_cons h25 (told_cons h26 (told_cons h27 (told_cons h28 (told_cons h29 (told_cons h30 (told_cons h31 told_nil))))))))))))))))))))))))))))))))) r0 hargs
                · have p30 := (Q.holds'_iff _ _ _).2 h30
                  simp only [c_q39, Q.holds', D.nat, E.n, E.den, BO.den, UO.den, D.toInt_int, E.i, and_true, om_0, om_10, om_20, Int.toNat_natCast] at p30
                  cases h31 : Q.val (om n0 n1 n2) c_q40
                  · have p31 := (Q.holds'_iff _ _ _).2 h31
                    simp only [c_q40, Q.holds', D.nat, E.n, E.den, BO.den, UO.den, D.toInt_int, E.i, and_true, om_0, om_10, om_20, Int.toNat_natCast] at p31
                    exact calls_of_yesV sound tab_ok specs_ok overs_ok c_y25 rfl (tellA_ok (told_cons h0 (told_cons h1 (told_cons h2 (told_cons h3 (told_cons h4 (told_cons h5 (told_cons h6 (told_cons h7 (told_cons h8 (told_cons h9 (told_cons h10 (told_cons h11 (told_cons h12 (told_cons h13 (told_cons h14 (told_cons h15 (told_cons h16 (told_cons h17 (told_cons h18 (told_cons h19 (told_cons h20 (told_cons h21 (told_cons h22 (told_cons h23 (told_cons h24 (told_cons h25 (told_cons h26 (told_cons h27 (told_cons h28 (told_cons h29 (told_cons h30 (told_cons h31 told_nil))))))))))))))))))))))))))))))))) r0 hargs
                  · have p31 := (Q.holds'_iff _ _ _).2 h31
                    simp only [c_q40, Q.holds', D.nat, E.n, E.den, BO.den, UO.den, D.toInt_int, E.i, and_true, om_0, om_10, om_20, Int.toNat_natCast] at p31
                    exact calls_of_yesV sound tab_ok specs_ok overs_ok c_y87 rfl (tellA_ok (told_cons h0 (told_cons h1 (told_cons h2 (told_cons h3 (told_cons h4 (told_cons h5 (told_cons h6 (told_cons h7 (told_cons h8 (told_cons h9 (told_cons h10 (told_cons h11 (told_cons h12 (told_cons h13 (told_cons h14 (told_cons h15 (told_cons h16 (told_cons h17 (told_cons h18 (told_cons h19 (told_cons h20 (told_cons h21 (told_cons h22 (told_cons h23 (told_cons h24 (told_cons h25 (told_cons h26 (told_cons h27 (told_cons h28 (told_cons h29 (told_cons h30 (told_cons h31 told_nil))))))))))))))))))))))))))))))))) r0 hargs
              · have p13 := (Q.holds'_iff _ _ _).2 h13
                simp only [c_q11, Q.holds', D.nat, E.n, E.den, BO.den, UO.den, D.toInt_int, E.i, and_true, om_0, om_10, om_20, Int.toNat_natCast] at p13
                have h14 : Q.val (om n0 n1 n2) c_q12 = false := (Q.holds'_iff _ _ _).1 (by
                  simp only [c_q12, Q.holds', D.nat, E.n, E.den, BO.den, UO.den, D.toInt_int, E.i, and_true, om_0, om_10, om_20, Int.toNat_natCast]
                  all_goals (omega))
                have p14 := (Q.holds'_iff _ _ _).2 h14
                try (
                  simp only [c_q12, Q.holds', D.nat, E.n, E.den, BO.den, UO.den, D.toInt_int, E.i, and_true, om_0, om_10, om_20, Int.toNat_natCast] at p14)
                have h15 : Q.val (om n0 n1 n2) c_q13 = true := (Q.holds'_iff _ _ _).1 (by
                  simp only [c_q13, Q.holds', D.nat, E.n, E.den, BO.den, UO.den, D.toInt_int, E.i, and_true, om_0, om_10, om_20, Int.toNat_natCast]
                  all_goals (omega))
                have p15 := (Q.holds'_iff _ _ _).2 h15
                try (
                  simp only [c_q13, Q.holds', D.nat, E.n, E.den, BO.den, UO.den, D.toInt_int, E.i, and_true, om_0, om_10, om_20, Int.toNat_natCast] at p15)
                have h16 : Q.val (om n0 n1 n2) c_q14 = true := (Q.holds'_iff _ _ _).1 (by
                  simp only [c_q14, Q.holds', D.nat, E.n, E.den, BO.den, UO.den, D.toInt_int, E.i, and_true, om_0, om_10, om_20, Int.toNat_natCast]
                  all_goals (have e1 := Hs (); omega))
                have p16 := (Q.holds'_iff _ _ _).2 h16
                try (
                  simp only [c_q14, Q.holds', D.nat, E.n, E.den, BO.den, UO.den, D.toInt_int, E.i, and_true, om_0, om_10, om_20, Int.toNat_natCast] at p16)
                have h17 : Q.val (om n0 n1 n2) c_q15 = false := (Q.holds'_iff _ _ _).1 (by
                  simp only [c_q15, Q.holds', D.nat, E.n, E.den, BO.den, UO.den, D.toInt_int, E.i, and_true, om_0, om_10, om_20, Int.toNat_natCast]
                  all_goals (have v := j2 (by omega) (by omega) (by omega); simp only [AsMuch] at v; omega))
                have p17 := (Q.holds'_iff _ _ _).2 h17
                try (
                  simp only [c_q15, Q.holds', D.nat, E.n, E.den, BO.den, UO.den, D.toInt_int, E.i, and_true, om_0, om_10, om_20, Int.toNat_natCast] at p17)
                have h18 : Q.val (om n0 n1 n2) c_q23 = false := (Q.holds'_iff _ _ _).1 (by
                  simp only [c_q23, Q.holds', D.nat, E.n, E.den, BO.den, UO.den, D.toInt_int, E.i, and_true, om_0, om_10, om_20, Int.toNat_natCast]
                  all_goals (have r := k15 (by omega) (by omega); simp only [Rises] at r; omega))
                have p18 := (Q.holds'_iff _ _ _).2 h18
                try (
                  simp only [c_q23, Q.holds', D.nat, E.n, E.den, BO.den, UO.den, D.toInt_int, E.i, and_true, om_0, om_10, om_20, Int.toNat_natCast] at p18)
                have h19 : Q.val (om n0 n1 n2) c_q32 = true := (Q.holds'_iff _ _ _).1 (by
                  simp only [c_q32, Q.holds', D.nat, E.n, E.den, BO.den, UO.den, D.toInt_int, E.i, and_true, om_0, om_10, om_20, Int.toNat_natCast]
                  all_goals (have w2 := k13 (by omega); simp only [Waited, UO.den, D.toInt_int] at w2; omega))
                have p19 := (Q.holds'_iff _ _ _).2 h19
                try (
                  simp only [c_q32, Q.holds', D.nat, E.n, E.den, BO.den, UO.den, D.toInt_int, E.i, and_true, om_0, om_10, om_20, Int.toNat_natCast] at p19)
                have h20 : Q.val (om n0 n1 n2) c_q33 = true := (Q.holds'_iff _ _ _).1 (by
                  simp only [c_q33, Q.holds', D.nat, E.n, E.den, BO.den, UO.den, D.toInt_int, E.i, and_true, om_0, om_10, om_20, Int.toNat_natCast, i64min, i64max, inK]
                  all_goals (have w2 := k13 (by omega); simp only [Waited, UO.den, D.toInt_int] at w2; omega))
                have p20 := (Q.holds'_iff _ _ _).2 h20
                try (
                  simp only [c_q33, Q.holds', D.nat, E.n, E.den, BO.den, UO.den, D.toInt_int, E.i, and_true, om_0, om_10, om_20, Int.toNat_natCast, i64min, i64max, inK] at p20)
                have h21 : Q.val (om n0 n1 n2) c_q41 = true := (Q.holds'_iff _ _ _).1 (by
                  simp only [c_q41, Q.holds', D.nat, E.n, E.den, BO.den, UO.den, D.toInt_int, E.i, and_true, om_0, om_10, om_20, Int.toNat_natCast]
                  all_goals (have r := k15 (by omega) (by omega); simp only [Rises] at r; omega))
                have p21 := (Q.holds'_iff _ _ _).2 h21
                try (
                  simp only [c_q41, Q.holds', D.nat, E.n, E.den, BO.den, UO.den, D.toInt_int, E.i, and_true, om_0, om_10, om_20, Int.toNat_natCast] at p21)
                have h22 : Q.val (om n0 n1 n2) c_q16 = true := (Q.holds'_iff _ _ _).1 (by
                  simp only [c_q16, Q.holds', D.nat, E.n, E.den, BO.den, UO.den, D.toInt_int, E.i, and_true, om_0, om_10, om_20, Int.toNat_natCast]
                  all_goals (have e0 := H0 (); omega))
                have p22 := (Q.holds'_iff _ _ _).2 h22
                try (
                  simp only [c_q16, Q.holds', D.nat, E.n, E.den, BO.den, UO.den, D.toInt_int, E.i, and_true, om_0, om_10, om_20, Int.toNat_natCast] at p22)
                have h23 : Q.val (om n0 n1 n2) c_q17 = true := (Q.holds'_iff _ _ _).1 (by
                  simp only [c_q17, Q.holds', D.nat, E.n, E.den, BO.den, UO.den, D.toInt_int, E.i, and_true, om_0, om_10, om_20, Int.toNat_natCast]
                  all_goals (omega))
                have p23 := (Q.holds'_iff _ _ _).2 h23
                try (
                  simp only [c_q17, Q.holds', D.nat, E.n, E.den, BO.den, UO.den, D.toInt_int, E.i, and_true, om_0, om_10, om_20, Int.toNat_natCast] at p23)
                have h24 : Q.val (om n0 n1 n2) c_q18 = true := (Q.holds'_iff _ _ _).1 (by
                  simp only [c_q18, Q.holds', D.nat, E.n, E.den, BO.den, UO.den, D.toInt_int, E.i, and_true, om_0, om_10, om_20, Int.toNat_natCast]
                  all_goals (have e1 := Hs (); omega))
                have p24 := (Q.holds'_iff _ _ _).2 h24
                try (
                  simp only [c_q18, Q.holds', D.nat, E.n, E.den, BO.den, UO.den, D.toInt_int, E.i, and_true, om_0, om_10, om_20, Int.toNat_natCast] at p24)
                cases h25 : Q.val (om n0 n1 n2) c_q19
                · have p25 := (Q.holds'_iff _ _ _).2 h25
                  simp only [c_q19, Q.holds', D.nat, E.n, E.den, BO.den, UO.den, D.toInt_int, E.i, and_true, om_0, om_10, om_20, Int.toNat_natCast] at p25
                  have h26 : Q.val (om n0 n1 n2) c_q24 = false := (Q.holds'_iff _ _ _).1 (by
                    simp only [c_q24, Q.holds', D.nat, E.n, E.den, BO.den, UO.den, D.toInt_int, E.i, and_true, om_0, om_10, om_20, Int.toNat_natCast]
                    all_goals (have r2 := k16 (by omega) (by omega); simp only [Rises] at r2; omega))
                  have p26 := (Q.holds'_iff _ _ _).2 h26
                  try (
                    simp only [c_q24, Q.holds', D.nat, E.n, E.den, BO.den, UO.den, D.toInt_int, E.i, and_true, om_0, om_10, om_20, Int.toNat_natCast] at p26)
                  have h27 : Q.val (om n0 n1 n2) c_q29 = true := (Q.holds'_iff _ _ _).1 (by
                    simp only [c_q29, Q.holds', D.nat, E.n, E.den, BO.den, UO.den, D.toInt_int, E.i, and_true, om_0, om_10, om_20, Int.toNat_natCast]
                    all_goals (have w3 := k14 (by omega); simp only [Waited, UO.den, D.toInt_int] at w3; omega))
                  have p27 := (Q.holds'_iff _ _ _).2 h27
                  try (
                    simp only [c_q29, Q.holds', D.nat, E.n, E.den, BO.den, UO.den, D.toInt_int, E.i, and_true, om_0, om_10, om_20, Int.toNat_natCast] at p27)
                  have h28 : Q.val (om n0 n1 n2) c_q30 = true := (Q.holds'_iff _ _ _).1 (by
                    simp only [c_q30, Q.holds', D.nat, E.n, E.den, BO.den, UO.den, D.toInt_int, E.i, and_true, om_0, om_10, om_20, Int.toNat_natCast, i64min, i64max, inK]
                    all_goals (have w3 := k14 (by omega); simp only [Waited, UO.den, D.toInt_int] at w3; omega))
                  have p28 := (Q.holds'_iff _ _ _).2 h28
                  try (
                    simp only [c_q30, Q.holds', D.nat, E.n, E.den, BO.den, UO.den, D.toInt_int, E.i, and_true, om_0, om_10, om_20, Int.toNat_natCast, i64min, i64max, inK] at p28)
                  have h29 : Q.val (om n0 n1 n2) c_q42 = true := (Q.holds'_iff _ _ _).1 (by
                    simp only [c_q42, Q.holds', D.nat, E.n, E.den, BO.den, UO.den, D.toInt_int, E.i, and_true, om_0, om_10, om_20, Int.toNat_natCast]
                    all_goals (have r2 := k16 (by omega) (by omega); simp only [Rises] at r2; omega))
                  have p29 := (Q.holds'_iff _ _ _).2 h29
                  try (
                    simp only [c_q42, Q.holds', D.nat, E.n, E.den, BO.den, UO.den, D.toInt_int, E.i, and_true, om_0, om_10, om_20, Int.toNat_natCast] at p29)
                  cases h30 : Q.val (om n0 n1 n2) c_q39
                  · have p30 := (Q.holds'_iff _ _ _).2 h30
                    simp only [c_q39, Q.holds', D.nat, E.n, E.den, BO.den, UO.den, D.toInt_int, E.i, and_true, om_0, om_10, om_20, Int.toNat_natCast] at p30
                    cases h31 : Q.val (om n0 n1 n2) c_q40
                    · have p31 := (Q.holds'_iff _ _ _).2 h31
                      simp only [c_q40, Q.holds', D.nat, E.n, E.den, BO.den, UO.den, D.toInt_int, E.i, and_true, om_0, om_10, om_20, Int.toNat_natCast] at p31
                      cases h32 : Q.val (om n0 n1 n2) c_q44
                      · have p32 := (Q.holds'_iff _ _ _).2 h32
                        simp only [c_q44, Q.holds', D.nat, E.n, E.den, BO.den, UO.den, D.toInt_int, E.i, and_true, om_0, om_10, om_20, Int.toNat_natCast] at p32
                        have h33 : Q.val (om n0 n1 n2) c_q43 = true := (Q.holds'_iff _ _ _).1 (by
                          simp only [c_q43, Q.holds', D.nat, E.n, E.den, BO.den, UO.den, D.toInt_int, E.i, and_true, om_0, om_10, om_20, Int.toNat_natCast]
                          all_goals (have w := k12 (by omega); simp only [Waited, UO.den, D.toInt_int] at w; have e3 := Hl (); omega))
                        have p33 := (Q.holds'_iff _ _ _).2 h33
                        try (
                          simp only [c_q43, Q.holds', D.nat, E.n, E.den, BO.den, UO.den, D.toInt_int, E.i, and_true, om_0, om_10, om_20, Int.toNat_natCast] at p33)
                        exact calls_of_yesV sound tab_ok specs_ok overs_ok c_y61 rfl (tellA_ok (told_cons h0 (told_cons h1 (told_cons h2 (told_cons h3 (told_cons h4 (told_cons h5 (told_cons h6 (told_cons h7 (told_cons h8 (told_cons h9 (told_cons h10 (told_cons h11 (told_cons h12 (told_cons h13 (told_cons h14 (told_cons h15 (told_cons h16 (told_cons h17 (told_cons h18 (told_cons h19 (told_cons h20 (told_cons h21 (told_cons h22 (told_cons h23 (told_cons h24 (told_cons h25 (told_cons h26 (told_cons h27 (told_cons h28 (told_cons h29 (told_cons h30 (told_cons h31 (told_cons h32 (told_cons h33 told_nil))))))))))))))))))))))))))))))))))) r0 hargs
                      · have p32 := (Q.holds'_iff _ _ _).2 h32
                        simp only [c_q44, Q.holds', D.nat, E.n, E.den, BO.den, UO.den, D.toInt_int, E.i, and_true, om_0, om_10, om_20, Int.toNat_natCast] at p32
                        exact calls_of_yesV sound tab_ok specs_ok overs_ok c_y74 rfl (tellA_ok (told_cons h0 (told_cons h1 (told_cons h2 (told_cons h3 (told_cons h4 (told_cons h5 (told_cons h6 (told_cons h7 (told_cons h8 (told_cons h9 (told_cons h10 (told_cons h11 (told_cons h12 (told_cons h13 (told_cons h14 (told_cons h15 (told_cons h16 (told_cons h17 (told_cons h18 (told_cons h19 (told_cons h20 (told_cons h21 (told_cons h22 (told_cons h23 (told_cons h24 (told_cons h25 (told_cons h26 (told_cons h27 (told_cons h28 (told_cons h29 (told_cons h30 (told_cons h31 (told_cons h32 told_nil)))))))))))))))))))))))))))))))))) r0 hargs
                    · have p31 := (Q.holds'_iff _ _ _).2 h31
                      simp only [c_q40, Q.holds', D.nat, E.n, E.den, BO.den, UO.den, D.toInt_int, E.i, and_true, om_0, om_10, om_20, Int.toNat_natCast] at p31
                      exact calls_of_yesV sound tab_ok specs_ok overs_ok c_y39 rfl (tellA_ok (told_cons h0 (told_cons h1 (told_cons h2 (told_cons h3 (told_cons h4 (told_cons h5 (told_cons h6 (told_cons h7 (told_cons h8 (told_cons h9 (told_cons h10 (told_cons h11 (told_cons h12 (told_cons h13 (told_cons h14 (told_cons h15 (told_cons h16 (told_cons h17 (told_cons h18 (told_cons h19 (told_cons h20 (told_cons h21 (told_cons h22 (told_cons h23 (told_cons h24 (told_cons h25 (told_cons h26 (told_cons h27 (told_cons h28 (told_cons h29 (told_cons h30 (told_cons h31 told_nil))))))))))))))))))))))))))))))))) r0 hargs
                  · have p30 := (Q.holds'_iff _ _ _).2 h30
                    simp only [c_q39, Q.holds', D.nat, E.n, E.den, BO.den, UO.den, D.toInt_int, E.i, and_true, om_0, om_10, om_20, Int.toNat_natCast] at p30
                    cases h31 : Q.val (om n0 n1 n2) c_q40
                    · have p31 := (Q.holds'_iff _ _ _).2 h31
                      simp only [c_q40, Q.holds', D.nat, E.n, E.den, BO.den, UO.den, D.toInt_int, E.i, and_true, om_0, om_10, om_20, Int.toNat_natCast] at p31
                      exact calls_of_yesV sound tab_ok specs_ok overs_ok c_y32 rfl (tellA_ok (told_cons h0 (told_cons h1 (told_cons h2 (told_cons h3 (told_cons h4 (told_cons h5 (told_cons h6 (told_cons h7 (told_cons h8 (told_cons h9 (told_cons h10 (told_cons h11 (told_cons h12 (told_cons h13 (told_cons h14 (told_cons h15 (told_cons h16 (told_cons h17 (told_cons h18 (told_cons h19 (told_cons h20 (told_cons h21 (told_cons h22 (told_cons h23 (told_cons h24 (told_cons h25 (told_cons h26 (told_cons h27 (told_cons h28 (told_cons h29 (told_cons h30 (told_cons h31 told_nil))))))))))))))))))))))))))))))))) r0 hargs
                    · have p31 := (Q.holds'_iff _ _ _).2 h31
                      simp only [c_q40, Q.holds', D.nat, E.n, E.den, BO.den, UO.den, D.toInt_int, E.i, and_true, om_0, om_10, om_20, Int.toNat_natCast] at p31
                      exact calls_of_yesV sound tab_ok specs_ok overs_ok c_y88 rfl (tellA_ok (told_cons h0 (told_cons h1 (told_cons h2 (told_cons h3 (told_cons h4 (told_cons h5 (told_cons h6 (told_cons h7 (told_cons h8 (told_cons h9 (told_cons h10 (told_cons h11 (told_cons h12 (told_cons h13 (told_cons h14 (told_cons h15 (told_cons h16 (told_cons h17 (told_cons h18 (told_cons h19 (told_cons h20 (told_cons h21 (told_cons h22 (told_cons h23 (told_cons h24 (told_cons h25 (told_cons h26 (told_cons h27 (told_cons h28 (told_cons h29 (told_cons h30 (told_cons h31 told_nil))))))))))))))))))))))))))))))))) r0 hargs
                · have p25 := (Q.holds'_iff _ _ _).2 h25
                  simp only [c_q19, Q.holds', D.nat, E.n, E.den, BO.den, UO.den, D.toInt_int, E.i, and_true, om_0, om_10, om_20, Int.toNat_natCast] at p25
                  cases h26 : Q.val (om n0 n1 n2) c_q39
                  · have p26 := (Q.holds'_iff _ _ _).2 h26
                    simp only [c_q39, Q.holds', D.nat, E.n, E.den, BO.den, UO.den, D.toInt_int, E.i, and_true, om_0, om_10, om_20, Int.toNat_natCast] at p26
                    cases h27 : Q.val (om n0 n1 n2) c_q40
                    · have p27 := (Q.holds'_iff _ _ _).2 h27
                      simp only [c_q40, Q.holds', D.nat, E.n, E.den, BO.den, UO.den, D.toInt_int, E.i, and_true, om_0, om_10, om_20, Int.toNat_natCast] at p27
                      cases h28 : Q.val (om n0 n1 n2) c_q44
                      · have p28 := (Q.holds'_iff _ _ _).2 h28
                        simp only [c_q44, Q.holds', D.nat, E.n, E.den, BO.den, UO.den, D.toInt_int, E.i, and_true, om_0, om_10, om_20, Int.toNat_natCast] at p28
                        have h29 : Q.val (om n0 n1 n2) c_q43 = true := (Q.holds'_iff _ _ _).1 (by
                          simp only [c_q43, Q.holds', D.nat, E.n, E.den, BO.den, UO.den, D.toInt_int, E.i, and_true, om_0, om_10, om_20, Int.toNat_natCast]
                          all_goals (have w := k12 (by omega); simp only [Waited, UO.den, D.toInt_int] at w; have e3 := Hl (); omega))
                        have p29 := (Q.holds'_iff _ _ _).2 h29
                        try (
                          simp only [c_q43, Q.holds', D.nat, E.n, E.den, BO.den, UO.den, D.toInt_int, E.i, and_true, om_0, om_10, om_20, Int.toNat_natCast] at p29)
                        exact calls_of_yesV sound tab_ok specs_ok overs_ok c_y83 rfl (tellA_ok (told_cons h0 (told_cons h1 (told_cons h2 (told_cons h3 (told_cons h4 (told_cons h5 (told_cons h6 (told_cons h7 (told_cons h8 (told_cons h9 (told_cons h10 (told_cons h11 (told_cons h12 (told_cons h13 (told_cons h14 (told_cons h15 (told_cons h16 (told_cons h17 (told_cons h18 (told_cons h19 (told_cons h20 (told_cons h21 (told_cons h22 (told_cons h23 (told_cons h24 (told_cons h25 (told_cons h26 (told_cons h27 (told_cons h28 (told_cons h29 told_nil))))))))))))))))))))))))))))))) r0 hargs
                      · have p28 := (Q.holds'_iff _ _ _).2 h28
                        simp only [c_q44, Q.holds', D.nat, E.n, E.den, BO.den, UO.den, D.toInt_int, E.i, and_true, om_0, om_10, om_20, Int.toNat_natCast] at p28
                        exact calls_of_yesV sound tab_ok specs_ok overs_ok c_y75 rfl (tellA_ok (told_cons h0 (told_cons h1 (told_cons h2 (told_cons h3 (told_cons h4 (told_cons h5 (told_cons h6 (told_cons h7 (told_cons h8 (told_cons h9 (told_cons h10 (told_cons h11 (told_cons h12 (told_cons h13 (told_cons h14 (told_cons h15 (told_cons h16 (told_cons h17 (told_cons h18 (told_cons h19 (told_cons h20 (told_cons h21 (told_cons h22 (told_cons h23 (told_cons h24 (told_cons h25 (told_cons h26 (told_cons h27 (told_cons h28 told_nil)))))))))))))))))))))))))))))) r0 hargs
                    · have p27 := (Q.holds'_iff _ _ _).2 h27
                      simp only [c_q40, Q.holds', D.nat, E.n, E.den, BO.den, UO.den, D.toInt_int, E.i, and_true, om_0, om_10, om_20, Int.toNat_natCast] at p27
                      exact calls_of_yesV sound tab_ok specs_ok overs_ok c_y66 rfl (tellA_ok (told_cons h0 (told_cons h1 (told_cons h2 (told_cons h3 (told_cons h4 (told_cons h5 (told_cons h6 (told_cons h7 (told_cons h8 (told_cons h9 (told_cons h10 (told_cons h11 (told_cons h12 (told_cons h13 (told_cons h14 (told_cons h15 (told_cons h16 (told_cons h17 (told_cons h18 (told_cons h19 (told_cons h20 (told_cons h21 (told_cons h22 (told_cons h23 (told_cons h24 (told_cons h25 (told_cons h26 (told_cons h27 told_nil))))))))))))))))))))))))))))) r0 hargs
                  · have p26 := (Q.holds'_iff _ _ _).2 h26
                    simp only [c_q39, Q.holds', D.nat, E.n, E.den, BO.den, UO.den, D.toInt_int, E.i, and_true, om_0, om_10, om_20, Int.toNat_natCast] at p26
                    cases h27 : Q.val (om n0 n1 n2) c_q40
                    · have p27 := (Q.holds'_iff _ _ _).2 h27
                      simp only [c_q40, Q.holds', D.nat, E.n, E.den, BO.den, UO.den, D.toInt_int, E.i, and_true, om_0, om_10, om_20, Int.toNat_natCast] at p27
                      exact calls_of_yesV sound tab_ok specs_ok overs_ok c_y82 rfl (tellA_ok (told_cons h0 (told_cons h1 (told_cons h2 (told_cons h3 (told_cons h4 (told_cons h5 (told_cons h6 (told_cons h7 (told_cons h8 (told_cons h9 (told_cons h10 (told_cons h11 (told_cons h12 (told_cons h13 (told_cons h14 (told_cons h15 (told_cons h16 (told_cons h17 (told_cons h18 (told_cons h19 (told_cons h20 (told_cons h21 (told_cons h22 (told_cons h23 (told_cons h24 (told_cons h25 (told_cons h26 (told_cons h27 told_nil))))))))))))))))))))))))))))) r0 hargs
                    · have p27 := (Q.holds'_iff _ _ _).2 h27
                      simp only [c_q40, Q.holds', D.nat, E.n, E.den, BO.den, UO.den, D.toInt_int, E.i, and_true, om_0, om_10, om_20, Int.toNat_natCast] at p27
                      exact calls_of_yesV sound tab_ok specs_ok overs_ok c_y89 rfl (tellA_ok (told_cons h0 (told_cons h1 (told_cons h2 (told_cons h3 (told_cons h4 (told_cons h5 (told_cons h6 (told_cons h7 (told_cons h8 (told_cons h9 (told_cons h10 (told_cons h11 (told_cons h12 (told_cons h13 (told_cons h14 (told_cons h15 (told_cons h16 (told_cons h17 (told_cons h18 (told_cons h19 (told_cons h20 (told_cons h21 (told_cons h22 (told_cons h23 (told_cons h24 (told_cons h25 (told_cons h26 (told_cons h27 told_nil))))))))))))))))))))))))))))) r0 hargs
            · have p11 := (Q.holds'_iff _ _ _).2 h11
              simp only [c_q9, Q.holds', D.nat, E.n, E.den, BO.den, UO.den, D.toInt_int, E.i, and_true, om_0, om_10, om_20, Int.toNat_natCast] at p11
              have h12 : Q.val (om n0 n1 n2) c_q10 = false := (Q.holds'_iff _ _ _).1 (by
                simp only [c_q10, Q.holds', D.nat, E.n, E.den, BO.den, UO.den, D.toInt_int, E.i, and_true, om_0, om_10, om_20, Int.toNat_natCast]
                all_goals (omega))
              have p12 := (Q.holds'_iff _ _ _).2 h12
              try (
                simp only [c_q10, Q.holds', D.nat, E.n, E.den, BO.den, UO.den, D.toInt_int, E.i, and_true, om_0, om_10, om_20, Int.toNat_natCast] at p12)
              cases h13 : Q.val (om n0 n1 n2) c_q11
              · have p13 := (Q.holds'_iff _ _ _).2 h13
                simp only [c_q11, Q.holds', D.nat, E.n, E.den, BO.den, UO.den, D.toInt_int, E.i, and_true, om_0, om_10, om_20, Int.toNat_natCast] at p13
                have h14 : Q.val (om n0 n1 n2) c_q12 = true := (Q.holds'_iff _ _ _).1 (by
                  simp only [c_q12, Q.holds', D.nat, E.n, E.den, BO.den, UO.den, D.toInt_int, E.i, and_true, om_0, om_10, om_20, Int.toNat_natCast]
                  all_goals (have e2 := Ha (); omega))
                have p14 := (Q.holds'_iff _ _ _).2 h14
                try (
                  simp only [c_q12, Q.holds', D.nat, E.n, E.den, BO.den, UO.den, D.toInt_int, E.i, and_true, om_0, om_10, om_20, Int.toNat_natCast] at p14)
                have h15 : Q.val (om n0 n1 n2) c_q13 = true := (Q.holds'_iff _ _ _).1 (by
                  simp only [c_q13, Q.holds', D.nat, E.n, E.den, BO.den, UO.den, D.toInt_int, E.i, and_true, om_0, om_10, om_20, Int.toNat_natCast]
                  all_goals (omega))
                have p15 := (Q.holds'_iff _ _ _).2 h15
                try (
                  simp only [c_q13, Q.holds', D.nat, E.n, E.den, BO.den, UO.den, D.toInt_int, E.i, and_true, om_0, om_10, om_20, Int.toNat_natCast] at p15)
                have h16 : Q.val (om n0 n1 n2) c_q14 = true := (Q.holds'_iff _ _ _).1 (by
                  simp only [c_q14, Q.holds', D.nat, E.n, E.den, BO.den, UO.den, D.toInt_int, E.i, and_true, om_0, om_10, om_20, Int.toNat_natCast]
                  all_goals (have e1 := Hs (); omega))
                have p16 := (Q.holds'_iff _ _ _).2 h16
                try (
                  simp only [c_q14, Q.holds', D.nat, E.n, E.den, BO.den, UO.den, D.toInt_int, E.i, and_true, om_0, om_10, om_20, Int.toNat_natCast] at p16)
                cases h17 : Q.val (om n0 n1 n2) c_q15
                · have p17 := (Q.holds'_iff _ _ _).2 h17
                  simp only [c_q15, Q.holds', D.nat, E.n, E.den, BO.den, UO.den, D.toInt_int, E.i, and_true, om_0, om_10, om_20, Int.toNat_natCast] at p17
                  have h18 : Q.val (om n0 n1 n2) c_q23 = false := (Q.holds'_iff _ _ _).1 (by
                    simp only [c_q23, Q.holds', D.nat, E.n, E.den, BO.den, UO.den, D.toInt_int, E.i, and_true, om_0, om_10, om_20, Int.toNat_natCast]
                    all_goals (have r := k15 (by omega) (by omega); simp only [Rises] at r; omega))
                  have p18 := (Q.holds'_iff _ _ _).2 h18
                  try (
                    simp only [c_q23, Q.holds', D.nat, E.n, E.den, BO.den, UO.den, D.toInt_int, E.i, and_true, om_0, om_10, om_20, Int.toNat_natCast] at p18)
                  have h19 : Q.val (om n0 n1 n2) c_q32 = true := (Q.holds'_iff _ _ _).1 (by
                    simp only [c_q32, Q.holds', D.nat, E.n, E.den, BO.den, UO.den, D.toInt_int, E.i, and_true, om_0, om_10, om_20, Int.toNat_natCast]
                    all_goals (have w2 := k13 (by omega); simp only [Waited, UO.den, D.toInt_int] at w2; omega))
                  have p19 := (Q.holds'_iff _ _ _).2 h19
                  try (
                    simp only [c_q32, Q.holds', D.nat, E.n, E.den, BO.den, UO.den, D.toInt_int, E.i, and_true, om_0, om_10, om_20, Int.toNat_natCast] at p19)
                  have h20 : Q.val (om n0 n1 n2) c_q33 = true := (Q.holds'_iff _ _ _).1 (by
                    simp only [c_q33, Q.holds', D.nat, E.n, E.den, BO.den, UO.den, D.toInt_int, E.i, and_true, om_0, om_10, om_20, Int.toNat_natCast, i64min, i64max, inK]
                    all_goals (have w2 := k13 (by omega); simp only [Waited, UO.den, D.toInt_int] at w2; omega))
                  have p20 := (Q.holds'_iff _ _ _).2 h20
                  try (
                    simp only [c_q33, Q.holds', D.nat, E.n, E.den, BO.den, UO.den, D.toInt_int, E.i, and_true, om_0, om_10, om_20, Int.toNat_natCast, i64min, i64max, inK] at p20)
                  have h21 : Q.val (om n0 n1 n2) c_q41 = true := (Q.holds'_iff _ _ _).1 (by
                    simp only [c_q41, Q.holds', D.nat, E.n, E.den, BO.den, UO.den, D.toInt_int, E.i, and_true, om_0, om_10, om_20, Int.toNat_natCast]
                    all_goals (have r := k15 (by omega) (by omega); simp only [Rises] at r; omega))
                  have p21 := (Q.holds'_iff _ _ _).2 h21
                  try (
                    simp only [c_q41, Q.holds', D.nat, E.n, E.den, BO.den, UO.den, D.toInt_int, E.i, and_true, om_0, om_10, om_20, Int.toNat_natCast] at p21)
                  have h22 : Q.val (om n0 n1 n2) c_q16 = true := (Q.holds'_iff _ _ _).1 (by
                    simp only [c_q16, Q.holds', D.nat, E.n, E.den, BO.den, UO.den, D.toInt_int, E.i, and_true, om_0, om_10, om_20, Int.toNat_natCast]
                    all_goals (have e0 := H0 (); omega))
                  have p22 := (Q.holds'_iff _ _ _).2 h22
                  try (
                    simp only [c_q16, Q.holds', D.nat, E.n, E.den, BO.den, UO.den, D.toInt_int, E.i, and_true, om_0, om_10, om_20, Int.toNat_natCast] at p22)
                  have h23 : Q.val (om n0 n1 n2) c_q17 = true := (Q.holds'_iff _ _ _).1 (by
                    simp only [c_q17, Q.holds', D.nat, E.n, E.den, BO.den, UO.den, D.toInt_int, E.i, and_true, om_0, om_10, om_20, Int.toNat_natCast]
                    all_goals (omega))
                  have p23 := (Q.holds'_iff _ _ _).2 h23
                  try (
                    simp only [c_q17, Q.holds', D.nat, E.n, E.den, BO.den, UO.den, D.toInt_int, E.i, and_true, om_0, om_10, om_20, Int.toNat_natCast] at p23)
                  have h24 : Q.val (om n0 n1 n2) c_q18 = true := (Q.holds'_iff _ _ _).1 (by
                    simp only [c_q18, Q.holds', D.nat, E.n, E.den, BO.den, UO.den, D.toInt_int, E.i, and_true, om_0, om_10, om_20, Int.toNat_natCast]
                    all_goals (have e1 := Hs (); omega))
                  have p24 := (Q.holds'_iff _ _ _).2 h24
                  try (
                    simp only [c_q18, Q.holds', D.nat, E.n, E.den, BO.den, UO.den, D.toInt_int, E.i, and_true, om_0, om_10, om_20, Int.toNat_natCast] at p24)
                  have h25 : Q.val (om n0 n1 n2) c_q19 = false := (Q.holds'_iff _ _ _).1 (by
                    simp only [c_q19, Q.holds', D.nat, E.n, E.den, BO.den, UO.den, D.toInt_int, E.i, and_true, om_0, om_10, om_20, Int.toNat_natCast]
                    all_goals (have v2 := j3 (by omega) (by omega) (by omega); simp only [AsMuch] at v2; omega))
                  have p25 := (Q.holds'_iff _ _ _).2 h25
                  try (
                    simp only [c_q19, Q.holds', D.nat, E.n, E.den, BO.den, UO.den, D.toInt_int, E.i, and_true, om_0, om_10, om_20, Int.toNat_natCast] at p25)
                  have h26 : Q.val (om n0 n1 n2) c_q24 = false := (Q.holds'_iff _ _ _).1 (by
                    simp only [c_q24, Q.holds', D.nat, E.n, E.den, BO.den, UO.den, D.toInt_int, E.i, and_true, om_0, om_10, om_20, Int.toNat_natCast]
                    all_goals (have r2 := k16 (by omega) (by omega); simp only [Rises] at r2; omega))
                  have p26 := (Q.holds'_iff _ _ _).2 h26
                  try (
                    simp only [c_q24, Q.holds', D.nat, E.n, E.den, BO.den, UO.den, D.toInt_int, E.i, and_true, om_0, om_10, om_20, Int.toNat_natCast] at p26)
                  have h27 : Q.val (om n0 n1 n2) c_q29 = true := (Q.holds'_iff _ _ _).1 (by
                    simp only [c_q29, Q.holds', D.nat, E.n, E.den, BO.den, UO.den, D.toInt_int, E.i, and_true, om_0, om_10, om_20, Int.toNat_natCast]
                    all_goals (have w3 := k14 (by omega); simp only [Waited, UO.den, D.toInt_int] at w3; omega))
                  have p27 := (Q.holds'_iff _ _ _).2 h27
                  try (
                    simp only [c_q29, Q.holds', D.nat, E.n, E.den, BO.den, UO.den, D.toInt_int, E.i, and_true, om_0, om_10, om_20, Int.toNat_natCast] at p27)
                  have h28 : Q.val (om n0 n1 n2) c_q30 = true := (Q.holds'_iff _ _ _).1 (by
                    simp only [c_q30, Q.holds', D.nat, E.n, E.den, BO.den, UO.den, D.toInt_int, E.i, and_true, om_0, om_10, om_20, Int.toNat_natCast, i64min, i64max, inK]
                    all_goals (have w3 := k14 (by omega); simp only [Waited, UO.den, D.toInt_int] at w3; omega))
                  have p28 := (Q.holds'_iff _ _ _).2 h28
                  try (
                    simp only [c_q30, Q.holds', D.nat, E.n, E.den, BO.den, UO.den, D.toInt_int, E.i, and_true, om_0, om_10, om_20, Int.toNat_natCast, i64min, i64max, inK] at p28)
                  have h29 : Q.val (om n0 n1 n2) c_q42 = true := (Q.holds'_iff _ _ _).1 (by
                    simp only [c_q42, Q.holds', D.nat, E.n, E.den, BO.den, UO.den, D.toInt_int, E.i, and_true, om_0, om_10, om_20, Int.toNat_natCast]
                    all_goals (have r2 := k16 (by omega) (by omega); simp only [Rises] at r2; omega))
                  have p29 := (Q.holds'_iff _ _ _).2 h29
                  try (
                    simp only [c_q42, Q.holds', D.nat, E.n, E.den, BO.den, UO.den, D.toInt_int, E.i, and_true, om_0, om_10, om_20, Int.toNat_natCast] at p29)
                  cases h30 : Q.val (om n0 n1 n2) c_q39
                  · have p30 := (Q.holds'_iff _ _ _).2 h30
                    simp only [c_q39, Q.holds', D.nat, E.n, E.den, BO.den, UO.den, D.toInt_int, E.i, and_true, om_0, om_10, om_20, Int.toNat_natCast] at p30
                    cases h31 : Q.val (om n0 n1 n2) c_q40
                    · have p31 := (Q.holds'_iff _ _ _).2 h31
                      simp only [c_q40, Q.holds', D.nat, E.n, E.den, BO.den, UO.den, D.toInt_int, E.i, and_true, om_0, om_10, om_20, Int.toNat_natCast] at p31
                      cases h32 : Q.val (om n0 n1 n2) c_q44
                      · have p32 := (Q.holds'_iff _ _ _).2 h32
                        simp only [c_q44, Q.holds', D.nat, E.n, E.den, BO.den, UO.den, D.toInt_int, E.i, and_true, om_0, om_10, om_20, Int.toNat_natCast] at p32
                        have h33 : Q.val (om n0 n1 n2) c_q43 = true := (Q.holds'_iff _ _ _).1 (by
                          simp only [c_q43, Q.holds', D.nat, E.n, E.den, BO.den, UO.den, D.toInt_int, E.i, and_true, om_0, om_10, om_20, Int.toNat_natCast]
                          all_goals (have w := k12 (by omega); simp only [Waited, UO.den, D.toInt_int] at w; have e3 := Hl (); omega))
                        have p33 := (Q.holds'_iff _ _ _).2 h33
                        try (
                          simp only [c_q43, Q.holds', D.nat, E.n, E.den, BO.den, UO.den, D.toInt_int, E.i, and_true, om_0, om_10, om_20, Int.toNat_natCast] at p33)
                        exact calls_of_yesV sound tab_ok specs_ok overs_ok c_y117 rfl (tellA_ok (told_cons h0 (told_cons h1 (told_cons h2 (told_cons h3 (told_cons h4 (told_cons h5 (told_cons h6 (told_cons h7 (told_cons h8 (told_cons h9 (told_cons h10 (told_cons h11 (told_cons h12 (told_cons h13 (told_cons h14 (told_cons h15 (told_cons h16 (told_cons h17 (told_cons h18 (told_cons h19 (told_cons h20 (told_cons h21 (told_cons h22 (told_cons h23 (told_cons h24 (told_cons h25 (told_cons h26 (told_cons h27 (told_cons h28 (told_cons h29 (told_cons h30 (told_cons h31 (told_cons h32 (told_cons h33 told_nil))))))))))))))))))))))))))))))))))) r0 hargs
                      · have p32 := (Q.holds'_iff _ _ _).2 h32
                        simp only [c_q44, Q.holds', D.nat, E.n, E.den, BO.den, UO.den, D.toInt_int, E.i, and_true, om_0, om_10, om_20, Int.toNat_natCast] at p32
                        exact calls_of_yesV sound tab_ok specs_ok overs_ok c_y124 rfl (tellA_ok (told_cons h0 (told_cons h1 (told_cons h2 (told_cons h3 (told_cons h4 (told_cons h5 (told_cons h6 (told_cons h7 (told_cons h8 (told_cons h9 (told_cons h10 (told_cons h11 (told_cons h12 (told_cons h13 (told_cons h14 (told_cons h15 (told_cons h16 (told_cons h17 (told_cons h18 (told_cons h19 (told_cons h20 (told_cons h21 (told_cons h22 (told_cons h23 (told_cons h24 (told_cons h25 (told_cons h26 (told_cons h27 (told_cons h28 (told_cons h29 (told_cons h30 (told_cons h31 (told_cons h32 told_nil)))))))))))))))))))))))))))))))))) r0 hargs
                    · have p31 := (Q.holds'_iff _ _ _).2 h31
                      simp only [c_q40, Q.holds', D.nat, E.n, E.den, BO.den, UO.den, D.toInt_int, E.i, and_true, om_0, om_10, om_20, Int.toNat_natCast] at p31
                      exact calls_of_yesV sound tab_ok specs_ok overs_ok c_y123 rfl (tellA_ok (told_cons h0 (told_cons h1 (told_cons h2 (told_cons h3 (told_cons h4 (told_cons h5 (told_cons h6 (told_cons h7 (told_cons h8 (told_cons h9 (told_cons h10 (told_cons h11 (told_cons h12 (told_cons h13 (told_cons h14 (told_cons h15 (told_cons h16 (told_cons h17 (told_cons h18 (told_cons h19 (told_cons h20 (told_cons h21 (told_cons h22 (told_cons h23 (told_cons h24 (told_cons h25 (told_cons h26 (told_cons h27 (told_cons h28 (told_cons h29 (told_cons h30 (told_cons h31 told_nil))))))))))))))))))))))))))))))))) r0 hargs
                  · have p30 := (Q.holds'_iff _ _ _).2 h30
                    simp only [c_q39, Q.holds', D.nat, E.n, E.den, BO.den, UO.den, D.toInt_int, E.i, and_true, om_0, om_10, om_20, Int.toNat_natCast] at p30
                    cases h31 : Q.val (om n0 n1 n2) c_q40
                    · have p31 := (Q.holds'_iff _ _ _).2 h31
                      simp only [c_q40, Q.holds', D.nat, E.n, E.den, BO.den, UO.den, D.toInt_int, E.i, and_true, om_0, om_10, om_20, Int.toNat_natCast] at p31
                      exact calls_of_yesV sound tab_ok specs_ok overs_ok c_y28 rfl (tellA_ok (told_cons h0 (told_cons h1 (told_cons h2 (told_cons h3 (told_cons h4 (told_cons h5 (told_cons h6 (told_cons h7 (told_cons h8 (told_cons h9 (told_cons h10 (told_cons h11 (told_cons h12 (told_cons h13 (told_cons h14 (told_cons h15 (told_cons h16 (told_cons h17 (told_cons h18 (told_cons h19 (told_cons h20 (told_cons h21 (told_cons h22 (told_cons h23 (told_cons h24 (told_cons h25 (told_cons h26 (told_cons h27 (told_cons h28 (told_cons h29 (told_cons h30 (told_cons h31 told_nil))))))))))))))))))))))))))))))))) r0 hargs
                    · have p31 := (Q.holds'_iff _ _ _).2 h31
                      simp only [c_q40, Q.holds', D.nat, E.n, E.den, BO.den, UO.den, D.toInt_int, E.i, and_true, om_0, om_10, om_20, Int.toNat_natCast] at p31
                      exact calls_of_yesV sound tab_ok specs_ok overs_ok c_y90 rfl (tellA_ok (told_cons h0 (told_cons h1 (told_cons h2 (told_cons h3 (told_cons h4 (told_cons h5 (told_cons h6 (told_cons h7 (told_cons h8 (told_cons h9 (told_cons h10 (told_cons h11 (told_cons h12 (told_cons h13 (told_cons h14 (told_cons h15 (told_cons h16 (told_cons h17 (told_cons h18 (told_cons h19 (told_cons h20 (told_cons h21 (told_cons h22 (told_cons h23 (told_cons h24 (told_cons h25 (told_cons h26 (told_cons h27 (told_cons h28 (told_cons h29 (told_cons h30 (told_cons h31 told_nil))))))))))))))))))))))))))))))))) r0 hargs
                · have p17 := (Q.holds'_iff _ _ _).2 h17
                  simp only [c_q15, Q.holds', D.nat, E.n, E.den, BO.den, UO.den, D.toInt_int, E.i, and_true, om_0, om_10, om_20, Int.toNat_natCast] at p17
                  have h18 : Q.val (om n0 n1 n2) c_q16 = true := (Q.holds'_iff _ _ _).1 (by
                    simp only [c_q16, Q.holds', D.nat, E.n, E.den, BO.den, UO.den, D.toInt_int, E.i, and_true, om_0, om_10, om_20, Int.toNat_natCast]
                    all_goals (have e0 := H0 (); omega))
                  have p18 := (Q.holds'_iff _ _ _).2 h18
                  try (
                    simp only [c_q16, Q.holds', D.nat, E.n, E.den, BO.den, UO.den, D.toInt_int, E.i, and_true, om_0, om_10, om_20, Int.toNat_natCast] at p18)
                  have h19 : Q.val (om n0 n1 n2) c_q17 = true := (Q.holds'_iff _ _ _).1 (by
                    simp only [c_q17, Q.holds', D.nat, E.n, E.den, BO.den, UO.den, D.toInt_int, E.i, and_true, om_0, om_10, om_20, Int.toNat_natCast]
                    all_goals (omega))
                  have p19 := (Q.holds'_iff _ _ _).2 h19
                  try (
                    simp only [c_q17, Q.holds', D.nat, E.n, E.den, BO.den, UO.den, D.toInt_int, E.i, and_true, om_0, om_10, om_20, Int.toNat_natCast] at p19)
                  have h20 : Q.val (om n0 n1 n2) c_q18 = true := (Q.holds'_iff _ _ _).1 (by
                    simp only [c_q18, Q.holds', D.nat, E.n, E.den, BO.den, UO.den, D.toInt_int, E.i, and_true, om_0, om_10, om_20, Int.toNat_natCast]
                    all_goals (have e1 := Hs (); omega))
                  have p20 := (Q.holds'_iff _ _ _).2 h20
                  try (
                    simp only [c_q18, Q.holds', D.nat, E.n, E.den, BO.den, UO.den, D.toInt_int, E.i, and_true, om_0, om_10, om_20, Int.toNat_natCast] at p20)
                  have h21 : Q.val (om n0 n1 n2) c_q19 = false := (Q.holds'_iff _ _ _).1 (by
                    simp only [c_q19, Q.holds', D.nat, E.n, E.den, BO.den, UO.den, D.toInt_int, E.i, and_true, om_0, om_10, om_20, Int.toNat_natCast]
                    all_goals (have v2 := j3 (by omega) (by omega) (by omega); simp only [AsMuch] at v2; omega))
                  have p21 := (Q.holds'_iff _ _ _).2 h21
                  try (
                    simp only [c_q19, Q.holds', D.nat, E.n, E.den, BO.den, UO.den, D.toInt_int, E.i, and_true, om_0, om_10, om_20, Int.toNat_natCast] at p21)
                  have h22 : Q.val (om n0 n1 n2) c_q24 = false := (Q.holds'_iff _ _ _).1 (by
                    simp only [c_q24, Q.holds', D.nat, E.n, E.den, BO.den, UO.den, D.toInt_int, E.i, and_true, om_0, om_10, om_20, Int.toNat_natCast]
                    all_goals (have r2 := k16 (by omega) (by omega); simp only [Rises] at r2; omega))
                  have p22 := (Q.holds'_iff _ _ _).2 h22
                  try (
                    simp only [c_q24, Q.holds', D.nat, E.n, E.den, BO.den, UO.den, D.toInt_int, E.i, and_true, om_0, om_10, om_20, Int.toNat_natCast] at p22)
                  have h23 : Q.val (om n0 n1 n2) c_q29 = true := (Q.holds'_iff _ _ _).1 (by
                    simp only [c_q29, Q.holds', D.nat, E.n, E.den, BO.den, UO.den, D.toInt_int, E.i, and_true, om_0, om_10, om_20, Int.toNat_natCast]
                    all_goals (have w3 := k14 (by omega); simp only [Waited, UO.den, D.toInt_int] at w3; omega))
                  have p23 := (Q.holds'_iff _ _ _).2 h23
                  try (
                    simp only [c_q29, Q.holds', D.nat, E.n, E.den, BO.den, UO.den, D.toInt_int, E.i, and_true, om_0, om_10, om_20, Int.toNat_natCast] at p23)
                  have h24 : Q.val (om n0 n1 n2) c_q30 = true := (Q.holds'_iff _ _ _).1 (by
                    simp only [c_q30, Q.holds', D.nat, E.n, E.den, BO.den, UO.den, D.toInt_int, E.i, and_true, om_0, om_10, om_20, Int.toNat_natCast, i64min, i64max, inK]
                    all_goals (have w3 := k14 (by omega); simp only [Waited, UO.den, D.toInt_int] at w3; omega))
                  have p24 := (Q.holds'_iff _ _ _).2 h24
                  try (
                    simp only [c_q30, Q.holds', D.nat, E.n, E.den, BO.den, UO.den, D.toInt_int, E.i, and_true, om_0, om_10, om_20, Int.toNat_natCast, i64min, i64max, inK] at p24)
                  have h25 : Q.val (om n0 n1 n2) c_q42 = true := (Q.holds'_iff _ _ _).1 (by
                    simp only [c_q42, Q.holds', D.nat, E.n, E.den, BO.den, UO.den, D.toInt_int, E.i, and_true, om_0, om_10, om_20, Int.toNat_natCast]
                    all_goals (have r2 := k16 (by omega) (by omega); simp only [Rises] at r2; omega))
                  have p25 := (Q.holds'_iff _ _ _).2 h25
                  try (
                    simp only [c_q42, Q.holds', D.nat, E.n, E.den, BO.den, UO.den, D.toInt_int, E.i, and_true, om_0, om_10, om_20, Int.toNat_natCast] at p25)
                  cases h26 : Q.val (om n0 n1 n2) c_q39
                  · have p26 := (Q.holds'_iff _ _ _).2 h26
                    simp only [c_q39, Q.holds', D.nat, E.n, E.den, BO.den, UO.den, D.toInt_int, E.i, and_true, om_0, om_10, om_20, Int.toNat_natCast] at p26
                    cases h27 : Q.val (om n0 n1 n2) c_q40
                    · have p27 := (Q.holds'_iff _ _ _).2 h27
                      simp only [c_q40, Q.holds', D.nat, E.n, E.den, BO.den, UO.den, D.toInt_int, E.i, and_true, om_0, om_10, om_20, Int.toNat_natCast] at p27
                      cases h28 : Q.val (om n0 n1 n2) c_q44
                      · have p28 := (Q.holds'_iff _ _ _).2 h28
                        simp only [c_q44, Q.holds', D.nat, E.n, E.den, BO.den, UO.den, D.toInt_int, E.i, and_true, om_0, om_10, om_20, Int.toNat_natCast] at p28
                        have h29 : Q.val (om n0 n1 n2) c_q43 = true := (Q.holds'_iff _ _ _).1 (by
                          simp only [c_q43, Q.holds', D.nat, E.n, E.den, BO.den, UO.den, D.toInt_int, E.i, and_true, om_0, om_10, om_20, Int.toNat_natCast]
                          all_goals (have w := k12 (by omega); simp only [Waited, UO.den, D.toInt_int] at w; have e3 := Hl (); omega))
                        have p29 := (Q.holds'_iff _ _ _).2 h29
                        try (
                          simp only [c_q43, Q.holds', D.nat, E.n, E.den, BO.den, UO.den, D.toInt_int, E.i, and_true, om_0, om_10, om_20, Int.toNat_natCast] at p29)
                        exact calls_of_yesV sound tab_ok specs_ok overs_ok c_y139 rfl (tellA_ok (told_cons h0 (told_cons h1 (told_cons h2 (told_cons h3 (told_cons h4 (told_cons h5 (told_cons h6 (told_cons h7 (told_cons h8 (told_cons h9 (told_cons h10 (told_cons h11 (told_cons h12 (told_cons h13 (told_cons h14 (told_cons h15 (told_cons h16 (told_cons h17 (told_cons h18 (told_cons h19 (told_cons h20 (told_cons h21 (told_cons h22 (told_cons h23 (told_cons h24 (told_cons h25 (told_cons h26 (told_cons h27 (told_cons h28 (told_cons h29 told_nil))))))))))))))))))))))))))))))) r0 hargs
                      · have p28 := (Q.holds'_iff _ _ _).2 h28
                        simp only [c_q44, Q.holds', D.nat, E.n, E.den, BO.den, UO.den, D.toInt_int, E.i, and_true, om_0, om_10, om_20, Int.toNat_natCast] at p28
                        exact calls_of_yesV sound tab_ok specs_ok overs_ok c_y91 rfl (tellA_ok (told_cons h0 (told_cons h1 (told_cons h2 (told_cons h3 (told_cons h4 (told_cons h5 (told_cons h6 (told_cons h7 (told_cons h8 (told_cons h9 (told_cons h10 (told_cons h11 (told_cons h12 (told_cons h13 (told_cons h14 (told_cons h15 (told_cons h16 (told_cons h17 (told_cons h18 (told_cons h19 (told_cons h20 (told_cons h21 (told_cons h22 (told_cons h23 (told_cons h24 (told_cons h25 (told_cons h26 (told_cons h27 (told_cons h28 told_nil)))))))))))))))))))))))))))))) r0 hargs
                    · have p27 := (Q.holds'_iff _ _ _).2 h27
                      simp only [c_q40, Q.holds', D.nat, E.n, E.den, BO.den, UO.den, D.toInt_int, E.i, and_true, om_0, om_10, om_20, Int.toNat_natCast] at p27
                      exact calls_of_yesV sound tab_ok specs_ok overs_ok c_y125 rfl (tellA_ok (told_cons h0 (told_cons h1 (told_cons h2 (told_cons h3 (told_cons h4 (told_cons h5 (told_cons h6 (told_cons h7 (told_cons h8 (told_cons h9 (told_cons h10 (told_cons h11 (told_cons h12 (told_cons h13 (told_cons h14 (told_cons h15 (told_cons h16 (told_cons h17 (told_cons h18 (told_cons h19 (told_cons h20 (told_cons h21 (told_cons h22 (told_cons h23 (told_cons h24 (told_cons h25 (told_cons h26 (told_cons h27 told_nil))))))))))))))))))))))))))))) r0 hargs
                  · have p26 := (Q.holds'_iff _ _ _).2 h26
                    simp only [c_q39, Q.holds', D.nat, E.n, E.den, BO.den, UO.den, D.toInt_int, E.i, and_true, om_0, om_10, om_20, Int.toNat_natCast] at p26
                    cases h27 : Q.val (om n0 n1 n2) c_q40
                    · have p27 := (Q.holds'_iff _ _ _).2 h27
                      simp only [c_q40, Q.holds', D.nat, E.n, E.den, BO.den, UO.den, D.toInt_int, E.i, and_true, om_0, om_10, om_20, Int.toNat_natCast] at p27
                      exact calls_of_yesV sound tab_ok specs_ok overs_ok c_y85 rfl (tellA_ok (told_cons h0 (told_cons h1 (told_cons h2 (told_cons h3 (told_cons h4 (told_cons h5 (told_cons h6 (told_cons h7 (told_cons h8 (told_cons h9 (told_cons h10 (told_cons h11 (told_cons h12 (told_cons h13 (told_cons h14 (told_cons h15 (told_cons h16 (told_cons h17 (told_cons h18 (told_cons h19 (told_cons h20 (told_cons h21 (told_cons h22 (told_cons h23 (told_cons h24 (told_cons h25 (told_cons h26 (told_cons h27 told_nil))))))))))))))))))))))))))))) r0 hargs
                    · have p27 := (Q.holds'_iff _ _ _).2 h27
                      simp only [c_q40, Q.holds', D.nat, E.n, E.den, BO.den, UO.den, D.toInt_int, E.i, and_true, om_0, om_10, om_20, Int.toNat_natCast] at p27
                      exact calls_of_yesV sound tab_ok specs_ok overs_ok c_y92 rfl (tellA_ok (told_cons h0 (told_cons h1 (told_cons h2 (told_cons h3 (told_cons h4 (told_cons h5 (told_cons h6 (told_cons h7 (told_cons h8 (told_cons h9 (told_cons h10 (told_cons h11 (told_cons h12 (told_cons h13 (told_cons h14 (told_cons h15 (told_cons h16 (told_cons h17 (told_cons h18 (told_cons h19 (told_cons h20 (told_cons h21 (told_cons h22 (told_cons h23 (told_cons h24 (told_cons h25 (told_cons h26 (told_cons h27 told_nil))))))))))))))))))))))))))))) r0 hargs
              · have p13 := (Q.holds'_iff _ _ _).2 h13
                simp only [c_q11, Q.holds', D.nat, E.n, E.den, BO.den, UO.den, D.toInt_int, E.i, and_true, om_0, om_10, om_20, Int.toNat_natCast] at p13
                have h14 : Q.val (om n0 n1 n2) c_q12 = false := (Q.holds'_iff _ _ _).1 (by
                  simp only [c_q12, Q.holds', D.nat, E.n, E.den, BO.den, UO.den, D.toInt_int, E.i, and_true, om_0, om_10, om_20, Int.toNat_natCast]
                  all_goals (omega))
                have p14 := (Q.holds'_iff _ _ _).2 h14
                try (
                  simp only [c_q12, Q.holds', D.nat, E.n, E.den, BO.den, UO.den, D.toInt_int, E.i, and_true, om_0, om_10, om_20, Int.toNat_natCast] at p14)
                have h15 : Q.val (om n0 n1 n2) c_q13 = true := (Q.holds'_iff _ _ _).1 (by
                  simp only [c_q13, Q.holds', D.nat, E.n, E.den, BO.den, UO.den, D.toInt_int, E.i, and_true, om_0, om_10, om_20, Int.toNat_natCast]
                  all_goals (omega))
                have p15 := (Q.holds'_iff _ _ _).2 h15
                try (
                  simp only [c_q13, Q.holds', D.nat, E.n, E.den, BO.den, UO.den, D.toInt_int, E.i, and_true, om_0, om_10, om_20, Int.toNat_natCast] at p15)
                have h16 : Q.val (om n0 n1 n2) c_q14 = true := (Q.holds'_iff _ _ _).1 (by
                  simp only [c_q14, Q.holds', D.nat, E.n, E.den, BO.den, UO.den, D.toInt_int, E.i, and_true, om_0, om_10, om_20, Int.toNat_natCast]
                  all_goals (have e1 := Hs (); omega))
                have p16 := (Q.holds'_iff _ _ _).2 h16
                try (
                  simp only [c_q14, Q.holds', D.nat, E.n, E.den, BO.den, UO.den, D.toInt_int, E.i, and_true, om_0, om_10, om_20, Int.toNat_natCast] at p16)
                cases h17 : Q.val (om n0 n1 n2) c_q15
                · have p17 := (Q.holds'_iff _ _ _).2 h17
                  simp only [c_q15, Q.holds', D.nat, E.n, E.den, BO.den, UO.den, D.toInt_int, E.i, and_true, om_0, om_10, om_20, Int.toNat_natCast] at p17
                  have h18 : Q.val (om n0 n1 n2) c_q23 = false := (Q.holds'_iff _ _ _).1 (by
                    simp only [c_q23, Q.holds', D.nat, E.n, E.den, BO.den, UO.den, D.toInt_int, E.i, and_true, om_0, om_10, om_20, Int.toNat_natCast]
                    all_goals (have r := k15 (by omega) (by omega); simp only [Rises] at r; omega))
                  have p18 := (Q.holds'_iff _ _ _).2 h18
                  try (
                    simp only [c_q23, Q.holds', D.nat, E.n, E.den, BO.den, UO.den, D.toInt_int, E.i, and_true, om_0, om_10, om_20, Int.toNat_natCast] at p18)
                  have h19 : Q.val (om n0 n1 n2) c_q32 = true := (Q.holds'_iff _ _ _).1 (by
                    simp only [c_q32, Q.holds', D.nat, E.n, E.den, BO.den, UO.den, D.toInt_int, E.i, and_true, om_0, om_10, om_20, Int.toNat_natCast]
                    all_goals (have w2 := k13 (by omega); simp only [Waited, UO.den, D.toInt_int] at w2; omega))
                  have p19 := (Q.holds'_iff _ _ _).2 h19
                  try (
                    simp only [c_q32, Q.holds', D.nat, E.n, E.den, BO.den, UO.den, D.toInt_int, E.i, and_true, om_0, om_10, om_20, Int.toNat_natCast] at p19)
                  have h20 : Q.val (om n0 n1 n2) c_q33 = true := (Q.holds'_iff _ _ _).1 (by
                    simp only [c_q33, Q.holds', D.nat, E.n, E.den, BO.den, UO.den, D.toInt_int, E.i, and_true, om_0, om_10, om_20, Int.toNat_natCast, i64min, i64max, inK]
                    all_goals (have w2 := k13 (by omega); simp only [Waited, UO.den, D.toInt_int] at w2; omega))
                  have p20 := (Q.holds'_iff _ _ _).2 h20
                  try (
                    simp only [c_q33, Q.holds', D.nat, E.n, E.den, BO.den, UO.den, D.toInt_int, E.i, and_true, om_0, om_10, om_20, Int.toNat_natCast, i64min, i64max, inK] at p20)
                  have h21 : Q.val (om n0 n1 n2) c_q41 = true := (Q.holds'_iff _ _ _).1 (by
                    simp only [c_q41, Q.holds', D.nat, E.n, E.den, BO.den, UO.den, D.toInt_int, E.i, and_true, om_0, om_10, om_20, Int.toNat_natCast]
                    all_goals (have r := k15 (by omega) (by omega); simp only [Rises] at r; omega))
                  have p21 := (Q.holds'_iff _ _ _).2 h21
                  try (
                    simp only [c_q41, Q.holds', D.nat, E.n, E.den, BO.den, UO.den, D.toInt_int, E.i, and_true, om_0, om_10, om_20, Int.toNat_natCast] at p21)
                  have h22 : Q.val (om n0 n1 n2) c_q16 = true := (Q.holds'_iff _ _ _).1 (by
                    simp only [c_q16, Q.holds', D.nat, E.n, E.den, BO.den, UO.den, D.toInt_int, E.i, and_true, om_0, om_10, om_20, Int.toNat_natCast]
                    all_goals (have e0 := H0 (); omega))
                  have p22 := (Q.holds'_iff _ _ _).2 h22
                  try (
                    simp only [c_q16, Q.holds', D.nat, E.n, E.den, BO.den, UO.den, D.toInt_int, E.i, and_true, om_0, om_10, om_20, Int.toNat_natCast] at p22)
                  have h23 : Q.val (om n0 n1 n2) c_q17 = true := (Q.holds'_iff _ _ _).1 (by
                    simp only [c_q17, Q.holds', D.nat, E.n, E.den, BO.den, UO.den, D.toInt_int, E.i, and_true, om_0, om_10, om_20, Int.toNat_natCast]
                    all_goals (omega))
                  have p23 := (Q.holds'_iff _ _ _).2 h23
                  try (
                    simp only [c_q17, Q.holds', D.nat, E.n, E.den, BO.den, UO.den, D.toInt_int, E.i, and_true, om_0, om_10, om_20, Int.toNat_natCast] at p23)
                  have h24 : Q.val (om n0 n1 n2) c_q18 = true := (Q.holds'_iff _ _ _).1 (by
                    simp only [c_q18, Q.holds', D.nat, E.n, E.den, BO.den, UO.den, D.toInt_int, E.i, and_true, om_0, om_10, om_20, Int.toNat_natCast]
                    all_goals (have e1 := Hs (); omega))
                  have p24 := (Q.holds'_iff _ _ _).2 h24
                  try (
                    simp only [c_q18, Q.holds', D.nat, E.n, E.den, BO.den, UO.den, D.toInt_int, E.i, and_true, om_0, om_10, om_20, Int.toNat_natCast] at p24)
                  cases h25 : Q.val (om n0 n1 n2) c_q19
                  · have p25 := (Q.holds'_iff _ _ _).2 h25
                    simp only [c_q19, Q.holds', D.nat, E.n, E.den, BO.den, UO.den, D.toInt_int, E.i, and_true, om_0, om_10, om_20, Int.toNat_natCast] at p25
                    have h26 : Q.val (om n0 n1 n2) c_q24 = false := (Q.holds'_iff _ _ _).1 (by
                      simp only [c_q24, Q.holds', D.nat, E.n, E.den, BO.den, UO.den, D.toInt_int, E.i, and_true, om_0, om_10, om_20, Int.toNat_natCast]
                      all_goals (have r2 := k16 (by omega) (by omega); simp only [Rises] at r2; omega))
                    have p26 := (Q.holds'_iff _ _ _).2 h26
                    try (
                      simp only [c_q24, Q.holds', D.nat, E.n, E.den, BO.den, UO.den, D.toInt_int, E.i, and_true, om_0, om_10, om_20, Int.toNat_natCast] at p26)
                    have h27 : Q.val (om n0 n1 n2) c_q29 = true := (Q.holds'_iff _ _ _).1 (by
                      simp only [c_q29, Q.holds', D.nat, E.n, E.den, BO.den, UO.den, D.toInt_int, E.i, and_true, om_0, om_10, om_20, Int.toNat_natCast]
                      all_goals (have w3 := k14 (by omega); simp only [Waited, UO.den, D.toInt_int] at w3; omega))
                    have p27 := (Q.holds'_iff _ _ _).2 h27
                    try (
                      simp only [c_q29, Q.holds', D.nat, E.n, E.den, BO.den, UO.den, D.toInt_int, E.i, and_true, om_0, om_10, om_20, Int.toNat_natCast] at p27)
                    have h28 : Q.val (om n0 n1 n2) c_q30 = true := (Q.holds'_iff _ _ _).1 (by
                      simp only [c_q30, Q.holds', D.nat, E.n, E.den, BO.den, UO.den, D.toInt_int, E.i, and_true, om_0, om_10, om_20, Int.toNat_natCast, i64min, i64max, inK]
                      all_goals (have w3 := k14 (by omega); simp only [Waited, UO.den, D.toInt_int] at w3; omega))
                    have p28 := (Q.holds'_iff _ _ _).2 h28
                    try (
                      simp only [c_q30, Q.holds', D.nat, E.n, E.den, BO.den, UO.den, D.toInt_int, E.i, and_true, om_0, om_10, om_20, Int.toNat_natCast, i64min, i64max, inK] at p28)
                    have h29 : Q.val (om n0 n1 n2) c_q42 = true := (Q.holds'_iff _ _ _).1 (by
                      simp only [c_q42, Q.holds', D.nat, E.n, E.den, BO.den, UO.den, D.toInt_int, E.i, and_true, om_0, om_10, om_20, Int.toNat_natCast]
                      all_goals (have r2 := k16 (by omega) (by omega); simp only [Rises] at r2; omega))
                    have p29 := (Q.holds'_iff _ _ _).2 h29
                    try (
                      simp only [c_q42, Q.holds', D.nat, E.n, E.den, BO.den, UO.den, D.toInt_int, E.i, and_true, om_0, om_10, om_20, Int.toNat_natCast] at p29)
                    cases h30 : Q.val (om n0 n1 n2) c_q39
                    · have p30 := (Q.holds'_iff _ _ _).2 h30
                      simp only [c_q39, Q.holds', D.nat, E.n, E.den, BO.den, UO.den, D.toInt_int, E.i, and_true, om_0, om_10, om_20, Int.toNat_natCast] at p30
                      cases h31 : Q.val (om n0 n1 n2) c_q40
                      · have p31 := (Q.holds'_iff _ _ _).2 h31
                        simp only [c_q40, Q.holds', D.nat, E.n, E.den, BO.den, UO.den, D.toInt_int, E.i, and_true, om_0, om_10, om_20, Int.toNat_natCast] at p31
                        cases h32 : Q.val (om n0 n1 n2) c_q44
                        · have p32 := (Q.holds'_iff _ _ _).2 h32
                          simp only [c_q44, Q.holds', D.nat, E.n, E.den, BO.den, UO.den, D.toInt_int, E.i, and_true, om_0, om_10, om_20, Int.toNat_natCast] at p32
                          have h33 : Q.val (om n0 n1 n2) c_q43 = true := (Q.holds'_iff _ _ _).1 (by
                            simp only [c_q43, Q.holds', D.nat, E.n, E.den, BO.den, UO.den, D.toInt_int, E.i, and_true, om_0, om_10, om_20, Int.toNat_natCast]
                            all_goals (have w := k12 (by omega); simp only [Waited, UO.den, D.toInt_int] at w; have e3 := Hl (); omega))
                          have p33 := (Q.holds'_iff _ _ _).2 h33
                          try (
                            simp only [c_q43, Q.holds', D.nat, E.n, E.den, BO.den, UO.den, D.toInt_int, E.i, and_true, om_0, om_10, om_20, Int.toNat_natCast] at p33)
                          exact calls_of_yesV sound tab_ok specs_ok overs_ok c_y59 rfl (tellA_ok (told_cons h0 (told_cons h1 (told_cons h2 (told_cons h3 (told_cons h4 (told_cons h5 (told_cons h6 (told_cons h7 (told_cons h8 (told_cons h9 (told_cons h10 (told_cons h11 (told_cons h12 (told_cons h13 (told_cons h14 (told_cons h15 (told_cons h16 (told_cons h17 (told_cons h18 (told_cons h19 (told_cons h20 (told_cons h21 (told_cons h22 (told_cons h23 (told_cons h24 (told_cons h25 (told_cons h26 (told_cons h27 (told_cons h28 (told_cons h29 (told_cons h30 (told_cons h31 (told_cons h32 (told_cons h33 told_nil))))))))))))))))))))))))))))))))))) r0 hargs
                        · have p32 := (Q.holds'_iff _ _ _).2 h32
                          simp only [c_q44, Q.holds', D.nat, E.n, E.den, BO.den, UO.den, D.toInt_int, E.i, and_true, om_0, om_10, om_20, Int.toNat_natCast] at p32
                          exact calls_of_yesV sound tab_ok specs_ok overs_ok c_y78 rfl (tellA_ok (told_cons h0 (told_cons h1 (told_cons h2 (told_cons h3 (told_cons h4 (told_cons h5 (told_cons h6 (told_cons h7 (told_cons h8 (told_cons h9 (told_cons h10 (told_cons h11 (told_cons h12 (told_cons h13 (told_cons h14 (told_cons h15 (told_cons h16 (told_cons h17 (told_cons h18 (told_cons h19 (told_cons h20 (told_cons h21 (told_cons h22 (told_cons h23 (told_cons h24 (told_cons h25 (told_cons h26 (told_cons h27 (told_cons h28 (told_cons h29 (told_cons h30 (told_cons h31 (told_cons h32 told_nil)))))))))))))))))))))))))))))))))) r0 hargs
                      · have p31 := (Q.holds'_iff _ _ _).2 h31
                        simp only [c_q40, Q.holds', D.nat, E.n, E.den, BO.den, UO.den, D.toInt_int, E.i, and_true, om_0, om_10, om_20, Int.toNat_natCast] at p31
                        exact calls_of_yesV sound tab_ok specs_ok overs_ok c_y37 rfl (tellA_ok (told_cons h0 (told_cons h1 (told_cons h2 (told_cons h3 (told_cons h4 (told_cons h5 (told_cons h6 (told_cons h7 (told_cons h8 (told_cons h9 (told_cons h10 (told_cons h11 (told_cons h12 (told_cons h13 (told_cons h14 (told_cons h15 (told_cons h16 (told_cons h17 (told_cons h18 (told_cons h19 (told_cons h20 (told_cons h21 (told_cons h22 (told_cons h23 (told_cons h24 (told_cons h25 (told_cons h26 (told_cons h27 (told_cons h28 (told_cons h29 (told_cons h30 (told_cons h31 told_nil))))))))))))))))))))))))))))))))) r0 hargs
                    · have p30 := (Q.holds'_iff _ _ _).2 h30
                      simp only [c_q39, Q.holds', D.nat, E.n, E.den, BO.den, UO.den, D.toInt_int, E.i, and_true, om_0, om_10, om_20, Int.toNat_natCast] at p30
                      cases h31 : Q.val (om n0 n1 n2) c_q40
                      · have p31 := (Q.holds'_iff _ _ _).2 h31
                        simp only [c_q40, Q.holds', D.nat, E.n, E.den, BO.den, UO.den, D.toInt_int, E.i, and_true, om_0, om_10, om_20, Int.toNat_natCast] at p31
                        exact calls_of_yesV sound tab_ok specs_ok overs_ok c_y26 rfl (tellA_ok (told_cons h0 (told_cons h1 (told_cons h2 (told_cons h3 (told_cons h4 (told_cons h5 (told_cons h6 (told_cons h7 (told_cons h8 (told_cons h9 (told_cons h10 (told_cons h11 (told_cons h12 (told_cons h13 (told_cons h14 (told_cons h15 (told_cons h16 (told_cons h17 (told_cons h18 (told_cons h19 (told_cons h20 (told_cons h21 (told_cons h22 (told_cons h23 (told_cons h24 (told_cons h25 (told_cons h26 (told_cons h27 (told_cons h28 (told_cons h29 (told_cons h30 (told_cons h31 told_nil))))))))))))))))))))))))))))))))) r0 hargs
                      · have p31 := (Q.holds'_iff _ _ _).2 h31
                        simp only [c_q40, Q.holds', D.nat, E.n, E.den, BO.den, UO.den, D.toInt_int, E.i, and_true, om_0, om_10, om_20, Int.toNat_natCast] at p31
                        exact calls_of_yesV sound tab_ok specs_ok overs_ok c_y93 rfl (tellA_ok (told_cons h0 (told_cons h1 (told_cons h2 (told_cons h3 (told_cons h4 (told_cons h5 (told_cons h6 (told_cons h7 (told_cons h8 (told_cons h9 (told_cons h10 (told_cons h11 (told_cons h12 (told_cons h13 (told_cons h14 (told_cons h15 (told_cons h16 (told_cons h17 (told_cons h18 (told_cons h19 (told_cons h20 (told_cons h21 (told_cons h22 (told_cons h23 (told_cons h24 (told_cons h25 (told_cons h26 (told_cons h27 (told_cons h28 (told_cons h29 (told_cons h30 (told_cons h31 told_nil))))))))))))))))))))))))))))))))) r0 hargs
                  · have p25 := (Q.holds'_iff _ _ _).2 h25
                    simp only [c_q19, Q.holds', D.nat, E.n, E.den, BO.den, UO.den, D.toInt_int, E.i, and_true, om_0, om_10, om_20, Int.toNat_natCast] at p25
                    cases h26 : Q.val (om n0 n1 n2) c_q39
                    · have p26 := (Q.holds'_iff _ _ _).2 h26
                      simp only [c_q39, Q.holds', D.nat, E.n, E.den, BO.den, UO.den, D.toInt_int, E.i, and_true, om_0, om_10, om_20, Int.toNat_natCast] at p26
                      cases h27 : Q.val (om n0 n1 n2) c_q40
                      · have p27 := (Q.holds'_iff _ _ _).2 h27
                        simp only [c_q40, Q.holds', D.nat, E.n, E.den, BO.den, UO.den, D.toInt_int, E.i, and_true, om_0, om_10, om_20, Int.toNat_natCast] at p27
                        cases h28 : Q.val (om n0 n1 n2) c_q44
                        · have p28 := (Q.holds'_iff _ _ _).2 h28
                          simp only [c_q44, Q.holds', D.nat, E.n, E.den, BO.den, UO.den, D.toInt_int, E.i, and_true, om_0, om_10, om_20, Int.toNat_natCast] at p28
                          have h29 : Q.val (om n0 n1 n2) c_q43 = true := (Q.holds'_iff _ _ _).1 (by
                            simp only [c_q43, Q.holds', D.nat, E.n, E.den, BO.den, UO.den, D.toInt_int, E.i, and_true, om_0, om_10, om_20, Int.toNat_natCast]
                            all_goals (have w := k12 (by omega); simp only [Waited, UO.den, D.toInt_int] at w; have e3 := Hl (); omega))
                          have p29 := (Q.holds'_iff _ _ _).2 h29
                          try (
                            simp only [c_q43, Q.holds', D.nat, E.n, E.den, BO.den, UO.den, D.toInt_int, E.i, and_true, om_0, om_10, om_20, Int.toNat_natCast] at p29)
                          exact calls_of_yesV sound tab_ok specs_ok overs_ok c_y60 rfl (tellA_ok (told_cons h0 (told_cons h1 (told_cons h2 (told_cons h3 (told_cons h4 (told_cons h5 (told_cons h6 (told_cons h7 (told_cons h8 (told_cons h9 (told_cons h10 (told_cons h11 (told_cons h12 (told_cons h13 (told_cons h14 (told_cons h15 (told_cons h16 (told_cons h17 (told_cons h18 (told_cons h19 (told_cons h20 (told_cons h21 (told_cons h22 (told_cons h23 (told_cons h24 (told_cons h25 (told_cons h26 (told_cons h27 (told_cons h28 (told_cons h29 told_nil))))))))))))))))))))))))))))))) r0 hargs
                        · have p28 := (Q.holds'_iff _ _ _).2 h28
                          simp only [c_q44, Q.holds', D.nat, E.n, E.den, BO.den, UO.den, D.toInt_int, E.i, and_true, om_0, om_10, om_20, Int.toNat_natCast] at p28
                          exact calls_of_yesV sound tab_ok specs_ok overs_ok c_y73 rfl (tellA_ok (told_cons h0 (told_cons h1 (told_cons h2 (told_cons h3 (told_cons h4 (told_cons h5 (told_cons h6 (told_cons h7 (told_cons h8 (told_cons h9 (told_cons h10 (told_cons h11 (told_cons h12 (told_cons h13 (told_cons h14 (told_cons h15 (told_cons h16 (told_cons h17 (told_cons h18 (told_cons h19 (told_cons h20 (told_cons h21 (told_cons h22 (told_cons h23 (told_cons h24 (told_cons h25 (told_cons h26 (told_cons h27 (told_cons h28 told_nil)))))))))))))))))))))))))))))) r0 hargs
                      · have p27 := (Q.holds'_iff _ _ _).2 h27
                        simp only [c_q40, Q.holds', D.nat, E.n, E.den, BO.den, UO.den, D.toInt_int, E.i, and_true, om_0, om_10, om_20, Int.toNat_natCast] at p27
                        exact calls_of_yesV sound tab_ok specs_ok overs_ok c_y38 rfl (tellA_ok (told_cons h0 (told_cons h1 (told_cons h2 (told_cons h3 (told_cons h4 (told_cons h5 (told_cons h6 (told_cons h7 (told_cons h8 (told_cons h9 (told_cons h10 (told_cons h11 (told_cons h12 (told_cons h13 (told_cons h14 (told_cons h15 (told_cons h16 (told_cons h17 (told_cons h18 (told_cons h19 (told_cons h20 (told_cons h21 (told_cons h22 (told_cons h23 (told_cons h24 (told_cons h25 (told_cons h26 (told_cons h27 told_nil))))))))))))))))))))))))))))) r0 hargs
                    · have p26 := (Q.holds'_iff _ _ _).2 h26
                      simp only [c_q39, Q.holds', D.nat, E.n, E.den, BO.den, UO.den, D.toInt_int, E.i, and_true, om_0, om_10, om_20, Int.toNat_natCast] at p26
                      cases h27 : Q.val (om n0 n1 n2) c_q40
                      · have p27 := (Q.holds'_iff _ _ _).2 h27
                        simp only [c_q40, Q.holds', D.nat, E.n, E.den, BO.den, UO.den, D.toInt_int, E.i, and_true, om_0, om_10, om_20, Int.toNat_natCast] at p27
                        exact calls_of_yesV sound tab_ok specs_ok overs_ok c_y27 rfl (tellA_ok (told_cons h0 (told_cons h1 (told_cons h2 (told_cons h3 (told_cons h4 (told_cons h5 (told_cons h6 (told_cons h7 (told_cons h8 (told_cons h9 (told_cons h10 (told_cons h11 (told_cons h12 (told_cons h13 (told_cons h14 (told_cons h15 (told_cons h16 (told_cons h17 (told_cons h18 (told_cons h19 (told_cons h20 (told_cons h21 (told_cons h22 (told_cons h23 (told_cons h24 (told_cons h25 (told_cons h26 (told_cons h27 told_nil))))))))))))))))))))))))))))) r0 hargs
                      · have p27 := (Q.holds'_iff _ _ _).2 h27
                        simp only [c_q40, Q.holds', D.nat, E.n, E.den, BO.den, UO.den, D.toInt_int, E.i, and_true, om_0, om_10, om_20, Int.toNat_natCast] at p27
                        exact calls_of_yesV sound tab_ok specs_ok overs_ok c_y94 rfl (tellA_ok (told_cons h0 (told_cons h1 (told_cons h2 (told_cons h3 (told_cons h4 (told_cons h5 (told_cons h6 (told_cons h7 (told_cons h8 (told_cons h9 (told_cons h10 (told_cons h11 (told_cons h12 (told_cons h13 (told_cons h14 (told_cons h15 (told_cons h16 (told_cons h17 (told_cons h18 (told_cons h19 (told_cons h20 (told_cons h21 (told_cons h22 (told_cons h23 (told_cons h24 (told_cons h25 (told_cons h26 (told_cons h27 told_nil))))))))))))))))))))))))))))) r0 hargs
                · have p17 := (Q.holds'_iff _ _ _).2 h17
                  simp only [c_q15, Q.holds', D.nat, E.n, E.den, BO.den, UO.den, D.toInt_int, E.i, and_true, om_0, om_10, om_20, Int.toNat_natCast] at p17
                  have h18 : Q.val (om n0 n1 n2) c_q16 = true := (Q.holds'_iff _ _ _).1 (by
                    simp only [c_q16, Q.holds', D.nat, E.n, E.den, BO.den, UO.den, D.toInt_int, E.i, and_true, om_0, om_10, om_20, Int.toNat_natCast]
                    all_goals (have e0 := H0 (); omega))
                  have p18 := (Q.holds'_iff _ _ _).2 h18
                  try (
                    simp only [c_q16, Q.holds', D.nat, E.n, E.den, BO.den, UO.den, D.toInt_int, E.i, and_true, om_0, om_10, om_20, Int.toNat_natCast] at p18)
                  have h19 : Q.val (om n0 n1 n2) c_q17 = true := (Q.holds'_iff _ _ _).1 (by
                    simp only [c_q17, Q.holds', D.nat, E.n, E.den, BO.den, UO.den, D.toInt_int, E.i, and_true, om_0, om_10, om_20, Int.toNat_natCast]
                    all_goals (omega))
                  have p19 := (Q.holds'_iff _ _ _).2 h19
                  try (
                    simp only [c_q17, Q.holds', D.nat, E.n, E.den, BO.den, UO.den, D.toInt_int, E.i, and_true, om_0, om_10, om_20, Int.toNat_natCast] at p19)
                  have h20 : Q.val (om n0 n1 n2) c_q18 = true := (Q.holds'_iff _ _ _).1 (by
                    simp only [c_q18, Q.holds', D.nat, E.n, E.den, BO.den, UO.den, D.toInt_int, E.i, and_true, om_0, om_10, om_20, Int.toNat_natCast]
                    all_goals (have e1 := Hs (); omega))
                  have p20 := (Q.holds'_iff _ _ _).2 h20
                  try (
                    simp only [c_q18, Q.holds', D.nat, E.n, E.den, BO.den, UO.den, D.toInt_int, E.i, and_true, om_0, om_10, om_20, Int.toNat_natCast] at p20)
                  cases h21 : Q.val (om n0 n1 n2) c_q19
                  · have p21 := (Q.holds'_iff _ _ _).2 h21
                    simp only [c_q19, Q.holds', D.nat, E.n, E.den, BO.den, UO.den, D.toInt_int, E.i, and_true, om_0, om_10, om_20, Int.toNat_natCast] at p21
                    have h22 : Q.val (om n0 n1 n2) c_q24 = false := (Q.holds'_iff _ _ _).1 (by
                      simp only [c_q24, Q.holds', D.nat, E.n, E.den, BO.den, UO.den, D.toInt_int, E.i, and_true, om_0, om_10, om_20, Int.toNat_natCast]
                      all_goals (have r2 := k16 (by omega) (by omega); simp only [Rises] at r2; omega))
                    have p22 := (Q.holds'_iff _ _ _).2 h22
                    try (
                      simp only [c_q24, Q.holds', D.nat, E.n, E.den, BO.den, UO.den, D.toInt_int, E.i, and_true, om_0, om_10, om_20, Int.toNat_natCast] at p22)
                    have h23 : Q.val (om n0 n1 n2) c_q29 = true := (Q.holds'_iff _ _ _).1 (by
                      simp only [c_q29, Q.holds', D.nat, E.n, E.den, BO.den, UO.den, D.toInt_int, E.i, and_true, om_0, om_10, om_20, Int.toNat_natCast]
                      all_goals (have w3 := k14 (by omega); simp only [Waited, UO.den, D.toInt_int] at w3; omega))
                    have p23 := (Q.holds'_iff _ _ _).2 h23
                    try (
                      simp only [c_q29, Q.holds', D.nat, E.n, E.den, BO.den, UO.den, D.toInt_int, E.i, and_true, om_0, om_10, om_20, Int.toNat_natCast] at p23)
                    have h24 : Q.val (om n0 n1 n2) c_q30 = true := (Q.holds'_iff _ _ _).1 (by
                      simp only [c_q30, Q.holds', D.nat, E.n, E.den, BO.den, UO.den, D.toInt_int, E.i, and_true, om_0, om_10, om_20, Int.toNat_natCast, i64min, i64max, inK]
                      all_goals (have w3 := k14 (by omega); simp only [Waited, UO.den, D.toInt_int] at w3; omega))
                    have p24 := (Q.holds'_iff _ _ _).2 h24
                    try (
                      simp only [c_q30, Q.holds', D.nat, E.n, E.den, BO.den, UO.den, D.toInt_int, E.i, and_true, om_0, om_10, om_20, Int.toNat_natCast, i64min, i64max, inK] at p24)
                    have h25 : Q.val (om n0 n1 n2) c_q42 = true := (Q.holds'_iff _ _ _).1 (by
                      simp only [c_q42, Q.holds', D.nat, E.n, E.den, BO.den, UO.den, D.toInt_int, E.i, and_true, om_0, om_10, om_20, Int.toNat_natCast]
                      all_goals (have r2 := k16 (by omega) (by omega); simp only [Rises] at r2; omega))
                    have p25 := (Q.holds'_iff _ _ _).2 h25
                    try (
                      simp only [c_q42, Q.holds', D.nat, E.n, E.den, BO.den, UO.den, D.toInt_int, E.i, and_true, om_0, om_10, om_20, Int.toNat_natCast] at p25)
                    cases h26 : Q.val (om n0 n1 n2) c_q39
                    · have p26 := (Q.holds'_iff _ _ _).2 h26
                      simp only [c_q39, Q.holds', D.nat, E.n, E.den, BO.den, UO.den, D.toInt_int, E.i, and_true, om_0, om_10, om_20, Int.toNat_natCast] at p26
                      cases h27 : Q.val (om n0 n1 n2) c_q40
                      · have p27 := (Q.holds'_iff _ _ _).2 h27
                        simp only [c_q40, Q.holds', D.nat, E.n, E.den, BO.den, UO.den, D.toInt_int, E.i, and_true, om_0, om_10, om_20, Int.toNat_natCast] at p27
                        cases h28 : Q.val (om n0 n1 n2) c_q44
                        · have p28 := (Q.holds'_iff _ _ _).2 h28
                          simp only [c_q44, Q.holds', D.nat, E.n, E.den, BO.den, UO.den, D.toInt_int, E.i, and_true, om_0, om_10, om_20, Int.toNat_natCast] at p28
                          have h29 : Q.val (om n0 n1 n2) c_q43 = true := (Q.holds'_iff _ _ _).1 (by
                            simp only [c_q43, Q.holds', D.nat, E.n, E.den, BO.den, UO.den, D.toInt_int, E.i, and_true, om_0, om_10, om_20, Int.toNat_natCast]
                            all_goals (have w := k12 (by omega); simp only [Waited, UO.den, D.toInt_int] at w; have e3 := Hl (); omega))
                          have p29 := (Q.holds'_iff _ _ _).2 h29
                          try (
                            simp only [c_q43, Q.holds', D.nat, E.n, E.den, BO.den, UO.den, D.toInt_int, E.i, and_true, om_0, om_10, om_20, Int.toNat_natCast] at p29)
                          exact calls_of_yesV sound tab_ok specs_ok overs_ok c_y140 rfl (tellA_ok (told_cons h0 (told_cons h1 (told_cons h2 (told_cons h3 (told_cons h4 (told_cons h5 (told_cons h6 (told_cons h7 (told_cons h8 (told_cons h9 (told_cons h10 (told_cons h11 (told_cons h12 (told_cons h13 (told_cons h14 (told_cons h15 (told_cons h16 (told_cons h17 (told_cons h18 (told_cons h19 (told_cons h20 (told_cons h21 (told_cons h22 (told_cons h23 (told_cons h24 (told_cons h25 (told_cons h26 (told_cons h27 (told_cons h28 (told_cons h29 told_nil))))))))))))))))))))))))))))))) r0 hargs
                        · have p28 := (Q.holds'_iff _ _ _).2 h28
                          simp only [c_q44, Q.holds', D.nat, E.n, E.den, BO.den, UO.den, D.toInt_int, E.i, and_true, om_0, om_10, om_20, Int.toNat_natCast] at p28
                          exact calls_of_yesV sound tab_ok specs_ok overs_ok c_y144 rfl (tellA_ok (told_cons h0 (told_cons h1 (told_cons h2 (told_cons h3 (told_cons h4 (told_cons h5 (told_cons h6 (told_cons h7 (told_cons h8 (told_cons h9 (told_cons h10 (told_cons h11 (told_cons h12 (told_cons h13 (told_cons h14 (told_cons h15 (told_cons h16 (told_cons h17 (told_cons h18 (told_cons h19 (told_cons h20 (told_cons h21 (told_cons h22 (told_cons h23 (told_cons h24 (told_cons h25 (told_cons h26 (told_cons h27 (told_cons h28 told_nil)))))))))))))))))))))))))))))) r0 hargs
                      · have p27 := (Q.holds'_iff _ _ _).2 h27
                        simp only [c_q40, Q.holds', D.nat, E.n, E.den, BO.den, UO.den, D.toInt_int, E.i, and_true, om_0, om_10, om_20, Int.toNat_natCast] at p27
                        exact calls_of_yesV sound tab_ok specs_ok overs_ok c_y143 rfl (tellA_ok (told_cons h0 (told_cons h1 (told_cons h2 (told_cons h3 (told_cons h4 (told_cons h5 (told_cons h6 (told_cons h7 (told_cons h8 (told_cons h9 (told_cons h10 (told_cons h11 (told_cons h12 (told_cons h13 (told_cons h14 (told_cons h15 (told_cons h16 (told_cons h17 (told_cons h18 (told_cons h19 (told_cons h20 (told_cons h21 (told_cons h22 (told_cons h23 (told_cons h24 (told_cons h25 (told_cons h26 (told_cons h27 told_nil))))))))))))))))))))))))))))) r0 hargs
                    · have p26 := (Q.holds'_iff _ _ _).2 h26
                      simp only [c_q39, Q.holds', D.nat, E.n, E.den, BO.den, UO.den, D.toInt_int, E.i, and_true, om_0, om_10, om_20, Int.toNat_natCast] at p26
                      cases h27 : Q.val (om n0 n1 n2) c_q40
                      · have p27 := (Q.holds'_iff _ _ _).2 h27
                        simp only [c_q40, Q.holds', D.nat, E.n, E.den, BO.den, UO.den, D.toInt_int, E.i, and_true, om_0, om_10, om_20, Int.toNat_natCast] at p27
                        exact calls_of_yesV sound tab_ok specs_ok overs_ok c_y118 rfl (tellA_ok (told_cons h0 (told_cons h1 (told_cons h2 (told_cons h3 (told_cons h4 (told_cons h5 (told_cons h6 (told_cons h7 (told_cons h8 (told_cons h9 (told_cons h10 (told_cons h11 (told_cons h12 (told_cons h13 (told_cons h14 (told_cons h15 (told_cons h16 (told_cons h17 (told_cons h18 (told_cons h19 (told_cons h20 (told_cons h21 (told_cons h22 (told_cons h23 (told_cons h24 (told_cons h25 (told_cons h26 (told_cons h27 told_nil))))))))))))))))))))))))))))) r0 hargs
                      · have p27 := (Q.holds'_iff _ _ _).2 h27
                        simp only [c_q40, Q.holds', D.nat, E.n, E.den, BO.den, UO.den, D.toInt_int, E.i, and_true, om_0, om_10, om_20, Int.toNat_natCast] at p27
                        exact calls_of_yesV sound tab_ok specs_ok overs_ok c_y126 rfl (tellA_ok (told_cons h0 (told_cons h1 (told_cons h2 (told_cons h3 (told_cons h4 (told_cons h5 (told_cons h6 (told_cons h7 (told_cons h8 (told_cons h9 (told_cons h10 (told_cons h11 (told_cons h12 (told_cons h13 (told_cons h14 (told_cons h15 (told_cons h16 (told_cons h17 (told_cons h18 (told_cons h19 (told_cons h20 (told_cons h21 (told_cons h22 (told_cons h23 (told_cons h24 (told_cons h25 (told_cons h26 (told_cons h27 told_nil))))))))))))))))))))))))))))) r0 hargs
                  · have p21 := (Q.holds'_iff _ _ _).2 h21
                    simp only [c_q19, Q.holds', D.nat, E.n, E.den, BO.den, UO.den, D.toInt_int, E.i, and_true, om_0, om_10, om_20, Int.toNat_natCast] at p21
                    cases h22 : Q.val (om n0 n1 n2) c_q39
                    · have p22 := (Q.holds'_iff _ _ _).2 h22
                      simp only [c_q39, Q.holds', D.nat, E.n, E.den, BO.den, UO.den, D.toInt_int, E.i, and_true, om_0, om_10, om_20, Int.toNat_natCast] at p22
                      cases h23 : Q.val (om n0 n1 n2) c_q40
                      · have p23 := (Q.holds'_iff _ _ _).2 h23
                        simp only [c_q40, Q.holds', D.nat, E.n, E.den, BO.den, UO.den, D.toInt_int, E.i, and_true, om_0, om_10, om_20, Int.toNat_natCast] at p23
                        cases h24 : Q.val (om n0 n1 n2) c_q44
                        · have p24 := (Q.holds'_iff _ _ _).2 h24
                          simp only [c_q44, Q.holds', D.nat, E.n, E.den, BO.den, UO.den, D.toInt_int, E.i, and_true, om_0, om_10, om_20, Int.toNat_natCast] at p24
                          have h25 : Q.val (om n0 n1 n2) c_q43 = true := (Q.holds'_iff _ _ _).1 (by
                            simp only [c_q43, Q.holds', D.nat, E.n, E.den, BO.den, UO.den, D.toInt_int, E.i, and_true, om_0, om_10, om_20, Int.toNat_natCast]
                            all_goals (have w := k12 (by omega); simp only [Waited, UO.den, D.toInt_int] at w; have e3 := Hl (); omega))
                          have p25 := (Q.holds'_iff _ _ _).2 h25
                          try (
                            simp only [c_q43, Q.holds', D.nat, E.n, E.den, BO.den, UO.den, D.toInt_int, E.i, and_true, om_0, om_10, om_20, Int.toNat_natCast] at p25)
                          exact calls_of_yesV sound tab_ok specs_ok overs_ok c_y57 rfl (tellA_ok (told_cons h0 (told_cons h1 (told_cons h2 (told_cons h3 (told_cons h4 (told_cons h5 (told_cons h6 (told_cons h7 (told_cons h8 (told_cons h9 (told_cons h10 (told_cons h11 (told_cons h12 (told_cons h13 (told_cons h14 (told_cons h15 (told_cons h16 (told_cons h17 (told_cons h18 (told_cons h19 (told_cons h20 (told_cons h21 (told_cons h22 (told_cons h23 (told_cons h24 (told_cons h25 told_nil))))))))))))))))))))))))))) r0 hargs
                        · have p24 := (Q.holds'_iff _ _ _).2 h24
                          simp only [c_q44, Q.holds', D.nat, E.n, E.den, BO.den, UO.den, D.toInt_int, E.i, and_true, om_0, om_10, om_20, Int.toNat_natCast] at p24
                          exact calls_of_yesV sound tab_ok specs_ok overs_ok c_y71 rfl (tellA_ok (told_cons h0 (told_cons h1 (told_cons h2 (told_cons h3 (told_cons h4 (told_cons h5 (told_cons h6 (told_cons h7 (told_cons h8 (told_cons h9 (told_cons h10 (told_cons h11 (told_cons h12 (told_cons h13 (told_cons h14 (told_cons h15 (told_cons h16 (told_cons h17 (told_cons h18 (told_cons h19 (told_cons h20 (told_cons h21 (told_cons h22 (told_cons h23 (told_cons h24 told_nil)))))))))))))))))))))))))) r0 hargs
                      · have p23 := (Q.holds'_iff _ _ _).2 h23
                        simp only [c_q40, Q.holds', D.nat, E.n, E.den, BO.den, UO.den, D.toInt_int, E.i, and_true, om_0, om_10, om_20, Int.toNat_natCast] at p23
                        exact calls_of_yesV sound tab_ok specs_ok overs_ok c_y35 rfl (tellA_ok (told_cons h0 (told_cons h1 (told_cons h2 (told_cons h3 (told_cons h4 (told_cons h5 (told_cons h6 (told_cons h7 (told_cons h8 (told_cons h9 (told_cons h10 (told_cons h11 (told_cons h12 (told_cons h13 (told_cons h14 (told_cons h15 (told_cons h16 (told_cons h17 (told_cons h18 (told_cons h19 (told_cons h20 (told_cons h21 (told_cons h22 (told_cons h23 told_nil))))))))))))))))))))))))) r0 hargs
                    · have p22 := (Q.holds'_iff _ _ _).2 h22
                      simp only [c_q39, Q.holds', D.nat, E.n, E.den, BO.den, UO.den, D.toInt_int, E.i, and_true, om_0, om_10, om_20, Int.toNat_natCast] at p22
                      cases h23 : Q.val (om n0 n1 n2) c_q40
                      · have p23 := (Q.holds'_iff _ _ _).2 h23
                        simp only [c_q40, Q.holds', D.nat, E.n, E.den, BO.den, UO.den, D.toInt_int, E.i, and_true, om_0, om_10, om_20, Int.toNat_natCast] at p23
                        exact calls_of_yesV sound tab_ok specs_ok overs_ok c_y24 rfl (tellA_ok (told_cons h0 (told_cons h1 (told_cons h2 (told_cons h3 (told_cons h4 (told_cons h5 (told_cons h6 (told_cons h7 (told_cons h8 (told_cons h9 (told_cons h10 (told_cons h11 (told_cons h12 (told_cons h13 (told_cons h14 (told_cons h15 (told_cons h16 (told_cons h17 (told_cons h18 (told_cons h19 (told_cons h20 (told_cons h21 (told_cons h22 (told_cons h23 told_nil))))))))))))))))))))))))) r0 hargs
                      · have p23 := (Q.holds'_iff _ _ _).2 h23
                        simp only [c_q40, Q.holds', D.nat, E.n, E.den, BO.den, UO.den, D.toInt_int, E.i, and_true, om_0, om_10, om_20, Int.toNat_natCast] at p23
                        exact calls_of_yesV sound tab_ok specs_ok overs_ok c_y95 rfl (tellA_ok (told_cons h0 (told_cons h1 (told_cons h2 (told_cons h3 (told_cons h4 (told_cons h5 (told_cons h6 (told_cons h7 (told_cons h8 (told_cons h9 (told_cons h10 (told_cons h11 (told_cons h12 (told_cons h13 (told_cons h14 (told_cons h15 (told_cons h16 (told_cons h17 (told_cons h18 (told_cons h19 (told_cons h20 (told_cons h21 (told_cons h22 (told_cons h23 told_nil))))))))))))))))))))))))) r0 hargs
        · have p4 := (Q.holds'_iff _ _ _).2 h4
          simp only [c_q22, Q.holds', D.nat, E.n, E.den, BO.den, UO.den, D.toInt_int, E.i, and_true, om_0, om_10, om_20, Int.toNat_natCast] at p4
          cases h5 : Q.val (om n0 n1 n2) c_q2
          · have p5 := (Q.holds'_iff _ _ _).2 h5
            simp only [c_q2, Q.holds', D.nat, E.n, E.den, BO.den, UO.den, D.toInt_int, E.i, and_true, om_0, om_10, om_20, Int.toNat_natCast] at p5
            cases h6 : Q.val (om n0 n1 n2) c_q3
            · have p6 := (Q.holds'_iff _ _ _).2 h6
              simp only [c_q3, Q.holds', D.nat, E.n, E.den, BO.den, UO.den, D.toInt_int, E.i, and_true, om_0, om_10, om_20, Int.toNat_natCast] at p6
              have h7 : Q.val (om n0 n1 n2) c_q7 = false := (Q.holds'_iff _ _ _).1 (by
                simp only [c_q7, Q.holds', D.nat, E.n, E.den, BO.den, UO.den, D.toInt_int, E.i, and_true, om_0, om_10, om_20, Int.toNat_natCast]
                all_goals (omega))
              have p7 := (Q.holds'_iff _ _ _).2 h7
              try (
                simp only [c_q7, Q.holds', D.nat, E.n, E.den, BO.den, UO.den, D.toInt_int, E.i, and_true, om_0, om_10, om_20, Int.toNat_natCast] at p7)
              have h8 : Q.val (om n0 n1 n2) c_q8 = false := (Q.holds'_iff _ _ _).1 (by
                simp only [c_q8, Q.holds', D.nat, E.n, E.den, BO.den, UO.den, D.toInt_int, E.i, and_true, om_0, om_10, om_20, Int.toNat_natCast]
                all_goals (omega))
              have p8 := (Q.holds'_iff _ _ _).2 h8
              try (
                simp only [c_q8, Q.holds', D.nat, E.n, E.den, BO.den, UO.den, D.toInt_int, E.i, and_true, om_0, om_10, om_20, Int.toNat_natCast] at p8)
              exact calls_of_yesV sound tab_ok specs_ok overs_ok c_y9 rfl (tellA_ok (told_cons h0 (told_cons h1 (told_cons h2 (told_cons h3 (told_cons h4 (told_cons h5 (told_cons h6 (told_cons h7 (told_cons h8 told_nil)))))))))) r0 hargs
            · have p6 := (Q.holds'_iff _ _ _).2 h6
              simp only [c_q3, Q.holds', D.nat, E.n, E.den, BO.den, UO.den, D.toInt_int, E.i, and_true, om_0, om_10, om_20, Int.toNat_natCast] at p6
              have h7 : Q.val (om n0 n1 n2) c_q7 = false := (Q.holds'_iff _ _ _).1 (by
                simp only [c_q7, Q.holds', D.nat, E.n, E.den, BO.den, UO.den, D.toInt_int, E.i, and_true, om_0, om_10, om_20, Int.toNat_natCast]
                all_goals (omega))
              have p7 := (Q.holds'_iff _ _ _).2 h7
              try (
                simp only [c_q7, Q.holds', D.nat, E.n, E.den, BO.den, UO.den, D.toInt_int, E.i, and_true, om_0, om_10, om_20, Int.toNat_natCast] at p7)
              have h8 : Q.val (om n0 n1 n2) c_q8 = false := (Q.holds'_iff _ _ _).1 (by
                simp only [c_q8, Q.holds', D.nat, E.n, E.den, BO.den, UO.den, D.toInt_int, E.i, and_true, om_0, om_10, om_20, Int.toNat_natCast]
                all_goals (omega))
              have p8 := (Q.holds'_iff _ _ _).2 h8
              try (
                simp only [c_q8, Q.holds', D.nat, E.n, E.den, BO.den, UO.den, D.toInt_int, E.i, and_true, om_0, om_10, om_20, Int.toNat_natCast] at p8)
              exact calls_of_yesV sound tab_ok specs_ok overs_ok c_y11 rfl (tellA_ok (told_cons h0 (told_cons h1 (told_cons h2 (told_cons h3 (told_cons h4 (told_cons h5 (told_cons h6 (told_cons h7 (told_cons h8 told_nil)))))))))) r0 hargs
          · have p5 := (Q.holds'_iff _ _ _).2 h5
            simp only [c_q2, Q.holds', D.nat, E.n, E.den, BO.den, UO.den, D.toInt_int, E.i, and_true, om_0, om_10, om_20, Int.toNat_natCast] at p5
            cases h6 : Q.val (om n0 n1 n2) c_q3
            · have p6 := (Q.holds'_iff _ _ _).2 h6
              simp only [c_q3, Q.holds', D.nat, E.n, E.den, BO.den, UO.den, D.toInt_int, E.i, and_true, om_0, om_10, om_20, Int.toNat_natCast] at p6
              have h7 : Q.val (om n0 n1 n2) c_q9 = true := (Q.holds'_iff _ _ _).1 (by
                simp only [c_q9, Q.holds', D.nat, E.n, E.den, BO.den, UO.den, D.toInt_int, E.i, and_true, om_0, om_10, om_20, Int.toNat_natCast]
                all_goals (omega))
              have p7 := (Q.holds'_iff _ _ _).2 h7
              try (
                simp only [c_q9, Q.holds', D.nat, E.n, E.den, BO.den, UO.den, D.toInt_int, E.i, and_true, om_0, om_10, om_20, Int.toNat_natCast] at p7)
              have h8 : Q.val (om n0 n1 n2) c_q10 = false := (Q.holds'_iff _ _ _).1 (by
                simp only [c_q10, Q.holds', D.nat, E.n, E.den, BO.den, UO.den, D.toInt_int, E.i, and_true, om_0, om_10, om_20, Int.toNat_natCast]
                all_goals (omega))
              have p8 := (Q.holds'_iff _ _ _).2 h8
              try (
                simp only [c_q10, Q.holds', D.nat, E.n, E.den, BO.den, UO.den, D.toInt_int, E.i, and_true, om_0, om_10, om_20, Int.toNat_natCast] at p8)
              have h9 : Q.val (om n0 n1 n2) c_q27 = false := (Q.holds'_iff _ _ _).1 (by
                simp only [c_q27, Q.holds', D.nat, E.n, E.den, BO.den, UO.den, D.toInt_int, E.i, and_true, om_0, om_10, om_20, Int.toNat_natCast]
                all_goals (omega))
              have p9 := (Q.holds'_iff _ _ _).2 h9
              try (
                simp only [c_q27, Q.holds', D.nat, E.n, E.den, BO.den, UO.den, D.toInt_int, E.i, and_true, om_0, om_10, om_20, Int.toNat_natCast] at p9)
              have h10 : Q.val (om n0 n1 n2) c_q28 = false := (Q.holds'_iff _ _ _).1 (by
                simp only [c_q28, Q.holds', D.nat, E.n, E.den, BO.den, UO.den, D.toInt_int, E.i, and_true, om_0, om_10, om_20, Int.toNat_natCast]
                all_goals (omega))
              have p10 := (Q.holds'_iff _ _ _).2 h10
              try (
                simp only [c_q28, Q.holds', D.nat, E.n, E.den, BO.den, UO.den, D.toInt_int, E.i, and_true, om_0, om_10, om_20, Int.toNat_natCast] at p10)
              exact calls_of_yesV sound tab_ok specs_ok overs_ok c_y16 rfl (tellA_ok (told_cons h0 (told_cons h1 (told_cons h2 (told_cons h3 (told_cons h4 (told_cons h5 (told_cons h6 (told_cons h7 (told_cons h8 (told_cons h9 (told_cons h10 told_nil)))))))))))) r0 hargs
            · have p6 := (Q.holds'_iff _ _ _).2 h6
              simp only [c_q3, Q.holds', D.nat, E.n, E.den, BO.den, UO.den, D.toInt_int, E.i, and_true, om_0, om_10, om_20, Int.toNat_natCast] at p6
              cases h7 : Q.val (om n0 n1 n2) c_q9
              · have p7 := (Q.holds'_iff _ _ _).2 h7
                simp only [c_q9, Q.holds', D.nat, E.n, E.den, BO.den, UO.den, D.toInt_int, E.i, and_true, om_0, om_10, om_20, Int.toNat_natCast] at p7
                have h8 : Q.val (om n0 n1 n2) c_q10 = true := (Q.holds'_iff _ _ _).1 (by
                  simp only [c_q10, Q.holds', D.nat, E.n, E.den, BO.den, UO.den, D.toInt_int, E.i, and_true, om_0, om_10, om_20, Int.toNat_natCast]
                  all_goals (have e2 := Ha (); omega))
                have p8 := (Q.holds'_iff _ _ _).2 h8
                try (
                  simp only [c_q10, Q.holds', D.nat, E.n, E.den, BO.den, UO.den, D.toInt_int, E.i, and_true, om_0, om_10, om_20, Int.toNat_natCast] at p8)
                cases h9 : Q.val (om n0 n1 n2) c_q11
                · have p9 := (Q.holds'_iff _ _ _).2 h9
                  simp only [c_q11, Q.holds', D.nat, E.n, E.den, BO.den, UO.den, D.toInt_int, E.i, and_true, om_0, om_10, om_20, Int.toNat_natCast] at p9
                  have h10 : Q.val (om n0 n1 n2) c_q12 = true := (Q.holds'_iff _ _ _).1 (by
                    simp only [c_q12, Q.holds', D.nat, E.n, E.den, BO.den, UO.den, D.toInt_int, E.i, and_true, om_0, om_10, om_20, Int.toNat_natCast]
                    all_goals (have e2 := Ha (); omega))
                  have p10 := (Q.holds'_iff _ _ _).2 h10
                  try (
                    simp only [c_q12, Q.holds', D.nat, E.n, E.den, BO.den, UO.den, D.toInt_int, E.i, and_true, om_0, om_10, om_20, Int.toNat_natCast] at p10)
                  have h11 : Q.val (om n0 n1 n2) c_q13 = true := (Q.holds'_iff _ _ _).1 (by
                    simp only [c_q13, Q.holds', D.nat, E.n, E.den, BO.den, UO.den, D.toInt_int, E.i, and_true, om_0, om_10, om_20, Int.toNat_natCast]
                    all_goals (have v := j2 (by omega) (by omega) (by omega); simp only [AsMuch] at v; omega))
                  have p11 := (Q.holds'_iff _ _ _).2 h11
                  try (
                    simp only [c_q13, Q.holds', D.nat, E.n, E.den, BO.den, UO.den, D.toInt_int, E.i, and_true, om_0, om_10, om_20, Int.toNat_natCast] at p11)
                  have h12 : Q.val (om n0 n1 n2) c_q14 = true := (Q.holds'_iff _ _ _).1 (by
                    simp only [c_q14, Q.holds', D.nat, E.n, E.den, BO.den, UO.den, D.toInt_int, E.i, and_true, om_0, om_10, om_20, Int.toNat_natCast]
                    all_goals (have e1 := Hs (); omega))
                  have p12 := (Q.holds'_iff _ _ _).2 h12
                  try (
                    simp only [c_q14, Q.holds', D.nat, E.n, E.den, BO.den, UO.den, D.toInt_int, E.i, and_true, om_0, om_10, om_20, Int.toNat_natCast] at p12)
                  have h13 : Q.val (om n0 n1 n2) c_q15 = false := (Q.holds'_iff _ _ _).1 (by
                    simp only [c_q15, Q.holds', D.nat, E.n, E.den, BO.den, UO.den, D.toInt_int, E.i, and_true, om_0, om_10, om_20, Int.toNat_natCast]
                    all_goals (have v := j2 (by omega) (by omega) (by omega); simp only [AsMuch] at v; omega))
                  have p13 := (Q.holds'_iff _ _ _).2 h13
                  try (
                    simp only [c_q15, Q.holds', D.nat, E.n, E.den, BO.den, UO.den, D.toInt_int, E.i, and_true, om_0, om_10, om_20, Int.toNat_natCast] at p13)
                  have h14 : Q.val (om n0 n1 n2) c_q23 = true := (Q.holds'_iff _ _ _).1 (by
                    simp only [c_q23, Q.holds', D.nat, E.n, E.den, BO.den, UO.den, D.toInt_int, E.i, and_true, om_0, om_10, om_20, Int.toNat_natCast]
                    all_goals (have v := j2 (by omega) (by omega) (by omega); simp only [AsMuch] at v; omega))
                  have p14 := (Q.holds'_iff _ _ _).2 h14
                  try (
                    simp only [c_q23, Q.holds', D.nat, E.n, E.den, BO.den, UO.den, D.toInt_int, E.i, and_true, om_0, om_10, om_20, Int.toNat_natCast] at p14)
                  have h15 : Q.val (om n0 n1 n2) c_q16 = true := (Q.holds'_iff _ _ _).1 (by
                    simp only [c_q16, Q.holds', D.nat, E.n, E.den, BO.den, UO.den, D.toInt_int, E.i, and_true, om_0, om_10, om_20, Int.toNat_natCast]
                    all_goals (have e0 := H0 (); omega))
                  have p15 := (Q.holds'_iff _ _ _).2 h15
                  try (
                    simp only [c_q16, Q.holds', D.nat, E.n, E.den, BO.den, UO.den, D.toInt_int, E.i, and_true, om_0, om_10, om_20, Int.toNat_natCast] at p15)
                  have h16 : Q.val (om n0 n1 n2) c_q17 = true := (Q.holds'_iff _ _ _).1 (by
                    simp only [c_q17, Q.holds', D.nat, E.n, E.den, BO.den, UO.den, D.toInt_int, E.i, and_true, om_0, om_10, om_20, Int.toNat_natCast]
                    all_goals (have v2 := j3 (by omega) (by omega) (by omega); simp only [AsMuch] at v2; omega))
                  have p16 := (Q.holds'_iff _ _ _).2 h16
                  try (
                    simp only [c_q17, Q.holds', D.nat, E.n, E.den, BO.den, UO.den, D.toInt_int, E.i, and_true, om_0, om_10, om_20, Int.toNat_natCast] at p16)
                  have h17 : Q.val (om n0 n1 n2) c_q18 = true := (Q.holds'_iff _ _ _).1 (by
                    simp only [c_q18, Q.holds', D.nat, E.n, E.den, BO.den, UO.den, D.toInt_int, E.i, and_true, om_0, om_10, om_20, Int.toNat_natCast]
                    all_goals (have e1 := Hs (); omega))
                  have p17 := (Q.holds'_iff _ _ _).2 h17
                  try (
                    simp only [c_q18, Q.holds', D.nat, E.n, E.den, BO.den, UO.den, D.toInt_int, E.i, and_true, om_0, om_10, om_20, Int.toNat_natCast] at p17)
                  have h18 : Q.val (om n0 n1 n2) c_q19 = false := (Q.holds'_iff _ _ _).1 (by
                    simp only [c_q19, Q.holds', D.nat, E.n, E.den, BO.den, UO.den, D.toInt_int, E.i, and_true, om_0, om_10, om_20, Int.toNat_natCast]
                    all_goals (have v2 := j3 (by omega) (by omega) (by omega); simp only [AsMuch] at v2; omega))
                  have p18 := (Q.holds'_iff _ _ _).2 h18
                  try (
                    simp only [c_q19, Q.holds', D.nat, E.n, E.den, BO.den, UO.den, D.toInt_int, E.i, and_true, om_0, om_10, om_20, Int.toNat_natCast] at p18)
                  have h19 : Q.val (om n0 n1 n2) c_q24 = true := (Q.holds'_iff _ _ _).1 (by
                    simp only [c_q24, Q.holds', D.nat, E.n, E.den, BO.den, UO.den, D.toInt_int, E.i, and_true, om_0, om_10, om_20, Int.toNat_natCast]
                    all_goals (have v2 := j3 (by omega) (by omega) (by omega); simp only [AsMuch] at v2; omega))
                  have p19 := (Q.holds'_iff _ _ _).2 h19
                  try (
                    simp only [c_q24, Q.holds', D.nat, E.n, E.den, BO.den, UO.den, D.toInt_int, E.i, and_true, om_0, om_10, om_20, Int.toNat_natCast] at p19)
                  cases h20 : Q.val (om n0 n1 n2) c_q25
                  · have p20 := (Q.holds'_iff _ _ _).2 h20
                    simp only [c_q25, Q.holds', D.nat, E.n, E.den, BO.den, UO.den, D.toInt_int, E.i, and_true, om_0, om_10, om_20, Int.toNat_natCast] at p20
                    cases h21 : Q.val (om n0 n1 n2) c_q26
                    · have p21 := (Q.holds'_iff _ _ _).2 h21
                      simp only [c_q26, Q.holds', D.nat, E.n, E.den, BO.den, UO.den, D.toInt_int, E.i, and_true, om_0, om_10, om_20, Int.toNat_natCast] at p21
                      have h22 : Q.val (om n0 n1 n2) c_q43 = true := (Q.holds'_iff _ _ _).1 (by
                        simp only [c_q43, Q.holds', D.nat, E.n, E.den, BO.den, UO.den, D.toInt_int, E.i, and_true, om_0, om_10, om_20, Int.toNat_natCast]
                        all_goals (have w := k12 (by omega); simp only [Waited, UO.den, D.toInt_int] at w; have e3 := Hl (); omega))
                      have p22 := (Q.holds'_iff _ _ _).2 h22
                      try (
                        simp only [c_q43, Q.holds', D.nat, E.n, E.den, BO.den, UO.den, D.toInt_int, E.i, and_true, om_0, om_10, om_20, Int.toNat_natCast] at p22)
                      exact calls_of_yesV sound tab_ok specs_ok overs_ok c_y48 rfl (tellA_ok (told_cons h0 (told_cons h1 (told_cons h2 (told_cons h3 (told_cons h4 (told_cons h5 (told_cons h6 (told_cons h7 (told_cons h8 (told_cons h9 (told_cons h10 (told_cons h11 (told_cons h12 (told_cons h13 (told_cons h14 (told_cons h15 (told_cons h16 (told_cons h17 (told_cons h18 (told_cons h19 (told_cons h20 (told_cons h21 (told_cons h22 told_nil)))))))))))))))))))))))) r0 hargs
                    · have p21 := (Q.holds'_iff _ _ _).2 h21
                      simp only [c_q26, Q.holds', D.nat, E.n, E.den, BO.den, UO.den, D.toInt_int, E.i, and_true, om_0, om_10, om_20, Int.toNat_natCast] at p21
                      exact calls_of_yesV sound tab_ok specs_ok overs_ok c_y33 rfl (tellA_ok (told_cons h0 (told_cons h1 (told_cons h2 (told_cons h3 (told_cons h4 (told_cons h5 (told_cons h6 (told_cons h7 (told_cons h8 (told_cons h9 (told_cons h10 (told_cons h11 (told_cons h12 (told_cons h13 (told_cons h14 (told_cons h15 (told_cons h16 (told_cons h17 (told_cons h18 (told_cons h19 (told_cons h20 (told_cons h21 told_nil))))))))))))))))))))))) r0 hargs
                  · have p20 := (Q.holds'_iff _ _ _).2 h20
                    simp only [c_q25, Q.holds', D.nat, E.n, E.den, BO.den, UO.den, D.toInt_int, E.i, and_true, om_0, om_10, om_20, Int.toNat_natCast] at p20
                    cases h21 : Q.val (om n0 n1 n2) c_q26
                    · have p21 := (Q.holds'_iff _ _ _).2 h21
                      simp only [c_q26, Q.holds', D.nat, E.n, E.den, BO.den, UO.den, D.toInt_int, E.i, and_true, om_0, om_10, om_20, Int.toNat_natCast] at p21
                      exact calls_of_yesV sound tab_ok specs_ok overs_ok c_y10 rfl (tellA_ok (told_cons h0 (told_cons h1 (told_cons h2 (told_cons h3 (told_cons h4 (told_cons h5 (told_cons h6 (told_cons h7 (told_cons h8 (told_cons h9 (told_cons h10 (told_cons h11 (told_cons h12 (told_cons h13 (told_cons h14 (told_cons h15 (told_cons h16 (told_cons h17 (told_cons h18 (told_cons h19 (told_cons h20 (told_cons h21 told_nil))))))))))))))))))))))) r0 hargs
                    · have p21 := (Q.holds'_iff _ _ _).2 h21
                      simp only [c_q26, Q.holds', D.nat, E.n, E.den, BO.den, UO.den, D.toInt_int, E.i, and_true, om_0, om_10, om_20, Int.toNat_natCast] at p21
                      exact calls_of_yesV sound tab_ok specs_ok overs_ok c_y96 rfl (tellA_ok (told_cons h0 (told_cons h1 (told_cons h2 (told_cons h3 (told_cons h4 (told_cons h5 (told_cons h6 (told_cons h7 (told_cons h8 (told_cons h9 (told_cons h10 (told_cons h11 (told_cons h12 (told_cons h13 (told_cons h14 (told_cons h15 (told_cons h16 (told_cons h17 (told_cons h18 (told_cons h19 (told_cons h20 (told_cons h21 told_nil))))))))))))))))))))))) r0 hargs
                · have p9 := (Q.holds'_iff _ _ _).2 h9
                  simp only [c_q11, Q.holds', D.nat, E.n, E.den, BO.den, UO.den, D.toInt_int, E.i, and_true, om_0, om_10, om_20, Int.toNat_natCast] at p9
                  have h10 : Q.val (om n0 n1 n2) c_q12 = false := (Q.holds'_iff _ _ _).1 (by
                    simp only [c_q12, Q.holds', D.nat, E.n, E.den, BO.den, UO.den, D.toInt_int, E.i, and_true, om_0, om_10, om_20, Int.toNat_natCast]
                    all_goals (omega))
                  have p10 := (Q.holds'_iff _ _ _).2 h10
                  try (
                    simp only [c_q12, Q.holds', D.nat, E.n, E.den, BO.den, UO.den, D.toInt_int, E.i, and_true, om_0, om_10, om_20, Int.toNat_natCast] at p10)
                  have h11 : Q.val (om n0 n1 n2) c_q13 = true := (Q.holds'_iff _ _ _).1 (by
                    simp only [c_q13, Q.holds', D.nat, E.n, E.den, BO.den, UO.den, D.toInt_int, E.i, and_true, om_0, om_10, om_20, Int.toNat_natCast]
                    all_goals (have v := j2 (by omega) (by omega) (by omega); simp only [AsMuch] at v; omega))
                  have p11 := (Q.holds'_iff _ _ _).2 h11
                  try (
                    simp only [c_q13, Q.holds', D.nat, E.n, E.den, BO.den, UO.den, D.toInt_int, E.i, and_true, om_0, om_10, om_20, Int.toNat_natCast] at p11)
                  have h12 : Q.val (om n0 n1 n2) c_q14 = true := (Q.holds'_iff _ _ _).1 (by
                    simp only [c_q14, Q.holds', D.nat, E.n, E.den, BO.den, UO.den, D.toInt_int, E.i, and_true, om_0, om_10, om_20, Int.toNat_natCast]
                    all_goals (have e1 := Hs (); omega))
                  have p12 := (Q.holds'_iff _ _ _).2 h12
                  try (
                    simp only [c_q14, Q.holds', D.nat, E.n, E.den, BO.den, UO.den, D.toInt_int, E.i, and_true, om_0, om_10, om_20, Int.toNat_natCast] at p12)
                  have h13 : Q.val (om n0 n1 n2) c_q15 = false := (Q.holds'_iff _ _ _).1 (by
                    simp only [c_q15, Q.holds', D.nat, E.n, E.den, BO.den, UO.den, D.toInt_int, E.i, and_true, om_0, om_10, om_20, Int.toNat_natCast]
                    all_goals (have v := j2 (by omega) (by omega) (by omega); simp only [AsMuch] at v; omega))
                  have p13 := (Q.holds'_iff _ _ _).2 h13
                  try (
                    simp only [c_q15, Q.holds', D.nat, E.n, E.den, BO.den, UO.den, D.toInt_int, E.i, and_true, om_0, om_10, om_20, Int.toNat_natCast] at p13)
                  have h14 : Q.val (om n0 n1 n2) c_q23 = true := (Q.holds'_iff _ _ _).1 (by
                    simp only [c_q23, Q.holds', D.nat, E.n, E.den, BO.den, UO.den, D.toInt_int, E.i, and_true, om_0, om_10, om_20, Int.toNat_natCast]
                    all_goals (have v := j2 (by omega) (by omega) (by omega); simp only [AsMuch] at v; omega))
                  have p14 := (Q.holds'_iff _ _ _).2 h14
                  try (
                    simp only [c_q23, Q.holds', D.nat, E.n, E.den, BO.den, UO.den, D.toInt_int, E.i, and_true, om_0, om_10, om_20, Int.toNat_natCast] at p14)
                  have h15 : Q.val (om n0 n1 n2) c_q16 = true := (Q.holds'_iff _ _ _).1 (by
                    simp only [c_q16, Q.holds', D.nat, E.n, E.den, BO.den, UO.den, D.toInt_int, E.i, and_true, om_0, om_10, om_20, Int.toNat_natCast]
                    all_goals (have e0 := H0 (); omega))
                  have p15 := (Q.holds'_iff _ _ _).2 h15
                  try (
                    simp only [c_q16, Q.holds', D.nat, E.n, E.den, BO.den, UO.den, D.toInt_int, E.i, and_true, om_0, om_10, om_20, Int.toNat_natCast] at p15)
                  cases h16 : Q.val (om n0 n1 n2) c_q17
                  · have p16 := (Q.holds'_iff _ _ _).2 h16
                    simp only [c_q17, Q.holds', D.nat, E.n, E.den, BO.den, UO.den, D.toInt_int, E.i, and_true, om_0, om_10, om_20, Int.toNat_natCast] at p16
                    cases h17 : Q.val (om n0 n1 n2) c_q25
                    · have p17 := (Q.holds'_iff _ _ _).2 h17
                      simp only [c_q25, Q.holds', D.nat, E.n, E.den, BO.den, UO.den, D.toInt_int, E.i, and_true, om_0, om_10, om_20, Int.toNat_natCast] at p17
                      cases h18 : Q.val (om n0 n1 n2) c_q26
                      · have p18 := (Q.holds'_iff _ _ _).2 h18
                        simp only [c_q26, Q.holds', D.nat, E.n, E.den, BO.den, UO.den, D.toInt_int, E.i, and_true, om_0, om_10, om_20, Int.toNat_natCast] at p18
                        have h19 : Q.val (om n0 n1 n2) c_q43 = true := (Q.holds'_iff _ _ _).1 (by
                          simp only [c_q43, Q.holds', D.nat, E.n, E.den, BO.den, UO.den, D.toInt_int, E.i, and_true, om_0, om_10, om_20, Int.toNat_natCast]
                          all_goals (omega))
                        have p19 := (Q.holds'_iff _ _ _).2 h19
                        try (
                          simp only [c_q43, Q.holds', D.nat, E.n, E.den, BO.den, UO.den, D.toInt_int, E.i, and_true, om_0, om_10, om_20, Int.toNat_natCast] at p19)
                        exact calls_of_yesV sound tab_ok specs_ok overs_ok c_y119 rfl (tellA_ok (told_cons h0 (told_cons h1 (told_cons h2 (told_cons h3 (told_cons h4 (told_cons h5 (told_cons h6 (told_cons h7 (told_cons h8 (told_cons h9 (told_cons h10 (told_cons h11 (told_cons h12 (told_cons h13 (told_cons h14 (told_cons h15 (told_cons h16 (told_cons h17 (told_cons h18 (told_cons h19 told_nil))))))))))))))))))))) r0 hargs
                      · have p18 := (Q.holds'_iff _ _ _).2 h18
                        simp only [c_q26, Q.holds', D.nat, E.n, E.den, BO.den, UO.den, D.toInt_int, E.i, and_true, om_0, om_10, om_20, Int.toNat_natCast] at p18
                        exact calls_of_yesV sound tab_ok specs_ok overs_ok c_y127 rfl (tellA_ok (told_cons h0 (told_cons h1 (told_cons h2 (told_cons h3 (told_cons h4 (told_cons h5 (told_cons h6 (told_cons h7 (told_cons h8 (told_cons h9 (told_cons h10 (told_cons h11 (told_cons h12 (told_cons h13 (told_cons h14 (told_cons h15 (told_cons h16 (told_cons h17 (told_cons h18 told_nil)))))))))))))))))))) r0 hargs
                    · have p17 := (Q.holds'_iff _ _ _).2 h17
                      simp only [c_q25, Q.holds', D.nat, E.n, E.den, BO.den, UO.den, D.toInt_int, E.i, and_true, om_0, om_10, om_20, Int.toNat_natCast] at p17
                      cases h18 : Q.val (om n0 n1 n2) c_q26
                      · have p18 := (Q.holds'_iff _ _ _).2 h18
                        simp only [c_q26, Q.holds', D.nat, E.n, E.den, BO.den, UO.den, D.toInt_int, E.i, and_true, om_0, om_10, om_20, Int.toNat_natCast] at p18
                        exact calls_of_yesV sound tab_ok specs_ok overs_ok c_y13 rfl (tellA_ok (told_cons h0 (told_cons h1 (told_cons h2 (told_cons h3 (told_cons h4 (told_cons h5 (told_cons h6 (told_cons h7 (told_cons h8 (told_cons h9 (told_cons h10 (told_cons h11 (told_cons h12 (told_cons h13 (told_cons h14 (told_cons h15 (told_cons h16 (told_cons h17 (told_cons h18 told_nil)))))))))))))))))))) r0 hargs
                      · have p18 := (Q.holds'_iff _ _ _).2 h18
                        simp only [c_q26, Q.holds', D.nat, E.n, E.den, BO.den, UO.den, D.toInt_int, E.i, and_true, om_0, om_10, om_20, Int.toNat_natCast] at p18
                        exact calls_of_yesV sound tab_ok specs_ok overs_ok c_y97 rfl (tellA_ok (told_cons h0 (told_cons h1 (told_cons h2 (told_cons h3 (told_cons h4 (told_cons h5 (told_cons h6 (told_cons h7 (told_cons h8 (told_cons h9 (told_cons h10 (told_cons h11 (told_cons h12 (told_cons h13 (told_cons h14 (told_cons h15 (told_cons h16 (told_cons h17 (told_cons h18 told_nil)))))))))))))))))))) r0 hargs
                  · have p16 := (Q.holds'_iff _ _ _).2 h16
                    simp only [c_q17, Q.holds', D.nat, E.n, E.den, BO.den, UO.den, D.toInt_int, E.i, and_true, om_0, om_10, om_20, Int.toNat_natCast] at p16
                    have h17 : Q.val (om n0 n1 n2) c_q18 = true := (Q.holds'_iff _ _ _).1 (by
                      simp only [c_q18, Q.holds', D.nat, E.n, E.den, BO.den, UO.den, D.toInt_int, E.i, and_true, om_0, om_10, om_20, Int.toNat_natCast]
                      all_goals (have e1 := Hs (); omega))
                    have p17 := (Q.holds'_iff _ _ _).2 h17
                    try (
                      simp only [c_q18, Q.holds', D.nat, E.n, E.den, BO.den, UO.den, D.toInt_int, E.i, and_true, om_0, om_10, om_20, Int.toNat_natCast] at p17)
                    cases h18 : Q.val (om n0 n1 n2) c_q19
                    · have p18 := (Q.holds'_iff _ _ _).2 h18
                      simp only [c_q19, Q.holds', D.nat, E.n, E.den, BO.den, UO.den, D.toInt_int, E.i, and_true, om_0, om_10, om_20, Int.toNat_natCast] at p18
                      cases h19 : Q.val (om n0 n1 n2) c_q24
                      · have p19 := (Q.holds'_iff _ _ _).2 h19
                        simp only [c_q24, Q.holds', D.nat, E.n, E.den, BO.den, UO.den, D.toInt_int, E.i, and_true, om_0, om_10, om_20, Int.toNat_natCast] at p19
                        have h20 : Q.val (om n0 n1 n2) c_q29 = true := (Q.holds'_iff _ _ _).1 (by
                          simp only [c_q29, Q.holds', D.nat, E.n, E.den, BO.den, UO.den, D.toInt_int, E.i, and_true, om_0, om_10, om_20, Int.toNat_natCast]
                          all_goals (have w3 := k14 (by omega); simp only [Waited, UO.den, D.toInt_int] at w3; omega))
                        have p20 := (Q.holds'_iff _ _ _).2 h20
                        try (
                          simp only [c_q29, Q.holds', D.nat, E.n, E.den, BO.den, UO.den, D.toInt_int, E.i, and_true, om_0, om_10, om_20, Int.toNat_natCast] at p20)
                        have h21 : Q.val (om n0 n1 n2) c_q30 = true := (Q.holds'_iff _ _ _).1 (by
                          simp only [c_q30, Q.holds', D.nat, E.n, E.den, BO.den, UO.den, D.toInt_int, E.i, and_true, om_0, om_10, om_20, Int.toNat_natCast, i64min, i64max, inK]
                          all_goals (have w3 := k14 (by omega); simp only [Waited, UO.den, D.toInt_int] at w3; omega))
                        have p21 := (Q.holds'_iff _ _ _).2 h21
                        try (
                          simp only [c_q30, Q.holds', D.nat, E.n, E.den, BO.den, UO.den, D.toInt_int, E.i, and_true, om_0, om_10, om_20, Int.toNat_natCast, i64min, i64max, inK] at p21)
                        have h22 : Q.val (om n0 n1 n2) c_q31 = true := (Q.holds'_iff _ _ _).1 (by
                          simp only [c_q31, Q.holds', D.nat, E.n, E.den, BO.den, UO.den, D.toInt_int, E.i, and_true, om_0, om_10, om_20, Int.toNat_natCast]
                          all_goals (have w3 := k14 (by omega); simp only [Waited, UO.den, D.toInt_int] at w3; omega))
                        have p22 := (Q.holds'_iff _ _ _).2 h22
                        try (
                          simp only [c_q31, Q.holds', D.nat, E.n, E.den, BO.den, UO.den, D.toInt_int, E.i, and_true, om_0, om_10, om_20, Int.toNat_natCast] at p22)
                        cases h23 : Q.val (om n0 n1 n2) c_q25
                        · have p23 := (Q.holds'_iff _ _ _).2 h23
                          simp only [c_q25, Q.holds', D.nat, E.n, E.den, BO.den, UO.den, D.toInt_int, E.i, and_true, om_0, om_10, om_20, Int.toNat_natCast] at p23
                          cases h24 : Q.val (om n0 n1 n2) c_q26
                          · have p24 := (Q.holds'_iff _ _ _).2 h24
                            simp only [c_q26, Q.holds', D.nat, E.n, E.den, BO.den, UO.den, D.toInt_int, E.i, and_true, om_0, om_10, om_20, Int.toNat_natCast] at p24
                            have h25 : Q.val (om n0 n1 n2) c_q43 = true := (Q.holds'_iff _ _ _).1 (by
                              simp only [c_q43, Q.holds', D.nat, E.n, E.den, BO.den, UO.den, D.toInt_int, E.i, and_true, om_0, om_10, om_20, Int.toNat_natCast]
                              all_goals (have w := k12 (by omega); simp only [Waited, UO.den, D.toInt_int] at w; have e3 := Hl (); omega))
                            have p25 := (Q.holds'_iff _ _ _).2 h25
                            try (
                              simp only [c_q43, Q.holds', D.nat, E.n, E.den, BO.den, UO.den, D.toInt_int, E.i, and_true, om_0, om_10, om_20, Int.toNat_natCast] at p25)
                            exact calls_of_yesV sound tab_ok specs_ok overs_ok c_y80 rfl (tellA_ok (told_cons h0 (told_cons h1 (told_cons h2 (told_cons h3 (told_cons h4 (told_cons h5 (told_cons h6 (told_cons h7 (told_cons h8 (told_cons h9 (told_cons h10 (told_cons h11 (told_cons h12 (told_cons h13 (told_cons h14 (told_cons h15 (told_cons h16 (told_cons h17 (told_cons h18 (told_cons h19 (told_cons h20 (told_cons h21 (told_cons h22 (told_cons h23 (told_cons h24 (told_cons h25 told_nil))))))))))))))))))))))))))) r0 hargs
                          · have p24 := (Q.holds'_iff _ _ _).2 h24
                            simp only [c_q26, Q.holds', D.nat, E.n, E.den, BO.den, UO.den, D.toInt_int, E.i, and_true, om_0, om_10, om_20, Int.toNat_natCast] at p24
                            exact calls_of_yesV sound tab_ok specs_ok overs_ok c_y84 rfl (tellA_ok (told_cons h0 (told_cons h1 (told_cons h2 (told_cons h3 (told_cons h4 (told_cons h5 (told_cons h6 (told_cons h7 (told_cons h8 (told_cons h9 (told_cons h10 (told_cons h11 (told_cons h12 (told_cons h13 (told_cons h14 (told_cons h15 (told_cons h16 (told_cons h17 (told_cons h18 (told_cons h19 (told_cons h20 (told_cons h21 (told_cons h22 (told_cons h23 (told_cons h24 told_nil)))))))))))))))))))))))))) r0 hargs
                        · have p23 := (Q.holds'_iff _ _ _).2 h23
                          simp only [c_q25, Q.holds', D.nat, E.n, E.den, BO.den, UO.den, D.toInt_int, E.i, and_true, om_0, om_10, om_20, Int.toNat_natCast] at p23
                          cases h24 : Q.val (om n0 n1 n2) c_q26
                          · have p24 := (Q.holds'_iff _ _ _).2 h24
                            simp only [c_q26, Q.holds', D.nat, E.n, E.den, BO.den, UO.den, D.toInt_int, E.i, and_true, om_0, om_10, om_20, Int.toNat_natCast] at p24
                            exact calls_of_yesV sound tab_ok specs_ok overs_ok c_y81 rfl (tellA_ok (told_cons h0 (told_cons h1 (told_cons h2 (told_cons h3 (told_cons h4 (told_cons h5 (told_cons h6 (told_cons h7 (told_cons h8 (told_cons h9 (told_cons h10 (told_cons h11 (told_cons h12 (told_cons h13 (told_cons h14 (told_cons h15 (told_cons h16 (told_cons h17 (told_cons h18 (told_cons h19 (told_cons h20 (told_cons h21 (told_cons h22 (told_cons h23 (told_cons h24 told_nil)))))))))))))))))))))))))) r0 hargs
                          · have p24 := (Q.holds'_iff _ _ _).2 h24
                            simp only [c_q26, Q.holds', D.nat, E.n, E.den, BO.den, UO.den, D.toInt_int, E.i, and_true, om_0, om_10, om_20, Int.toNat_natCast] at p24
                            exact calls_of_yesV sound tab_ok specs_ok overs_ok c_y98 rfl (tellA_ok (told_cons h0 (told_cons h1 (told_cons h2 (told_cons h3 (told_cons h4 (told_cons h5 (told_cons h6 (told_cons h7 (told_cons h8 (told_cons h9 (told_cons h10 (told_cons h11 (told_cons h12 (told_cons h13 (told_cons h14 (told_cons h15 (told_cons h16 (told_cons h17 (told_cons h18 (told_cons h19 (told_cons h20 (told_cons h21 (told_cons h22 (told_cons h23 (told_cons h24 told_nil)))))))))))))))))))))))))) r0 hargs
                      · have p19 := (Q.holds'_iff _ _ _).2 h19
                        simp only [c_q24, Q.holds', D.nat, E.n, E.den, BO.den, UO.den, D.toInt_int, E.i, and_true, om_0, om_10, om_20, Int.toNat_natCast] at p19
                        cases h20 : Q.val (om n0 n1 n2) c_q25
                        · have p20 := (Q.holds'_iff _ _ _).2 h20
                          simp only [c_q25, Q.holds', D.nat, E.n, E.den, BO.den, UO.den, D.toInt_int, E.i, and_true, om_0, om_10, om_20, Int.toNat_natCast] at p20
                          cases h21 : Q.val (om n0 n1 n2) c_q26
                          · have p21 := (Q.holds'_iff _ _ _).2 h21
                            simp only [c_q26, Q.holds', D.nat, E.n, E.den, BO.den, UO.den, D.toInt_int, E.i, and_true, om_0, om_10, om_20, Int.toNat_natCast] at p21
                            have h22 : Q.val (om n0 n1 n2) c_q43 = true := (Q.holds'_iff _ _ _).1 (by
                              simp only [c_q43, Q.holds', D.nat, E.n, E.den, BO.den, UO.den, D.toInt_int, E.i, and_true, om_0, om_10, om_20, Int.toNat_natCast]
                              all_goals (have w := k12 (by omega); simp only [Waited, UO.den, D.toInt_int] at w; have e3 := Hl (); omega))
                            have p22 := (Q.holds'_iff _ _ _).2 h22
                            try (
                              simp only [c_q43, Q.holds', D.nat, E.n, E.den, BO.den, UO.den, D.toInt_int, E.i, and_true, om_0, om_10, om_20, Int.toNat_natCast] at p22)
                            exact calls_of_yesV sound tab_ok specs_ok overs_ok c_y55 rfl (tellA_ok (told_cons h0 (told_cons h1 (told_cons h2 (told_cons h3 (told_cons h4 (told_cons h5 (told_cons h6 (told_cons h7 (told_cons h8 (told_cons h9 (told_cons h10 (told_cons h11 (told_cons h12 (told_cons h13 (told_cons h14 (told_cons h15 (told_cons h16 (told_cons h17 (told_cons h18 (told_cons h19 (told_cons h20 (told_cons h21 (told_cons h22 told_nil)))))))))))))))))))))))) r0 hargs
                          · have p21 := (Q.holds'_iff _ _ _).2 h21
                            simp only [c_q26, Q.holds', D.nat, E.n, E.den, BO.den, UO.den, D.toInt_int, E.i, and_true, om_0, om_10, om_20, Int.toNat_natCast] at p21
                            exact calls_of_yesV sound tab_ok specs_ok overs_ok c_y45 rfl (tellA_ok (told_cons h0 (told_cons h1 (told_cons h2 (told_cons h3 (told_cons h4 (told_cons h5 (told_cons h6 (told_cons h7 (told_cons h8 (told_cons h9 (told_cons h10 (told_cons h11 (told_cons h12 (told_cons h13 (told_cons h14 (told_cons h15 (told_cons h16 (told_cons h17 (told_cons h18 (told_cons h19 (told_cons h20 (told_cons h21 told_nil))))))))))))))))))))))) r0 hargs
                        · have p20 := (Q.holds'_iff _ _ _).2 h20
                          simp only [c_q25, Q.holds', D.nat, E.n, E.den, BO.den, UO.den, D.toInt_int, E.i, and_true, om_0, om_10, om_20, Int.toNat_natCast] at p20
                          cases h21 : Q.val (om n0 n1 n2) c_q26
                          · have p21 := (Q.holds'_iff _ _ _).2 h21
                            simp only [c_q26, Q.holds', D.nat, E.n, E.den, BO.den, UO.den, D.toInt_int, E.i, and_true, om_0, om_10, om_20, Int.toNat_natCast] at p21
                            exact calls_of_yesV sound tab_ok specs_ok overs_ok c_y12 rfl (tellA_ok (told_cons h0 (told_cons h1 (told_cons h2 (told_cons h3 (told_cons h4 (told_cons h5 (told_cons h6 (told_cons h7 (told_cons h8 (told_cons h9 (told_cons h10 (told_cons h11 (told_cons h12 (told_cons h13 (told_cons h14 (told_cons h15 (told_cons h16 (told_cons h17 (told_cons h18 (told_cons h19 (told_cons h20 (told_cons h21 told_nil))))))))))))))))))))))) r0 hargs
                          · have p21 := (Q.holds'_iff _ _ _).2 h21
                            simp only [c_q26, Q.holds', D.nat, E.n, E.den, BO.den, UO.den, D.toInt_int, E.i, and_true, om_0, om_10, om_20, Int.toNat_natCast] at p21
                            exact calls_of_yesV sound tab_ok specs_ok overs_ok c_y99 rfl (tellA_ok (told_cons h0 (told_cons h1 (told_cons h2 (told_cons h3 (told_cons h4 (told_cons h5 (told_cons h6 (told_cons h7 (told_cons h8 (told_cons h9 (told_cons h10 (told_cons h11 (told_cons h12 (told_cons h13 (told_cons h14 (told_cons h15 (told_cons h16 (told_cons h17 (told_cons h18 (told_cons h19 (told_cons h20 (told_cons h21 told_nil))))))))))))))))))))))) r0 hargs
                    · have p18 := (Q.holds'_iff _ _ _).2 h18
                      simp only [c_q19, Q.holds', D.nat, E.n, E.den, BO.den, UO.den, D.toInt_int, E.i, and_true, om_0, om_10, om_20, Int.toNat_natCast] at p18
                      cases h19 : Q.val (om n0 n1 n2) c_q25
                      · have p19 := (Q.holds'_iff _ _ _).2 h19
                        simp only [c_q25, Q.holds', D.nat, E.n, E.den, BO.den, UO.den, D.toInt_int, E.i, and_true, om_0, om_10, om_20, Int.toNat_natCast] at p19
                        cases h20 : Q.val (om n0 n1 n2) c_q26
                        · have p20 := (Q.holds'_iff _ _ _).2 h20
                          simp only [c_q26, Q.holds', D.nat, E.n, E.den, BO.den, UO.den, D.toInt_int, E.i, and_true, om_0, om_10, om_20, Int.toNat_natCast] at p20
                          have h21 : Q.val (om n0 n1 n2) c_q43 = true := (Q.holds'_iff _ _ _).1 (by
                            simp only [c_q43, Q.holds', D.nat, E.n, E.den, BO.den, UO.den, D.toInt_int, E.i, and_true, om_0, om_10, om_20, Int.toNat_natCast]
                            all_goals (have w := k12 (by omega); simp only [Waited, UO.den, D.toInt_int] at w; have e3 := Hl (); omega))
                          have p21 := (Q.holds'_iff _ _ _).2 h21
                          try (
                            simp only [c_q43, Q.holds', D.nat, E.n, E.den, BO.den, UO.den, D.toInt_int, E.i, and_true, om_0, om_10, om_20, Int.toNat_natCast] at p21)
                          exact calls_of_yesV sound tab_ok specs_ok overs_ok c_y79 rfl (tellA_ok (told_cons h0 (told_cons h1 (told_cons h2 (told_cons h3 (told_cons h4 (told_cons h5 (told_cons h6 (told_cons h7 (told_cons h8 (told_cons h9 (told_cons h10 (told_cons h11 (told_cons h12 (told_cons h13 (told_cons h14 (told_cons h15 (told_cons h16 (told_cons h17 (told_cons h18 (told_cons h19 (told_cons h20 (told_cons h21 told_nil))))))))))))))))))))))) r0 hargs
                        · have p20 := (Q.holds'_iff _ _ _).2 h20
                          simp only [c_q26, Q.holds', D.nat, E.n, E.den, BO.den, UO.den, D.toInt_int, E.i, and_true, om_0, om_10, om_20, Int.toNat_natCast] at p20
                          exact calls_of_yesV sound tab_ok specs_ok overs_ok c_y101 rfl (tellA_ok (told_cons h0 (told_cons h1 (told_cons h2 (told_cons h3 (told_cons h4 (told_cons h5 (told_cons h6 (told_cons h7 (told_cons h8 (told_cons h9 (told_cons h10 (told_cons h11 (told_cons h12 (told_cons h13 (told_cons h14 (told_cons h15 (told_cons h16 (told_cons h17 (told_cons h18 (told_cons h19 (told_cons h20 told_nil)))))))))))))))))))))) r0 hargs
                      · have p19 := (Q.holds'_iff _ _ _).2 h19
                        simp only [c_q25, Q.holds', D.nat, E.n, E.den, BO.den, UO.den, D.toInt_int, E.i, and_true, om_0, om_10, om_20, Int.toNat_natCast] at p19
                        cases h20 : Q.val (om n0 n1 n2) c_q26
                        · have p20 := (Q.holds'_iff _ _ _).2 h20
                          simp only [c_q26, Q.holds', D.nat, E.n, E.den, BO.den, UO.den, D.toInt_int, E.i, and_true, om_0, om_10, om_20, Int.toNat_natCast] at p20
                          exact calls_of_yesV sound tab_ok specs_ok overs_ok c_y100 rfl (tellA_ok (told_cons h0 (told_cons h1 (told_cons h2 (told_cons h3 (told_cons h4 (told_cons h5 (told_cons h6 (told_cons h7 (told_cons h8 (told_cons h9 (told_cons h10 (told_cons h11 (told_cons h12 (told_cons h13 (told_cons h14 (told_cons h15 (told_cons h16 (told_cons h17 (told_cons h18 (told_cons h19 (told_cons h20 told_nil)))))))))))))))))))))) r0 hargs
                        · have p20 := (Q.holds'_iff _ _ _).2 h20
                          simp only [c_q26, Q.holds', D.nat, E.n, E.den, BO.den, UO.den, D.toInt_int, E.i, and_true, om_0, om_10, om_20, Int.toNat_natCast] at p20
                          exact calls_of_yesV sound tab_ok specs_ok overs_ok c_y128 rfl (tellA_ok (told_cons h0 (told_cons h1 (told_cons h2 (told_cons h3 (told_cons h4 (told_cons h5 (told_cons h6 (told_cons h7 (told_cons h8 (told_cons h9 (told_cons h10 (told_cons h11 (told_cons h12 (told_cons h13 (told_cons h14 (told_cons h15 (told_cons h16 (told_cons h17 (told_cons h18 (told_cons h19 (told_cons h20 told_nil)))))))))))))))))))))) r0 hargs
              · have p7 := (Q.holds'_iff _ _ _).2 h7
                simp only [c_q9, Q.holds', D.nat, E.n, E.den, BO.den, UO.den, D.toInt_int, E.i, and_true, om_0, om_10, om_20, Int.toNat_natCast] at p7
                have h8 : Q.val (om n0 n1 n2) c_q10 = false := (Q.holds'_iff _ _ _).1 (by
                  simp only [c_q10, Q.holds', D.nat, E.n, E.den, BO.den, UO.den, D.toInt_int, E.i, and_true, om_0, om_10, om_20, Int.toNat_natCast]
                  all_goals (omega))
                have p8 := (Q.holds'_iff _ _ _).2 h8
                try (
                  simp only [c_q10, Q.holds', D.nat, E.n, E.den, BO.den, UO.den, D.toInt_int, E.i, and_true, om_0, om_10, om_20, Int.toNat_natCast] at p8)
                cases h9 : Q.val (om n0 n1 n2) c_q11
                · have p9 := (Q.holds'_iff _ _ _).2 h9
                  simp only [c_q11, Q.holds', D.nat, E.n, E.den, BO.den, UO.den, D.toInt_int, E.i, and_true, om_0, om_10, om_20, Int.toNat_natCast] at p9
                  have h10 : Q.val (om n0 n1 n2) c_q12 = true := (Q.holds'_iff _ _ _).1 (by
                    simp only [c_q12, Q.holds', D.nat, E.n, E.den, BO.den, UO.den, D.toInt_int, E.i, and_true, om_0, om_10, om_20, Int.toNat_natCast]
                    all_goals (have e2 := Ha (); omega))
                  have p10 := (Q.holds'_iff _ _ _).2 h10
                  try (
                    simp only [c_q12, Q.holds', D.nat, E.n, E.den, BO.den, UO.den, D.toInt_int, E.i, and_true, om_0, om_10, om_20, Int.toNat_natCast] at p10)
                  cases h11 : Q.val (om n0 n1 n2) c_q13
                  · have p11 := (Q.holds'_iff _ _ _).2 h11
                    simp only [c_q13, Q.holds', D.nat, E.n, E.den, BO.den, UO.den, D.toInt_int, E.i, and_true, om_0, om_10, om_20, Int.toNat_natCast] at p11
                    have h12 : Q.val (om n0 n1 n2) c_q16 = true := (Q.holds'_iff _ _ _).1 (by
                      simp only [c_q16, Q.holds', D.nat, E.n, E.den, BO.den, UO.den, D.toInt_int, E.i, and_true, om_0, om_10, om_20, Int.toNat_natCast]
                      all_goals (have e0 := H0 (); omega))
                    have p12 := (Q.holds'_iff _ _ _).2 h12
                    try (
                      simp only [c_q16, Q.holds', D.nat, E.n, E.den, BO.den, UO.den, D.toInt_int, E.i, and_true, om_0, om_10, om_20, Int.toNat_natCast] at p12)
                    have h13 : Q.val (om n0 n1 n2) c_q17 = true := (Q.holds'_iff _ _ _).1 (by
                      simp only [c_q17, Q.holds', D.nat, E.n, E.den, BO.den, UO.den, D.toInt_int, E.i, and_true, om_0, om_10, om_20, Int.toNat_natCast]
                      all_goals (omega))
                    have p13 := (Q.holds'_iff _ _ _).2 h13
                    try (
                      simp only [c_q17, Q.holds', D.nat, E.n, E.den, BO.den, UO.den, D.toInt_int, E.i, and_true, om_0, om_10, om_20, Int.toNat_natCast] at p13)
                    have h14 : Q.val (om n0 n1 n2) c_q18 = true := (Q.holds'_iff _ _ _).1 (by
                      simp only [c_q18, Q.holds', D.nat, E.n, E.den, BO.den, UO.den, D.toInt_int, E.i, and_true, om_0, om_10, om_20, Int.toNat_natCast]
                      all_goals (have e1 := Hs (); omega))
                    have p14 := (Q.holds'_iff _ _ _).2 h14
                    try (
                      simp only [c_q18, Q.holds', D.nat, E.n, E.den, BO.den, UO.den, D.toInt_int, E.i, and_true, om_0, om_10, om_20, Int.toNat_natCast] at p14)
                    have h15 : Q.val (om n0 n1 n2) c_q19 = false := (Q.holds'_iff _ _ _).1 (by
                      simp only [c_q19, Q.holds', D.nat, E.n, E.den, BO.den, UO.den, D.toInt_int, E.i, and_true, om_0, om_10, om_20, Int.toNat_natCast]
                      all_goals (have v2 := j3 (by omega) (by omega) (by omega); simp only [AsMuch] at v2; omega))
                    have p15 := (Q.holds'_iff _ _ _).2 h15
                    try (
                      simp only [c_q19, Q.holds', D.nat, E.n, E.den, BO.den, UO.den, D.toInt_int, E.i, and_true, om_0, om_10, om_20, Int.toNat_natCast] at p15)
                    have h16 : Q.val (om n0 n1 n2) c_q24 = true := (Q.holds'_iff _ _ _).1 (by
                      simp only [c_q24, Q.holds', D.nat, E.n, E.den, BO.den, UO.den, D.toInt_int, E.i, and_true, om_0, om_10, om_20, Int.toNat_natCast]
                      all_goals (have v2 := j3 (by omega) (by omega) (by omega); simp only [AsMuch] at v2; omega))
                    have p16 := (Q.holds'_iff _ _ _).2 h16
                    try (
                      simp only [c_q24, Q.holds', D.nat, E.n, E.den, BO.den, UO.den, D.toInt_int, E.i, and_true, om_0, om_10, om_20, Int.toNat_natCast] at p16)
                    cases h17 : Q.val (om n0 n1 n2) c_q25
                    · have p17 := (Q.holds'_iff _ _ _).2 h17
                      simp only [c_q25, Q.holds', D.nat, E.n, E.den, BO.den, UO.den, D.toInt_int, E.i, and_true, om_0, om_10, om_20, Int.toNat_natCast] at p17
                      cases h18 : Q.val (om n0 n1 n2) c_q26
                      · have p18 := (Q.holds'_iff _ _ _).2 h18
                        simp only [c_q26, Q.holds', D.nat, E.n, E.den, BO.den, UO.den, D.toInt_int, E.i, and_true, om_0, om_10, om_20, Int.toNat_natCast] at p18
                        have h19 : Q.val (om n0 n1 n2) c_q43 = true := (Q.holds'_iff _ _ _).1 (by
                          simp only [c_q43, Q.holds', D.nat, E.n, E.den, BO.den, UO.den, D.toInt_int, E.i, and_true, om_0, om_10, om_20, Int.toNat_natCast]
                          all_goals (have w := k12 (by omega); simp only [Waited, UO.den, D.toInt_int] at w; have e3 := Hl (); omega))
                        have p19 := (Q.holds'_iff _ _ _).2 h19
                        try (
                          simp only [c_q43, Q.holds', D.nat, E.n, E.den, BO.den, UO.den, D.toInt_int, E.i, and_true, om_0, om_10, om_20, Int.toNat_natCast] at p19)
                        exact calls_of_yesV sound tab_ok specs_ok overs_ok c_y76 rfl (tellA_ok (told_cons h0 (told_cons h1 (told_cons h2 (told_cons h3 (told_cons h4 (told_cons h5 (told_cons h6 (told_cons h7 (told_cons h8 (told_cons h9 (told_cons h10 (told_cons h11 (told_cons h12 (told_cons h13 (told_cons h14 (told_cons h15 (told_cons h16 (told_cons h17 (told_cons h18 (told_cons h19 told_nil))))))))))))))))))))) r0 hargs
                      · have p18 := (Q.holds'_iff _ _ _).2 h18
                        simp only [c_q26, Q.holds', D.nat, E.n, E.den, BO.den, UO.den, D.toInt_int, E.i, and_true, om_0, om_10, om_20, Int.toNat_natCast] at p18
                        exact calls_of_yesV sound tab_ok specs_ok overs_ok c_y103 rfl (tellA_ok (told_cons h0 (told_cons h1 (told_cons h2 (told_cons h3 (told_cons h4 (told_cons h5 (told_cons h6 (told_cons h7 (told_cons h8 (told_cons h9 (told_cons h10 (told_cons h11 (told_cons h12 (told_cons h13 (told_cons h14 (told_cons h15 (told_cons h16 (told_cons h17 (told_cons h18 told_nil)))))))))))))))))))) r0 hargs
                    · have p17 := (Q.holds'_iff _ _ _).2 h17
                      simp only [c_q25, Q.holds', D.nat, E.n, E.den, BO.den, UO.den, D.toInt_int, E.i, and_true, om_0, om_10, om_20, Int.toNat_natCast] at p17
                      cases h18 : Q.val (om n0 n1 n2) c_q26
                      · have p18 := (Q.holds'_iff _ _ _).2 h18
                        simp only [c_q26, Q.holds', D.nat, E.n, E.den, BO.den, UO.den, D.toInt_int, E.i, and_true, om_0, om_10, om_20, Int.toNat_natCast] at p18
                        exact calls_of_yesV sound tab_ok specs_ok overs_ok c_y102 rfl (tellA_ok (told_cons h0 (told_cons h1 (told_cons h2 (told_cons h3 (told_cons h4 (told_cons h5 (told_cons h6 (told_cons h7 (told_cons h8 (told_cons h9 (told_cons h10 (told_cons h11 (told_cons h12 (told_cons h13 (told_cons h14 (told_cons h15 (told_cons h16 (told_cons h17 (told_cons h18 told_nil)))))))))))))))))))) r0 hargs
                      · have p18 := (Q.holds'_iff _ _ _).2 h18
                        simp only [c_q26, Q.holds', D.nat, E.n, E.den, BO.den, UO.den, D.toInt_int, E.i, and_true, om_0, om_10, om_20, Int.toNat_natCast] at p18
                        exact calls_of_yesV sound tab_ok specs_ok overs_ok c_y129 rfl (tellA_ok (told_cons h0 (told_cons h1 (told_cons h2 (told_cons h3 (told_cons h4 (told_cons h5 (told_cons h6 (told_cons h7 (told_cons h8 (told_cons h9 (told_cons h10 (told_cons h11 (told_cons h12 (told_cons h13 (told_cons h14 (told_cons h15 (told_cons h16 (told_cons h17 (told_cons h18 told_nil)))))))))))))))))))) r0 hargs
                  · have p11 := (Q.holds'_iff _ _ _).2 h11
                    simp only [c_q13, Q.holds', D.nat, E.n, E.den, BO.den, UO.den, D.toInt_int, E.i, and_true, om_0, om_10, om_20, Int.toNat_natCast] at p11
                    have h12 : Q.val (om n0 n1 n2) c_q14 = true := (Q.holds'_iff _ _ _).1 (by
                      simp only [c_q14, Q.holds', D.nat, E.n, E.den, BO.den, UO.den, D.toInt_int, E.i, and_true, om_0, om_10, om_20, Int.toNat_natCast]
                      all_goals (have e1 := Hs (); omega))
                    have p12 := (Q.holds'_iff _ _ _).2 h12
                    try (
                      simp only [c_q14, Q.holds', D.nat, E.n, E.den, BO.den, UO.den, D.toInt_int, E.i, and_true, om_0, om_10, om_20, Int.toNat_natCast] at p12)
                    cases h13 : Q.val (om n0 n1 n2) c_q15
                    · have p13 := (Q.holds'_iff _ _ _).2 h13
                      simp only [c_q15, Q.holds', D.nat, E.n, E.den, BO.den, UO.den, D.toInt_int, E.i, and_true, om_0, om_10, om_20, Int.toNat_natCast] at p13
                      cases h14 : Q.val (om n0 n1 n2) c_q23
                      · have p14 := (Q.holds'_iff _ _ _).2 h14
                        simp only [c_q23, Q.holds', D.nat, E.n, E.den, BO.den, UO.den, D.toInt_int, E.i, and_true, om_0, om_10, om_20, Int.toNat_natCast] at p14
                        have h15 : Q.val (om n0 n1 n2) c_q32 = true := (Q.holds'_iff _ _ _).1 (by
                          simp only [c_q32, Q.holds', D.nat, E.n, E.den, BO.den, UO.den, D.toInt_int, E.i, and_true, om_0, om_10, om_20, Int.toNat_natCast]
                          all_goals (have w2 := k13 (by omega); simp only [Waited, UO.den, D.toInt_int] at w2; omega))
                        have p15 := (Q.holds'_iff _ _ _).2 h15
                        try (
                          simp only [c_q32, Q.holds', D.nat, E.n, E.den, BO.den, UO.den, D.toInt_int, E.i, and_true, om_0, om_10, om_20, Int.toNat_natCast] at p15)
                        have h16 : Q.val (om n0 n1 n2) c_q33 = true := (Q.holds'_iff _ _ _).1 (by
                          simp only [c_q33, Q.holds', D.nat, E.n, E.den, BO.den, UO.den, D.toInt_int, E.i, and_true, om_0, om_10, om_20, Int.toNat_natCast, i64min, i64max, inK]
                          all_goals (have w2 := k13 (by omega); simp only [Waited, UO.den, D.toInt_int] at w2; omega))
                        have p16 := (Q.holds'_iff _ _ _).2 h16
                        try (
                          simp only [c_q33, Q.holds', D.nat, E.n, E.den, BO.den, UO.den, D.toInt_int, E.i, and_true, om_0, om_10, om_20, Int.toNat_natCast, i64min, i64max, inK] at p16)
                        have h17 : Q.val (om n0 n1 n2) c_q34 = true := (Q.holds'_iff _ _ _).1 (by
                          simp only [c_q34, Q.holds', D.nat, E.n, E.den, BO.den, UO.den, D.toInt_int, E.i, and_true, om_0, om_10, om_20, Int.toNat_natCast]
                          all_goals (have w2 := k13 (by omega); simp only [Waited, UO.den, D.toInt_int] at w2; omega))
                        have p17 := (Q.holds'_iff _ _ _).2 h17
                        try (
                          simp only [c_q34, Q.holds', D.nat, E.n, E.den, BO.den, UO.den, D.toInt_int, E.i, and_true, om_0, om_10, om_20, Int.toNat_natCast] at p17)
                        have h18 : Q.val (om n0 n1 n2) c_q16 = true := (Q.holds'_iff _ _ _).1 (by
                          simp only [c_q16, Q.holds', D.nat, E.n, E.den, BO.den, UO.den, D.toInt_int, E.i, and_true, om_0, om_10, om_20, Int.toNat_natCast]
                          all_goals (have e0 := H0 (); omega))
                        have p18 := (Q.holds'_iff _ _ _).2 h18
                        try (
                          simp only [c_q16, Q.holds', D.nat, E.n, E.den, BO.den, UO.den, D.toInt_int, E.i, and_true, om_0, om_10, om_20, Int.toNat_natCast] at p18)
                        have h19 : Q.val (om n0 n1 n2) c_q17 = true := (Q.holds'_iff _ _ _).1 (by
                          simp only [c_q17, Q.holds', D.nat, E.n, E.den, BO.den, UO.den, D.toInt_int, E.i, and_true, om_0, om_10, om_20, Int.toNat_natCast]
                          all_goals (omega))
                        have p19 := (Q.holds'_iff _ _ _).2 h19
                        try (
                          simp only [c_q17, Q.holds', D.nat, E.n, E.den, BO.den, UO.den, D.toInt_int, E.i, and_true, om_0, om_10, om_20, Int.toNat_natCast] at p19)
                        have h20 : Q.val (om n0 n1 n2) c_q18 = true := (Q.holds'_iff _ _ _).1 (by
                          simp only [c_q18, Q.holds', D.nat, E.n, E.den, BO.den, UO.den, D.toInt_int, E.i, and_true, om_0, om_10, om_20, Int.toNat_natCast]
                          all_goals (have e1 := Hs (); omega))
                        have p20 := (Q.holds'_iff _ _ _).2 h20
                        try (
                          simp only [c_q18, Q.holds', D.nat, E.n, E.den, BO.den, UO.den, D.toInt_int, E.i, and_true, om_0, om_10, om_20, Int.toNat_natCast] at p20)
                        have h21 : Q.val (om n0 n1 n2) c_q19 = false := (Q.holds'_iff _ _ _).1 (by
                          simp only [c_q19, Q.holds', D.nat, E.n, E.den, BO.den, UO.den, D.toInt_int, E.i, and_true, om_0, om_10, om_20, Int.toNat_natCast]
                          all_goals (have v2 := j3 (by omega) (by omega) (by omega); simp only [AsMuch] at v2; omega))
                        have p21 := (Q.holds'_iff _ _ _).2 h21
                        try (
                          simp only [c_q19, Q.holds', D.nat, E.n, E.den, BO.den, UO.den, D.toInt_int, E.i, and_true, om_0, om_10, om_20, Int.toNat_natCast] at p21)
                        have h22 : Q.val (om n0 n1 n2) c_q24 = true := (Q.holds'_iff _ _ _).1 (by
                          simp only [c_q24, Q.holds', D.nat, E.n, E.den, BO.den, UO.den, D.toInt_int, E.i, and_true, om_0, om_10, om_20, Int.toNat_natCast]
                          all_goals (have v2 := j3 (by omega) (by omega) (by omega); simp only [AsMuch] at v2; omega))
                        have p22 := (Q.holds'_iff _ _ _).2 h22
                        try (
                          simp only [c_q24, Q.holds', D.nat, E.n, E.den, BO.den, UO.den, D.toInt_int, E.i, and_true, om_0, om_10, om_20, Int.toNat_natCast] at p22)
                        cases h23 : Q.val (om n0 n1 n2) c_q25
                        · have p23 := (Q.holds'_iff _ _ _).2 h23
                          simp only [c_q25, Q.holds', D.nat, E.n, E.den, BO.den, UO.den, D.toInt_int, E.i, and_true, om_0, om_10, om_20, Int.toNat_natCast] at p23
                          cases h24 : Q.val (om n0 n1 n2) c_q26
                          · have p24 := (Q.holds'_iff _ _ _).2 h24
                            simp only [c_q26, Q.holds', D.nat, E.n, E.den, BO.den, UO.den, D.toInt_int, E.i, and_true, om_0, om_10, om_20, Int.toNat_natCast] at p24
                            have h25 : Q.val (om n0 n1 n2) c_q43 = true := (Q.holds'_iff _ _ _).1 (by
                              simp only [c_q43, Q.holds', D.nat, E.n, E.den, BO.den, UO.den, D.toInt_int, E.i, and_true, om_0, om_10, om_20, Int.toNat_natCast]
                              all_goals (have w := k12 (by omega); simp only [Waited, UO.den, D.toInt_int] at w; have e3 := Hl (); omega))
                            have p25 := (Q.holds'_iff _ _ _).2 h25
                            try (
                              simp only [c_q43, Q.holds', D.nat, E.n, E.den, BO.den, UO.den, D.toInt_int, E.i, and_true, om_0, om_10, om_20, Int.toNat_natCast] at p25)
                            exact calls_of_yesV sound tab_ok specs_ok overs_ok c_y120 rfl (tellA_ok (told_cons h0 (told_cons h1 (told_cons h2 (told_cons h3 (told_cons h4 (told_cons h5 (told_cons h6 (told_cons h7 (told_cons h8 (told_cons h9 (told_cons h10 (told_cons h11 (told_cons h12 (told_cons h13 (told_cons h14 (told_cons h15 (told_cons h16 (told_cons h17 (told_cons h18 (told_cons h19 (told_cons h20 (told_cons h21 (told_cons h22 (told_cons h23 (told_cons h24 (told_cons h25 told_nil))))))))))))))))))))))))))) r0 hargs
                          · have p24 := (Q.holds'_iff _ _ _).2 h24
                            simp only [c_q26, Q.holds', D.nat, E.n, E.den, BO.den, UO.den, D.toInt_int, E.i, and_true, om_0, om_10, om_20, Int.toNat_natCast] at p24
                            exact calls_of_yesV sound tab_ok specs_ok overs_ok c_y130 rfl (tellA_ok (told_cons h0 (told_cons h1 (told_cons h2 (told_cons h3 (told_cons h4 (told_cons h5 (told_cons h6 (told_cons h7 (told_cons h8 (told_cons h9 (told_cons h10 (told_cons h11 (told_cons h12 (told_cons h13 (told_cons h14 (told_cons h15 (told_cons h16 (told_cons h17 (told_cons h18 (told_cons h19 (told_cons h20 (told_cons h21 (told_cons h22 (told_cons h23 (told_cons h24 told_nil)))))))))))))))))))))))))) r0 hargs
                        · have p23 := (Q.holds'_iff _ _ _).2 h23
                          simp only [c_q25, Q.holds', D.nat, E.n, E.den, BO.den, UO.den, D.toInt_int, E.i, and_true, om_0, om_10, om_20, Int.toNat_natCast] at p23
                          cases h24 : Q.val (om n0 n1 n2) c_q26
                          · have p24 := (Q.holds'_iff _ _ _).2 h24
                            simp only [c_q26, Q.holds', D.nat, E.n, E.den, BO.den, UO.den, D.toInt_int, E.i, and_true, om_0, om_10, om_20, Int.toNat_natCast] at p24
                            exact calls_of_yesV sound tab_ok specs_ok overs_ok c_y86 rfl (tellA_ok (told_cons h0 (told_cons h1 (told_cons h2 (told_cons h3 (told_cons h4 (told_cons h5 (told_cons h6 (told_cons h7 (told_cons h8 (told_cons h9 (told_cons h10 (told_cons h11 (told_cons h12 (told_cons h13 (told_cons h14 (told_cons h15 (told_cons h16 (told_cons h17 (told_cons h18 (told_cons h19 (told_cons h20 (told_cons h21 (told_cons h22 (told_cons h23 (told_cons h24 told_nil)))))))))))))))))))))))))) r0 hargs
                          · have p24 := (Q.holds'_iff _ _ _).2 h24
                            simp only [c_q26, Q.holds', D.nat, E.n, E.den, BO.den, UO.den, D.toInt_int, E.i, and_true, om_0, om_10, om_20, Int.toNat_natCast] at p24
                            exact calls_of_yesV sound tab_ok specs_ok overs_ok c_y105 rfl (tellA_ok (told_cons h0 (told_cons h1 (told_cons h2 (told_cons h3 (told_cons h4 (told_cons h5 (told_cons h6 (told_cons h7 (told_cons h8 (told_cons h9 (told_cons h10 (told_cons h11 (told_cons h12 (told_cons h13 (told_cons h14 (told_cons h15 (told_cons h16 (told_cons h17 (told_cons h18 (told_cons h19 (told_cons h20 (told_cons h21 (told_cons h22 (told_cons h23 (told_cons h24 told_nil)))))))))))))))))))))))))) r0 hargs
                      · have p14 := (Q.holds'_iff _ _ _).2 h14
                        simp only [c_q23, Q.holds', D.nat, E.n, E.den, BO.den, UO.den, D.toInt_int, E.i, and_true, om_0, om_10, om_20, Int.toNat_natCast] at p14
                        have h15 : Q.val (om n0 n1 n2) c_q16 = true := (Q.holds'_iff _ _ _).1 (by
                          simp only [c_q16, Q.holds', D.nat, E.n, E.den, BO.den, UO.den, D.toInt_int, E.i, and_true, om_0, om_10, om_20, Int.toNat_natCast]
                          all_goals (have e0 := H0 (); omega))
                        have p15 := (Q.holds'_iff _ _ _).2 h15
                        try (
                          simp only [c_q16, Q.holds', D.nat, E.n, E.den, BO.den, UO.den, D.toInt_int, E.i, and_true, om_0, om_10, om_20, Int.toNat_natCast] at p15)
                        have h16 : Q.val (om n0 n1 n2) c_q17 = true := (Q.holds'_iff _ _ _).1 (by
                          simp only [c_q17, Q.holds', D.nat, E.n, E.den, BO.den, UO.den, D.toInt_int, E.i, and_true, om_0, om_10, om_20, Int.toNat_natCast]
                          all_goals (omega))
                        have p16 := (Q.holds'_iff _ _ _).2 h16
                        try (
                          simp only [c_q17, Q.holds', D.nat, E.n, E.den, BO.den, UO.den, D.toInt_int, E.i, and_true, om_0, om_10, om_20, Int.toNat_natCast] at p16)
                        have h17 : Q.val (om n0 n1 n2) c_q18 = true := (Q.holds'_iff _ _ _).1 (by
                          simp only [c_q18, Q.holds', D.nat, E.n, E.den, BO.den, UO.den, D.toInt_int, E.i, and_true, om_0, om_10, om_20, Int.toNat_natCast]
                          all_goals (have e1 := Hs (); omega))
                        have p17 := (Q.holds'_iff _ _ _).2 h17
                        try (
                          simp only [c_q18, Q.holds', D.nat, E.n, E.den, BO.den, UO.den, D.toInt_int, E.i, and_true, om_0, om_10, om_20, Int.toNat_natCast] at p17)
                        have h18 : Q.val (om n0 n1 n2) c_q19 = false := (Q.holds'_iff _ _ _).1 (by
                          simp only [c_q19, Q.holds', D.nat, E.n, E.den, BO.den, UO.den, D.toInt_int, E.i, and_true, om_0, om_10, om_20, Int.toNat_natCast]
                          all_goals (have v2 := j3 (by omega) (by omega) (by omega); simp only [AsMuch] at v2; omega))
                        have p18 := (Q.holds'_iff _ _ _).2 h18
                        try (
                          simp only [c_q19, Q.holds', D.nat, E.n, E.den, BO.den, UO.den, D.toInt_int, E.i, and_true, om_0, om_10, om_20, Int.toNat_natCast] at p18)
                        have h19 : Q.val (om n0 n1 n2) c_q24 = true := (Q.holds'_iff _ _ _).1 (by
                          simp only [c_q24, Q.holds', D.nat, E.n, E.den, BO.den, UO.den, D.toInt_int, E.i, and_true, om_0, om_10, om_20, Int.toNat_natCast]
                          all_goals (have v2 := j3 (by omega) (by omega) (by omega); simp only [AsMuch] at v2; omega))
                        have p19 := (Q.holds'_iff _ _ _).2 h19
                        try (
                          simp only [c_q24, Q.holds', D.nat, E.n, E.den, BO.den, UO.den, D.toInt_int, E.i, and_true, om_0, om_10, om_20, Int.toNat_natCast] at p19)
                        cases h20 : Q.val (om n0 n1 n2) c_q25
                        · have p20 := (Q.holds'_iff _ _ _).2 h20
                          simp only [c_q25, Q.holds', D.nat, E.n, E.den, BO.den, UO.den, D.toInt_int, E.i, and_true, om_0, om_10, om_20, Int.toNat_natCast] at p20
                          cases h21 : Q.val (om n0 n1 n2) c_q26
                          · have p21 := (Q.holds'_iff _ _ _).2 h21
                            simp only [c_q26, Q.holds', D.nat, E.n, E.den, BO.den, UO.den, D.toInt_int, E.i, and_true, om_0, om_10, om_20, Int.toNat_natCast] at p21
                            have h22 : Q.val (om n0 n1 n2) c_q43 = true := (Q.holds'_iff _ _ _).1 (by
                              simp only [c_q43, Q.holds', D.nat, E.n, E.den, BO.den, UO.den, D.toInt_int, E.i, and_true, om_0, om_10, om_20, Int.toNat_natCast]
                              all_goals (have w := k12 (by omega); simp only [Waited, UO.den, D.toInt_int] at w; have e3 := Hl (); omega))
                            have p22 := (Q.holds'_iff _ _ _).2 h22
                            try (
                              simp only [c_q43, Q.holds', D.nat, E.n, E.den, BO.den, UO.den, D.toInt_int, E.i, and_true, om_0, om_10, om_20, Int.toNat_natCast] at p22)
                            exact calls_of_yesV sound tab_ok specs_ok overs_ok c_y49 rfl (tellA_ok (told_cons h0 (told_cons h1 (told_cons h2 (told_cons h3 (told_cons h4 (told_cons h5 (told_cons h6 (told_cons h7 (told_cons h8 (told_cons h9 (told_cons h10 (told_cons h11 (told_cons h12 (told_cons h13 (told_cons h14 (told_cons h15 (told_cons h16 (told_cons h17 (told_cons h18 (told_cons h19 (told_cons h20 (told_cons h21 (told_cons h22 told_nil)))))))))))))))))))))))) r0 hargs
                          · have p21 := (Q.holds'_iff _ _ _).2 h21
                            simp only [c_q26, Q.holds', D.nat, E.n, E.den, BO.den, UO.den, D.toInt_int, E.i, and_true, om_0, om_10, om_20, Int.toNat_natCast] at p21
                            exact calls_of_yesV sound tab_ok specs_ok overs_ok c_y34 rfl (tellA_ok (told_cons h0 (told_cons h1 (told_cons h2 (told_cons h3 (told_cons h4 (told_cons h5 (told_cons h6 (told_cons h7 (told_cons h8 (told_cons h9 (told_cons h10 (told_cons h11 (told_cons h12 (told_cons h13 (told_cons h14 (told_cons h15 (told_cons h16 (told_cons h17 (told_cons h18 (told_cons h19 (told_cons h20 (told_cons h21 told_nil))))))))))))))))))))))) r0 hargs
                        · have p20 := (Q.holds'_iff _ _ _).2 h20
                          simp only [c_q25, Q.holds', D.nat, E.n, E.den, BO.den, UO.den, D.toInt_int, E.i, and_true, om_0, om_10, om_20, Int.toNat_natCast] at p20
                          cases h21 : Q.val (om n0 n1 n2) c_q26
                          · have p21 := (Q.holds'_iff _ _ _).2 h21
                            simp only [c_q26, Q.holds', D.nat, E.n, E.den, BO.den, UO.den, D.toInt_int, E.i, and_true, om_0, om_10, om_20, Int.toNat_natCast] at p21
                            exact calls_of_yesV sound tab_ok specs_ok overs_ok c_y17 rfl (tellA_ok (told_cons h0 (told_cons h1 (told_cons h2 (told_cons h3 (told_cons h4 (told_cons h5 (told_cons h6 (told_cons h7 (told_cons h8 (told_cons h9 (told_cons h10 (told_cons h11 (told_cons h12 (told_cons h13 (told_cons h14 (told_cons h15 (told_cons h16 (told_cons h17 (told_cons h18 (told_cons h19 (told_cons h20 (told_cons h21 told_nil))))))))))))))))))))))) r0 hargs
                          · have p21 := (Q.holds'_iff _ _ _).2 h21
                            simp only [c_q26, Q.holds', D.nat, E.n, E.den, BO.den, UO.den, D.toInt_int, E.i, and_true, om_0, om_10, om_20, Int.toNat_natCast] at p21
                            exact calls_of_yesV sound tab_ok specs_ok overs_ok c_y106 rfl (tellA_ok (told_cons h0 (told_cons h1 (told_cons h2 (told_cons h3 (told_cons h4 (told_cons h5 (told_cons h6 (told_cons h7 (told_cons h8 (told_cons h9 (told_cons h10 (told_cons h11 (told_cons h12 (told_cons h13 (told_cons h14 (told_cons h15 (told_cons h16 (told_cons h17 (told_cons h18 (told_cons h19 (told_cons h20 (told_cons h21 told_nil))))))))))))))))))))))) r0 hargs
                    · have p13 := (Q.holds'_iff _ _ _).2 h13
                      simp only [c_q15, Q.holds', D.nat, E.n, E.den, BO.den, UO.den, D.toInt_int, E.i, and_true, om_0, om_10, om_20, Int.toNat_natCast] at p13
                      have h14 : Q.val (om n0 n1 n2) c_q16 = true := (Q.holds'_iff _ _ _).1 (by
                        simp only [c_q16, Q.holds', D.nat, E.n, E.den, BO.den, UO.den, D.toInt_int, E.i, and_true, om_0, om_10, om_20, Int.toNat_natCast]
                        all_goals (have e0 := H0 (); omega))
                      have p14 := (Q.holds'_iff _ _ _).2 h14
                      try (
                        simp only [c_q16, Q.holds', D.nat, E.n, E.den, BO.den, UO.den, D.toInt_int, E.i, and_true, om_0, om_10, om_20, Int.toNat_natCast] at p14)
                      have h15 : Q.val (om n0 n1 n2) c_q17 = true := (Q.holds'_iff _ _ _).1 (by
                        simp only [c_q17, Q.holds', D.nat, E.n, E.den, BO.den, UO.den, D.toInt_int, E.i, and_true, om_0, om_10, om_20, Int.toNat_natCast]
                        all_goals (omega))
                      have p15 := (Q.holds'_iff _ _ _).2 h15
                      try (
                        simp only [c_q17, Q.holds', D.nat, E.n, E.den, BO.den, UO.den, D.toInt_int, E.i, and_true, om_0, om_10, om_20, Int.toNat_natCast] at p15)
                      have h16 : Q.val (om n0 n1 n2) c_q18 = true := (Q.holds'_iff _ _ _).1 (by
                        simp only [c_q18, Q.holds', D.nat, E.n, E.den, BO.den, UO.den, D.toInt_int, E.i, and_true, om_0, om_10, om_20, Int.toNat_natCast]
                        all_goals (have e1 := Hs (); omega))
                      have p16 := (Q.holds'_iff _ _ _).2 h16
                      try (
                        simp only [c_q18, Q.holds', D.nat, E.n, E.den, BO.den, UO.den, D.toInt_int, E.i, and_true, om_0, om_10, om_20, Int.toNat_natCast] at p16)
                      have h17 : Q.val (om n0 n1 n2) c_q19 = false := (Q.holds'_iff _ _ _).1 (by
                        simp only [c_q19, Q.holds', D.nat, E.n, E.den, BO.den, UO.den, D.toInt_int, E.i, and_true, om_0, om_10, om_20, Int.toNat_natCast]
                        all_goals (have v2 := j3 (by omega) (by omega) (by omega); simp only [AsMuch] at v2; omega))
                      have p17 := (Q.holds'_iff _ _ _).2 h17
                      try (
                        simp only [c_q19, Q.holds', D.nat, E.n, E.den, BO.den, UO.den, D.toInt_int, E.i, and_true, om_0, om_10, om_20, Int.toNat_natCast] at p17)
                      have h18 : Q.val (om n0 n1 n2) c_q24 = true := (Q.holds'_iff _ _ _).1 (by
                        simp only [c_q24, Q.holds', D.nat, E.n, E.den, BO.den, UO.den, D.toInt_int, E.i, and_true, om_0, om_10, om_20, Int.toNat_natCast]
                        all_goals (have v2 := j3 (by omega) (by omega) (by omega); simp only [AsMuch] at v2; omega))
                      have p18 := (Q.holds'_iff _ _ _).2 h18
                      try (
                        simp only [c_q24, Q.holds', D.nat, E.n, E.den, BO.den, UO.den, D.toInt_int, E.i, and_true, om_0, om_10, om_20, Int.toNat_natCast] at p18)
                      cases h19 : Q.val (om n0 n1 n2) c_q25
                      · have p19 := (Q.holds'_iff _ _ _).2 h19
                        simp only [c_q25, Q.holds', D.nat, E.n, E.den, BO.den, UO.den, D.toInt_int, E.i, and_true, om_0, om_10, om_20, Int.toNat_natCast] at p19
                        cases h20 : Q.val (om n0 n1 n2) c_q26
                        · have p20 := (Q.holds'_iff _ _ _).2 h20
                          simp only [c_q26, Q.holds', D.nat, E.n, E.den, BO.den, UO.den, D.toInt_int, E.i, and_true, om_0, om_10, om_20, Int.toNat_natCast] at p20
                          have h21 : Q.val (om n0 n1 n2) c_q43 = true := (Q.holds'_iff _ _ _).1 (by
                            simp only [c_q43, Q.holds', D.nat, E.n, E.den, BO.den, UO.den, D.toInt_int, E.i, and_true, om_0, om_10, om_20, Int.toNat_natCast]
                            all_goals (have w := k12 (by omega); simp only [Waited, UO.den, D.toInt_int] at w; have e3 := Hl (); omega))
                          have p21 := (Q.holds'_iff _ _ _).2 h21
                          try (
                            simp only [c_q43, Q.holds', D.nat, E.n, E.den, BO.den, UO.den, D.toInt_int, E.i, and_true, om_0, om_10, om_20, Int.toNat_natCast] at p21)
                          exact calls_of_yesV sound tab_ok specs_ok overs_ok c_y131 rfl (tellA_ok (told_cons h0 (told_cons h1 (told_cons h2 (told_cons h3 (told_cons h4 (told_cons h5 (told_cons h6 (told_cons h7 (told_cons h8 (told_cons h9 (told_cons h10 (told_cons h11 (told_cons h12 (told_cons h13 (told_cons h14 (told_cons h15 (told_cons h16 (told_cons h17 (told_cons h18 (told_cons h19 (told_cons h20 (told_cons h21 told_nil))))))))))))))))))))))) r0 hargs
                        · have p20 := (Q.holds'_iff _ _ _).2 h20
                          simp only [c_q26, Q.holds', D.nat, E.n, E.den, BO.den, UO.den, D.toInt_int, E.i, and_true, om_0, om_10, om_20, Int.toNat_natCast] at p20
                          exact calls_of_yesV sound tab_ok specs_ok overs_ok c_y145 rfl (tellA_ok (told_cons h0 (told_cons h1 (told_cons h2 (told_cons h3 (told_cons h4 (told_cons h5 (told_cons h6 (told_cons h7 (told_cons h8 (told_cons h9 (told_cons h10 (told_cons h11 (told_cons h12 (told_cons h13 (told_cons h14 (told_cons h15 (told_cons h16 (told_cons h17 (told_cons h18 (told_cons h19 (told_cons h20 told_nil)))))))))))))))))))))) r0 hargs
                      · have p19 := (Q.holds'_iff _ _ _).2 h19
                        simp only [c_q25, Q.holds', D.nat, E.n, E.den, BO.den, UO.den, D.toInt_int, E.i, and_true, om_0, om_10, om_20, Int.toNat_natCast] at p19
                        cases h20 : Q.val (om n0 n1 n2) c_q26
                        · have p20 := (Q.holds'_iff _ _ _).2 h20
                          simp only [c_q26, Q.holds', D.nat, E.n, E.den, BO.den, UO.den, D.toInt_int, E.i, and_true, om_0, om_10, om_20, Int.toNat_natCast] at p20
                          exact calls_of_yesV sound tab_ok specs_ok overs_ok c_y104 rfl (tellA_ok (told_cons h0 (told_cons h1 (told_cons h2 (told_cons h3 (told_cons h4 (told_cons h5 (told_cons h6 (told_cons h7 (told_cons h8 (told_cons h9 (told_cons h10 (told_cons h11 (told_cons h12 (told_cons h13 (told_cons h14 (told_cons h15 (told_cons h16 (told_cons h17 (told_cons h18 (told_cons h19 (told_cons h20 told_nil)))))))))))))))))))))) r0 hargs
                        · have p20 := (Q.holds'_iff _ _ _).2 h20
                          simp only [c_q26, Q.holds', D.nat, E.n, E.den, BO.den, UO.den, D.toInt_int, E.i, and_true, om_0, om_10, om_20, Int.toNat_natCast] at p20
                          exact calls_of_yesV sound tab_ok specs_ok overs_ok c_y132 rfl (tellA_ok (told_cons h0 (told_cons h1 (told_cons h2 (told_cons h3 (told_cons h4 (told_cons h5 (told_cons h6 (told_cons h7 (told_cons h8 (told_cons h9 (told_cons h10 (told_cons h11 (told_cons h12 (told_cons h13 (told_cons h14 (told_cons h15 (told_cons h16 (told_cons h17 (told_cons h18 (told_cons h19 (told_cons h20 told_nil)))))))))))))))))))))) r0 hargs
                · have p9 := (Q.holds'_iff _ _ _).2 h9
                  simp only [c_q11, Q.holds', D.nat, E.n, E.den, BO.den, UO.den, D.toInt_int, E.i, and_true, om_0, om_10, om_20, Int.toNat_natCast] at p9
                  have h10 : Q.val (om n0 n1 n2) c_q12 = false := (Q.holds'_iff _ _ _).1 (by
                    simp only [c_q12, Q.holds', D.nat, E.n, E.den, BO.den, UO.den, D.toInt_int, E.i, and_true, om_0, om_10, om_20, Int.toNat_natCast]
                    all_goals (omega))
                  have p10 := (Q.holds'_iff _ _ _).2 h10
                  try (
                    simp only [c_q12, Q.holds', D.nat, E.n, E.den, BO.den, UO.den, D.toInt_int, E.i, and_true, om_0, om_10, om_20, Int.toNat_natCast] at p10)
                  cases h11 : Q.val (om n0 n1 n2) c_q13
                  · have p11 := (Q.holds'_iff _ _ _).2 h11
                    simp only [c_q13, Q.holds', D.nat, E.n, E.den, BO.den, UO.den, D.toInt_int, E.i, and_true, om_0, om_10, om_20, Int.toNat_natCast] at p11
                    have h12 : Q.val (om n0 n1 n2) c_q16 = true := (Q.holds'_iff _ _ _).1 (by
                      simp only [c_q16, Q.holds', D.nat, E.n, E.den, BO.den, UO.den, D.toInt_int, E.i, and_true, om_0, om_10, om_20, Int.toNat_natCast]
                      all_goals (have e0 := H0 (); omega))
                    have p12 := (Q.holds'_iff _ _ _).2 h12
                    try (
                      simp only [c_q16, Q.holds', D.nat, E.n, E.den, BO.den, UO.den, D.toInt_int, E.i, and_true, om_0, om_10, om_20, Int.toNat_natCast] at p12)
                    have h13 : Q.val (om n0 n1 n2) c_q17 = true := (Q.holds'_iff _ _ _).1 (by
                      simp only [c_q17, Q.holds', D.nat, E.n, E.den, BO.den, UO.den, D.toInt_int, E.i, and_true, om_0, om_10, om_20, Int.toNat_natCast]
                      all_goals (omega))
                    have p13 := (Q.holds'_iff _ _ _).2 h13
                    try (
                      simp only [c_q17, Q.holds', D.nat, E.n, E.den, BO.den, UO.den, D.toInt_int, E.i, and_true, om_0, om_10, om_20, Int.toNat_natCast] at p13)
                    have h14 : Q.val (om n0 n1 n2) c_q18 = true := (Q.holds'_iff _ _ _).1 (by
                      simp only [c_q18, Q.holds', D.nat, E.n, E.den, BO.den, UO.den, D.toInt_int, E.i, and_true, om_0, om_10, om_20, Int.toNat_natCast]
                      all_goals (have e1 := Hs (); omega))
                    have p14 := (Q.holds'_iff _ _ _).2 h14
                    try (
                      simp only [c_q18, Q.holds', D.nat, E.n, E.den, BO.den, UO.den, D.toInt_int, E.i, and_true, om_0, om_10, om_20, Int.toNat_natCast] at p14)
                    cases h15 : Q.val (om n0 n1 n2) c_q19
                    · have p15 := (Q.holds'_iff _ _ _).2 h15
                      simp only [c_q19, Q.holds', D.nat, E.n, E.den, BO.den, UO.den, D.toInt_int, E.i, and_true, om_0, om_10, om_20, Int.toNat_natCast] at p15
                      cases h16 : Q.val (om n0 n1 n2) c_q24
                      · have p16 := (Q.holds'_iff _ _ _).2 h16
                        simp only [c_q24, Q.holds', D.nat, E.n, E.den, BO.den, UO.den, D.toInt_int, E.i, and_true, om_0, om_10, om_20, Int.toNat_natCast] at p16
                        have h17 : Q.val (om n0 n1 n2) c_q29 = true := (Q.holds'_iff _ _ _).1 (by
                          simp only [c_q29, Q.holds', D.nat, E.n, E.den, BO.den, UO.den, D.toInt_int, E.i, and_true, om_0, om_10, om_20, Int.toNat_natCast]
                          all_goals (have w3 := k14 (by omega); simp only [Waited, UO.den, D.toInt_int] at w3; omega))
                        have p17 := (Q.holds'_iff _ _ _).2 h17
                        try (
                          simp only [c_q29, Q.holds', D.nat, E.n, E.den, BO.den, UO.den, D.toInt_int, E.i, and_true, om_0, om_10, om_20, Int.toNat_natCast] at p17)
                        have h18 : Q.val (om n0 n1 n2) c_q30 = true := (Q.holds'_iff _ _ _).1 (by
                          simp only [c_q30, Q.holds', D.nat, E.n, E.den, BO.den, UO.den, D.toInt_int, E.i, and_true, om_0, om_10, om_20, Int.toNat_natCast, i64min, i64max, inK]
                          all_goals (have w3 := k14 (by omega); simp only [Waited, UO.den, D.toInt_int] at w3; omega))
                        have p18 := (Q.holds'_iff _ _ _).2 h18
                        try (
                          simp only [c_q30, Q.holds', D.nat, E.n, E.den, BO.den, UO.den, D.toInt_int, E.i, and_true, om_0, om_10, om_20, Int.toNat_natCast, i64min, i64max, inK] at p18)
                        have h19 : Q.val (om n0 n1 n2) c_q31 = true := (Q.holds'_iff _ _ _).1 (by
                          simp only [c_q31, Q.holds', D.nat, E.n, E.den, BO.den, UO.den, D.toInt_int, E.i, and_true, om_0, om_10, om_20, Int.toNat_natCast]
                          all_goals (have w3 := k14 (by omega); simp only [Waited, UO.den, D.toInt_int] at w3; omega))
                        have p19 := (Q.holds'_iff _ _ _).2 h19
                        try (
                          simp only [c_q31, Q.holds', D.nat, E.n, E.den, BO.den, UO.den, D.toInt_int, E.i, and_true, om_0, om_10, om_20, Int.toNat_natCast] at p19)
                        cases h20 : Q.val (om n0 n1 n2) c_q25
                        · have p20 := (Q.holds'_iff _ _ _).2 h20
                          simp only [c_q25, Q.holds', D.nat, E.n, E.den, BO.den, UO.den, D.toInt_int, E.i, and_true, om_0, om_10, om_20, Int.toNat_natCast] at p20
                          cases h21 : Q.val (om n0 n1 n2) c_q26
                          · have p21 := (Q.holds'_iff _ _ _).2 h21
                            simp only [c_q26, Q.holds', D.nat, E.n, E.den, BO.den, UO.den, D.toInt_int, E.i, and_true, om_0, om_10, om_20, Int.toNat_natCast] at p21
                            have h22 : Q.val (om n0 n1 n2) c_q43 = true := (Q.holds'_iff _ _ _).1 (by
                              simp only [c_q43, Q.holds', D.nat, E.n, E.den, BO.den, UO.den, D.toInt_int, E.i, and_true, om_0, om_10, om_20, Int.toNat_natCast]
                              all_goals (have w := k12 (by omega); simp only [Waited, UO.den, D.toInt_int] at w; have e3 := Hl (); omega))
                            have p22 := (Q.holds'_iff _ _ _).2 h22
                            try (
                              simp only [c_q43, Q.holds', D.nat, E.n, E.den, BO.den, UO.den, D.toInt_int, E.i, and_true, om_0, om_10, om_20, Int.toNat_natCast] at p22)
                            exact calls_of_yesV sound tab_ok specs_ok overs_ok c_y121 rfl (tellA_ok (told_cons h0 (told_cons h1 (told_cons h2 (told_cons h3 (told_cons h4 (told_cons h5 (told_cons h6 (told_cons h7 (told_cons h8 (told_cons h9 (told_cons h10 (told_cons h11 (told_cons h12 (told_cons h13 (told_cons h14 (told_cons h15 (told_cons h16 (told_cons h17 (told_cons h18 (told_cons h19 (told_cons h20 (told_cons h21 (told_cons h22 told_nil)))))))))))))))))))))))) r0 hargs
                          · have p21 := (Q.holds'_iff _ _ _).2 h21
                            simp only [c_q26, Q.holds', D.nat, E.n, E.den, BO.den, UO.den, D.toInt_int, E.i, and_true, om_0, om_10, om_20, Int.toNat_natCast] at p21
                            exact calls_of_yesV sound tab_ok specs_ok overs_ok c_y134 rfl (tellA_ok (told_cons h0 (told_cons h1 (told_cons h2 (told_cons h3 (told_cons h4 (told_cons h5 (told_cons h6 (told_cons h7 (told_cons h8 (told_cons h9 (told_cons h10 (told_cons h11 (told_cons h12 (told_cons h13 (told_cons h14 (told_cons h15 (told_cons h16 (told_cons h17 (told_cons h18 (told_cons h19 (told_cons h20 (told_cons h21 told_nil))))))))))))))))))))))) r0 hargs
                        · have p20 := (Q.holds'_iff _ _ _).2 h20
                          simp only [c_q25, Q.holds', D.nat, E.n, E.den, BO.den, UO.den, D.toInt_int, E.i, and_true, om_0, om_10, om_20, Int.toNat_natCast] at p20
                          cases h21 : Q.val (om n0 n1 n2) c_q26
                          · have p21 := (Q.holds'_iff _ _ _).2 h21
                            simp only [c_q26, Q.holds', D.nat, E.n, E.den, BO.den, UO.den, D.toInt_int, E.i, and_true, om_0, om_10, om_20, Int.toNat_natCast] at p21
                            exact calls_of_yesV sound tab_ok specs_ok overs_ok c_y133 rfl (tellA_ok (told_cons h0 (told_cons h1 (told_cons h2 (told_cons h3 (told_cons h4 (told_cons h5 (told_cons h6 (told_cons h7 (told_cons h8 (told_cons h9 (told_cons h10 (told_cons h11 (told_cons h12 (told_cons h13 (told_cons h14 (told_cons h15 (told_cons h16 (told_cons h17 (told_cons h18 (told_cons h19 (told_cons h20 (told_cons h21 told_nil))))))))))))))))))))))) r0 hargs
                          · have p21 := (Q.holds'_iff _ _ _).2 h21
                            simp only [c_q26, Q.holds', D.nat, E.n, E.den, BO.den, UO.den, D.toInt_int, E.i, and_true, om_0, om_10, om_20, Int.toNat_natCast] at p21
                            exact calls_of_yesV sound tab_ok specs_ok overs_ok c_y146 rfl (tellA_ok (told_cons h0 (told_cons h1 (told_cons h2 (told_cons h3 (told_cons h4 (told_cons h5 (told_cons h6 (told_cons h7 (told_cons h8 (told_cons h9 (told_cons h10 (told_cons h11 (told_cons h12 (told_cons h13 (told_cons h14 (told_cons h15 (told_cons h16 (told_cons h17 (told_cons h18 (told_cons h19 (told_cons h20 (told_cons h21 told_nil))))))))))))))))))))))) r0 hargs
                      · have p16 := (Q.holds'_iff _ _ _).2 h16
                        simp only [c_q24, Q.holds', D.nat, E.n, E.den, BO.den, UO.den, D.toInt_int, E.i, and_true, om_0, om_10, om_20, Int.toNat_natCast] at p16
                        cases h17 : Q.val (om n0 n1 n2) c_q25
                        · have p17 := (Q.holds'_iff _ _ _).2 h17
                          simp only [c_q25, Q.holds', D.nat, E.n, E.den, BO.den, UO.den, D.toInt_int, E.i, and_true, om_0, om_10, om_20, Int.toNat_natCast] at p17
                          cases h18 : Q.val (om n0 n1 n2) c_q26
                          · have p18 := (Q.holds'_iff _ _ _).2 h18
                            simp only [c_q26, Q.holds', D.nat, E.n, E.den, BO.den, UO.den, D.toInt_int, E.i, and_true, om_0, om_10, om_20, Int.toNat_natCast] at p18
                            have h19 : Q.val (om n0 n1 n2) c_q43 = true := (Q.holds'_iff _ _ _).1 (by
                              simp only [c_q43, Q.holds', D.nat, E.n, E.den, BO.den, UO.den, D.toInt_int, E.i, and_true, om_0, om_10, om_20, Int.toNat_natCast]
                              all_goals (have w := k12 (by omega); simp only [Waited, UO.den, D.toInt_int] at w; have e3 := Hl (); omega))
                            have p19 := (Q.holds'_iff _ _ _).2 h19
                            try (
                              simp only [c_q43, Q.holds', D.nat, E.n, E.den, BO.den, UO.den, D.toInt_int, E.i, and_true, om_0, om_10, om_20, Int.toNat_natCast] at p19)
                            exact calls_of_yesV sound tab_ok specs_ok overs_ok c_y77 rfl (tellA_ok (told_cons h0 (told_cons h1 (told_cons h2 (told_cons h3 (told_cons h4 (told_cons h5 (told_cons h6 (told_cons h7 (told_cons h8 (told_cons h9 (told_cons h10 (told_cons h11 (told_cons h12 (told_cons h13 (told_cons h14 (told_cons h15 (told_cons h16 (told_cons h17 (told_cons h18 (told_cons h19 told_nil))))))))))))))))))))) r0 hargs
                          · have p18 := (Q.holds'_iff _ _ _).2 h18
                            simp only [c_q26, Q.holds', D.nat, E.n, E.den, BO.den, UO.den, D.toInt_int, E.i, and_true, om_0, om_10, om_20, Int.toNat_natCast] at p18
                            exact calls_of_yesV sound tab_ok specs_ok overs_ok c_y108 rfl (tellA_ok (told_cons h0 (told_cons h1 (told_cons h2 (told_cons h3 (told_cons h4 (told_cons h5 (told_cons h6 (told_cons h7 (told_cons h8 (told_cons h9 (told_cons h10 (told_cons h11 (told_cons h12 (told_cons h13 (told_cons h14 (told_cons h15 (told_cons h16 (told_cons h17 (told_cons h18 told_nil)))))))))))))))))))) r0 hargs
                        · have p17 := (Q.holds'_iff _ _ _).2 h17
                          simp only [c_q25, Q.holds', D.nat, E.n, E.den, BO.den, UO.den, D.toInt_int, E.i, and_true, om_0, om_10, om_20, Int.toNat_natCast] at p17
                          cases h18 : Q.val (om n0 n1 n2) c_q26
                          · have p18 := (Q.holds'_iff _ _ _).2 h18
                            simp only [c_q26, Q.holds', D.nat, E.n, E.den, BO.den, UO.den, D.toInt_int, E.i, and_true, om_0, om_10, om_20, Int.toNat_natCast] at p18
                            exact calls_of_yesV sound tab_ok specs_ok overs_ok c_y107 rfl (tellA_ok (told_cons h0 (told_cons h1 (told_cons h2 (told_cons h3 (told_cons h4 (told_cons h5 (told_cons h6 (told_cons h7 (told_cons h8 (told_cons h9 (told_cons h10 (told_cons h11 (told_cons h12 (told_cons h13 (told_cons h14 (told_cons h15 (told_cons h16 (told_cons h17 (told_cons h18 told_nil)))))))))))))))))))) r0 hargs
                          · have p18 := (Q.holds'_iff _ _ _).2 h18
                            simp only [c_q26, Q.holds', D.nat, E.n, E.den, BO.den, UO.den, D.toInt_int, E.i, and_true, om_0, om_10, om_20, Int.toNat_natCast] at p18
                            exact calls_of_yesV sound tab_ok specs_ok overs_ok c_y135 rfl (tellA_ok (told_cons h0 (told_cons h1 (told_cons h2 (told_cons h3 (told_cons h4 (told_cons h5 (told_cons h6 (told_cons h7 (told_cons h8 (told_cons h9 (told_cons h10 (told_cons h11 (told_cons h12 (told_cons h13 (told_cons h14 (told_cons h15 (told_cons h16 (told_cons h17 (told_cons h18 told_nil)))))))))))))))))))) r0 hargs
                    · have p15 := (Q.holds'_iff _ _ _).2 h15
                      simp only [c_q19, Q.holds', D.nat, E.n, E.den, BO.den, UO.den, D.toInt_int, E.i, and_true, om_0, om_10, om_20, Int.toNat_natCast] at p15
                      cases h16 : Q.val (om n0 n1 n2) c_q25
                      · have p16 := (Q.holds'_iff _ _ _).2 h16
                        simp only [c_q25, Q.holds', D.nat, E.n, E.den, BO.den, UO.den, D.toInt_int, E.i, and_true, om_0, om_10, om_20, Int.toNat_natCast] at p16
                        cases h17 : Q.val (om n0 n1 n2) c_q26
                        · have p17 := (Q.holds'_iff _ _ _).2 h17
                          simp only [c_q26, Q.holds', D.nat, E.n, E.den, BO.den, UO.den, D.toInt_int, E.i, and_true, om_0, om_10, om_20, Int.toNat_natCast] at p17
                          have h18 : Q.val (om n0 n1 n2) c_q43 = true := (Q.holds'_iff _ _ _).1 (by
                            simp only [c_q43, Q.holds', D.nat, E.n, E.den, BO.den, UO.den, D.toInt_int, E.i, and_true, om_0, om_10, om_20, Int.toNat_natCast]
                            all_goals (have w := k12 (by omega); simp only [Waited, UO.den, D.toInt_int] at w; have e3 := Hl (); omega))
                          have p18 := (Q.holds'_iff _ _ _).2 h18
                          try (
                            simp only [c_q43, Q.holds', D.nat, E.n, E.den, BO.den, UO.den, D.toInt_int, E.i, and_true, om_0, om_10, om_20, Int.toNat_natCast] at p18)
                          exact calls_of_yesV sound tab_ok specs_ok overs_ok c_y62 rfl (tellA_ok (told_cons h0 (told_cons h1 (told_cons h2 (told_cons h3 (told_cons h4 (told_cons h5 (told_cons h6 (told_cons h7 (told_cons h8 (told_cons h9 (told_cons h10 (told_cons h11 (told_cons h12 (told_cons h13 (told_cons h14 (told_cons h15 (told_cons h16 (told_cons h17 (told_cons h18 told_nil)))))))))))))))))))) r0 hargs
                        · have p17 := (Q.holds'_iff _ _ _).2 h17
                          simp only [c_q26, Q.holds', D.nat, E.n, E.den, BO.den, UO.den, D.toInt_int, E.i, and_true, om_0, om_10, om_20, Int.toNat_natCast] at p17
                          exact calls_of_yesV sound tab_ok specs_ok overs_ok c_y47 rfl (tellA_ok (told_cons h0 (told_cons h1 (told_cons h2 (told_cons h3 (told_cons h4 (told_cons h5 (told_cons h6 (told_cons h7 (told_cons h8 (told_cons h9 (told_cons h10 (told_cons h11 (told_cons h12 (told_cons h13 (told_cons h14 (told_cons h15 (told_cons h16 (told_cons h17 told_nil))))))))))))))))))) r0 hargs
                      · have p16 := (Q.holds'_iff _ _ _).2 h16
                        simp only [c_q25, Q.holds', D.nat, E.n, E.den, BO.den, UO.den, D.toInt_int, E.i, and_true, om_0, om_10, om_20, Int.toNat_natCast] at p16
                        cases h17 : Q.val (om n0 n1 n2) c_q26
                        · have p17 := (Q.holds'_iff _ _ _).2 h17
                          simp only [c_q26, Q.holds', D.nat, E.n, E.den, BO.den, UO.den, D.toInt_int, E.i, and_true, om_0, om_10, om_20, Int.toNat_natCast] at p17
                          exact calls_of_yesV sound tab_ok specs_ok overs_ok c_y31 rfl (tellA_ok (told_cons h0 (told_cons h1 (told_cons h2 (told_cons h3 (told_cons h4 (told_cons h5 (told_cons h6 (told_cons h7 (told_cons h8 (told_cons h9 (told_cons h10 (told_cons h11 (told_cons h12 (told_cons h13 (told_cons h14 (told_cons h15 (told_cons h16 (told_cons h17 told_nil))))))))))))))))))) r0 hargs
                        · have p17 := (Q.holds'_iff _ _ _).2 h17
                          simp only [c_q26, Q.holds', D.nat, E.n, E.den, BO.den, UO.den, D.toInt_int, E.i, and_true, om_0, om_10, om_20, Int.toNat_natCast] at p17
                          exact calls_of_yesV sound tab_ok specs_ok overs_ok c_y109 rfl (tellA_ok (told_cons h0 (told_cons h1 (told_cons h2 (told_cons h3 (told_cons h4 (told_cons h5 (told_cons h6 (told_cons h7 (told_cons h8 (told_cons h9 (told_cons h10 (told_cons h11 (told_cons h12 (told_cons h13 (told_cons h14 (told_cons h15 (told_cons h16 (told_cons h17 told_nil))))))))))))))))))) r0 hargs
                  · have p11 := (Q.holds'_iff _ _ _).2 h11
                    simp only [c_q13, Q.holds', D.nat, E.n, E.den, BO.den, UO.den, D.toInt_int, E.i, and_true, om_0, om_10, om_20, Int.toNat_natCast] at p11
                    have h12 : Q.val (om n0 n1 n2) c_q14 = true := (Q.holds'_iff _ _ _).1 (by
                      simp only [c_q14, Q.holds', D.nat, E.n, E.den, BO.den, UO.den, D.toInt_int, E.i, and_true, om_0, om_10, om_20, Int.toNat_natCast]
                      all_goals (have e1 := Hs (); omega))
                    have p12 := (Q.holds'_iff _ _ _).2 h12
                    try (
                      simp only [c_q14, Q.holds', D.nat, E.n, E.den, BO.den, UO.den, D.toInt_int, E.i, and_true, om_0, om_10, om_20, Int.toNat_natCast] at p12)
                    cases h13 : Q.val (om n0 n1 n2) c_q15
                    · have p13 := (Q.holds'_iff _ _ _).2 h13
                      simp only [c_q15, Q.holds', D.nat, E.n, E.den, BO.den, UO.den, D.toInt_int, E.i, and_true, om_0, om_10, om_20, Int.toNat_natCast] at p13
                      cases h14 : Q.val (om n0 n1 n2) c_q23
                      · have p14 := (Q.holds'_iff _ _ _).2 h14
                        simp only [c_q23, Q.holds', D.nat, E.n, E.den, BO.den, UO.den, D.toInt_int, E.i, and_true, om_0, om_10, om_20, Int.toNat_natCast] at p14
                        have h15 : Q.val (om n0 n1 n2) c_q32 = true := (Q.holds'_iff _ _ _).1 (by
                          simp only [c_q32, Q.holds', D.nat, E.n, E.den, BO.den, UO.den, D.toInt_int, E.i, and_true, om_0, om_10, om_20, Int.toNat_natCast]
                          all_goals (have w2 := k13 (by omega); simp only [Waited, UO.den, D.toInt_int] at w2; omega))
                        have p15 := (Q.holds'_iff _ _ _).2 h15
                        try (
                          simp only [c_q32, Q.holds', D.nat, E.n, E.den, BO.den, UO.den, D.toInt_int, E.i, and_true, om_0, om_10, om_20, Int.toNat_natCast] at p15)
                        have h16 : Q.val (om n0 n1 n2) c_q33 = true := (Q.holds'_iff _ _ _).1 (by
                          simp only [c_q33, Q.holds', D.nat, E.n, E.den, BO.den, UO.den, D.toInt_int, E.i, and_true, om_0, om_10, om_20, Int.toNat_natCast, i64min, i64max, inK]
                          all_goals (have w2 := k13 (by omega); simp only [Waited, UO.den, D.toInt_int] at w2; omega))
                        have p16 := (Q.holds'_iff _ _ _).2 h16
                        try (
                          simp only [c_q33, Q.holds', D.nat, E.n, E.den, BO.den, UO.den, D.toInt_int, E.i, and_true, om_0, om_10, om_20, Int.toNat_natCast, i64min, i64max, inK] at p16)
                        have h17 : Q.val (om n0 n1 n2) c_q34 = true := (Q.holds'_iff _ _ _).1 (by
                          simp only [c_q34, Q.holds', D.nat, E.n, E.den, BO.den, UO.den, D.toInt_int, E.i, and_true, om_0, om_10, om_20, Int.toNat_natCast]
                          all_goals (have w2 := k13 (by omega); simp only [Waited, UO.den, D.toInt_int] at w2; omega))
                        have p17 := (Q.holds'_iff _ _ _).2 h17
                        try (
                          simp only [c_q34, Q.holds', D.nat, E.n, E.den, BO.den, UO.den, D.toInt_int, E.i, and_true, om_0, om_10, om_20, Int.toNat_natCast] at p17)
                        have h18 : Q.val (om n0 n1 n2) c_q16 = true := (Q.holds'_iff _ _ _).1 (by
                          simp only [c_q16, Q.holds', D.nat, E.n, E.den, BO.den, UO.den, D.toInt_int, E.i, and_true, om_0, om_10, om_20, Int.toNat_natCast]
                          all_goals (have e0 := H0 (); omega))
                        have p18 := (Q.holds'_iff _ _ _).2 h18
                        try (
                          simp only [c_q16, Q.holds', D.nat, E.n, E.den, BO.den, UO.den, D.toInt_int, E.i, and_true, om_0, om_10, om_20, Int.toNat_natCast] at p18)
                        have h19 : Q.val (om n0 n1 n2) c_q17 = true := (Q.holds'_iff _ _ _).1 (by
                          simp only [c_q17, Q.holds', D.nat, E.n, E.den, BO.den, UO.den, D.toInt_int, E.i, and_true, om_0, om_10, om_20, Int.toNat_natCast]
                          all_goals (omega))
                        have p19 := (Q.holds'_iff _ _ _).2 h19
                        try (
                          simp only [c_q17, Q.holds', D.nat, E.n, E.den, BO.den, UO.den, D.toInt_int, E.i, and_true, om_0, om_10, om_20, Int.toNat_natCast] at p19)
                        have h20 : Q.val (om n0 n1 n2) c_q18 = true := (Q.holds'_iff _ _ _).1 (by
                          simp only [c_q18, Q.holds', D.nat, E.n, E.den, BO.den, UO.den, D.toInt_int, E.i, and_true, om_0, om_10, om_20, Int.toNat_natCast]
                          all_goals (have e1 := Hs (); omega))
                        have p20 := (Q.holds'_iff _ _ _).2 h20
                        try (
                          simp only [c_q18, Q.holds', D.nat, E.n, E.den, BO.den, UO.den, D.toInt_int, E.i, and_true, om_0, om_10, om_20, Int.toNat_natCast] at p20)
                        cases h21 : Q.val (om n0 n1 n2) c_q19
                        · have p21 := (Q.holds'_iff _ _ _).2 h21
                          simp only [c_q19, Q.holds', D.nat, E.n, E.den, BO.den, UO.den, D.toInt_int, E.i, and_true, om_0, om_10, om_20, Int.toNat_natCast] at p21
                          cases h22 : Q.val (om n0 n1 n2) c_q24
                          · have p22 := (Q.holds'_iff _ _ _).2 h22
                            simp only [c_q24, Q.holds', D.nat, E.n, E.den, BO.den, UO.den, D.toInt_int, E.i, and_true, om_0, om_10, om_20, Int.toNat_natCast] at p22
                            have h23 : Q.val (om n0 n1 n2) c_q29 = true := (Q.holds'_iff _ _ _).1 (by
                              simp only [c_q29, Q.holds', D.nat, E.n, E.den, BO.den, UO.den, D.toInt_int, E.i, and_true, om_0, om_10, om_20, Int.toNat_natCast]
                              all_goals (have w3 := k14 (by omega); simp only [Waited, UO.den, D.toInt_int] at w3; omega))
                            have p23 := (Q.holds'_iff _ _ _).2 h23
                            try (
                              simp only [c_q29, Q.holds', D.nat, E.n, E.den, BO.den, UO.den, D.toInt_int, E.i, and_true, om_0, om_10, om_20, Int.toNat_natCast] at p23)
                            have h24 : Q.val (om n0 n1 n2) c_q30 = true := (Q.holds'_iff _ _ _).1 (by
                              simp only [c_q30, Q.holds', D.nat, E.n, E.den, BO.den, UO.den, D.toInt_int, E.i, and_true, om_0, om_10, om_20, Int.toNat_natCast, i64min, i64max, inK]
                              all_goals (have w3 := k14 (by omega); simp only [Waited, UO.den, D.toInt_int] at w3; omega))
                            have p24 := (Q.holds'_iff _ _ _).2 h24
                            try (
                              simp only [c_q30, Q.holds', D.nat, E.n, E.den, BO.den, UO.den, D.toInt_int, E.i, and_true, om_0, om_10, om_20, Int.toNat_natCast, i64min, i64max, inK] at p24)
                            have h25 : Q.val (om n0 n1 n2) c_q31 = true := (Q.holds'_iff _ _ _).1 (by
                              simp only [c_q31, Q.holds', D.nat, E.n, E.den, BO.den, UO.den, D.toInt_int, E.i, and_true, om_0, om_10, om_20, Int.toNat_natCast]
                              all_goals (have w3 := k14 (by omega); simp only [Waited, UO.den, D.toInt_int] at w3; omega))
                            have p25 := (Q.holds'_iff _ _ _).2 h25
                            try (
                              simp only [c_q31, Q.holds', D.nat, E.n, E.den, BO.den, UO.den, D.toInt_int, E.i, and_true, om_0, om_10, om_20, Int.toNat_natCast] at p25)
                            cases h26 : Q.val (om n0 n1 n2) c_q25
                            · have p26 := (Q.holds'_iff _ _ _).2 h26
                              simp only [c_q25, Q.holds', D.nat, E.n, E.den, BO.den, UO.den, D.toInt_int, E.i, and_true, om_0, om_10, om_20, Int.toNat_natCast] at p26
                              cases h27 : Q.val (om n0 n1 n2) c_q26
                              · have p27 := (Q.holds'_iff _ _ _).2 h27
                                simp only [c_q26, Q.holds', D.nat, E.n, E.den, BO.den, UO.den, D.toInt_int, E.i, and_true, om_0, om_10, om_20, Int.toNat_natCast] at p27
                                have h28 : Q.val (om n0 n1 n2) c_q43 = true := (Q.holds'_iff _ _ _).1 (by
                                  simp only [c_q43, Q.holds', D.nat, E.n, E.den, BO.den, UO.den, D.toInt_int, E.i, and_true, om_0, om_10, om_20, Int.toNat_natCast]
                                  all_goals (have w := k12 (by omega); simp only [Waited, UO.den, D.toInt_int] at w; have e3 := Hl (); omega))
                                have p28 := (Q.holds'_iff _ _ _).2 h28
                                try (
                                  simp only [c_q43, Q.holds', D.nat, E.n, E.den, BO.den, UO.den, D.toInt_int, E.i, and_true, om_0, om_10, om_20, Int.toNat_natCast] at p28)
                                exact calls_of_yesV sound tab_ok specs_ok overs_ok c_y52 rfl (tellA_ok (told_cons h0 (told_cons h1 (told_cons h2 (told_cons h3 (told_cons h4 (told_cons h5 (told_cons h6 (told_cons h7 (told_cons h8 (told_cons h9 (told_cons h10 (told_cons h11 (told_cons h12 (told_cons h13 (told_cons h14 (told_cons h15 (told_cons h16 (told_cons h17 (told_cons h18 (told_cons h19 (told_cons h20 (told_cons h21 (told_cons h22 (told_cons h23 (told_cons h24 (told_cons h25 (told_cons h26 (told_cons h27 (told_cons h28 told_nil)))))))))))))))))))))))))))))) r0 hargs
                              · have p27 := (Q.holds'_iff _ _ _).2 h27
                                simp only [c_q26, Q.holds', D.nat, E.n, E.den, BO.den, UO.den, D.toInt_int, E.i, and_true, om_0, om_10, om_20, Int.toNat_natCast] at p27
                                exact calls_of_yesV sound tab_ok specs_ok overs_ok c_y43 rfl (tellA_ok (told_cons h0 (told_cons h1 (told_cons h2 (told_cons h3 (told_cons h4 (told_cons h5 (told_cons h6 (told_cons h7 (told_cons h8 (told_cons h9 (told_cons h10 (told_cons h11 (told_cons h12 (told_cons h13 (told_cons h14 (told_cons h15 (told_cons h16 (told_cons h17 (told_cons h18 (told_cons h19 (told_cons h20 (told_cons h21 (told_cons h22 (told_cons h23 (told_cons h24 (told_cons h25 (told_cons h26 (told_cons h27 told_nil))))))))))))))))))))))))))))) r0 hargs
                            · have p26 := (Q.holds'_iff _ _ _).2 h26
                              simp only [c_q25, Q.holds', D.nat, E.n, E.den, BO.den, UO.den, D.toInt_int, E.i, and_true, om_0, om_10, om_20, Int.toNat_natCast] at p26
                              cases h27 : Q.val (om n0 n1 n2) c_q26
                              · have p27 := (Q.holds'_iff _ _ _).2 h27
                                simp only [c_q26, Q.holds', D.nat, E.n, E.den, BO.den, UO.den, D.toInt_int, E.i, and_true, om_0, om_10, om_20, Int.toNat_natCast] at p27
                                exact calls_of_yesV sound tab_ok specs_ok overs_ok c_y21 rfl (tellA_ok (told_cons h0 (told_cons h1 (told_cons h2 (told_cons h3 (told_cons h4 (told_cons h5 (told_cons h6 (told_cons h7 (told_cons h8 (told_cons h9 (told_cons h10 (told_cons h11 (told_cons h12 (told_cons h13 (told_cons h14 (told_cons h15 (told_cons h16 (told_cons h17 (told_cons h18 (told_cons h19 (told_cons h20 (told_cons h21 (told_cons h22 (told_cons h23 (told_cons h24 (told_cons h25 (told_cons h26 (told_cons h27 told_nil))))))))))))))))))))))))))))) r0 hargs
                              · have p27 := (Q.holds'_iff _ _ _).2 h27
                                simp only [c_q26, Q.holds', D.nat, E.n, E.den, BO.den, UO.den, D.toInt_int, E.i, and_true, om_0, om_10, om_20, Int.toNat_natCast] at p27
                                exact calls_of_yesV sound tab_ok specs_ok overs_ok c_y111 rfl (tellA_ok (told_cons h0 (told_cons h1 (told_cons h2 (told_cons h3 (told_cons h4 (told_cons h5 (told_cons h6 (told_cons h7 (told_cons h8 (told_cons h9 (told_cons h10 (told_cons h11 (told_cons h12 (told_cons h13 (told_cons h14 (told_cons h15 (told_cons h16 (told_cons h17 (told_cons h18 (told_cons h19 (told_cons h20 (told_cons h21 (told_cons h22 (told_cons h23 (told_cons h24 (told_cons h25 (told_cons h26 (told_cons h27 told_nil))))))))))))))))))))))))))))) r0 hargs
                          · have p22 := (Q.holds'_iff _ _ _).2 h22
                            simp only [c_q24, Q.holds', D.nat, E.n, E.den, BO.den, UO.den, D.toInt_int, E.i, and_true, om_0, om_10, om_20, Int.toNat_natCast] at p22
                            cases h23 : Q.val (om n0 n1 n2) c_q25
                            · have p23 := (Q.holds'_iff _ _ _).2 h23
                              simp only [c_q25, Q.holds', D.nat, E.n, E.den, BO.den, UO.den, D.toInt_int, E.i, and_true, om_0, om_10, om_20, Int.toNat_natCast] at p23
                              cases h24 : Q.val (om n0 n1 n2) c_q26
                              · have p24 := (Q.holds'_iff _ _ _).2 h24
                                simp only [c_q26, Q.holds', D.nat, E.n, E.den, BO.den, UO.den, D.toInt_int, E.i, and_true, om_0, om_10, om_20, Int.toNat_natCast] at p24
                                have h25 : Q.val (om n0 n1 n2) c_q43 = true := (Q.holds'_iff _ _ _).1 (by
                                  simp only [c_q43, Q.holds', D.nat, E.n, E.den, BO.den, UO.den, D.toInt_int, E.i, and_true, om_0, om_10, om_20, Int.toNat_natCast]
                                  all_goals (have w := k12 (by omega); simp only [Waited, UO.den, D.toInt_int] at w; have e3 := Hl (); omega))
                                have p25 := (Q.holds'_iff _ _ _).2 h25
                                try (
                                  simp only [c_q43, Q.holds', D.nat, E.n, E.den, BO.den, UO.den, D.toInt_int, E.i, and_true, om_0, om_10, om_20, Int.toNat_natCast] at p25)
                                exact calls_of_yesV sound tab_ok specs_ok overs_ok c_y141 rfl (tellA_ok (told_cons h0 (told_cons h1 (told_cons h2 (told_cons h3 (told_cons h4 (told_cons h5 (told_cons h6 (told_cons h7 (told_cons h8 (told_cons h9 (told_cons h10 (told_cons h11 (told_cons h12 (told_cons h13 (told_cons h14 (told_cons h15 (told_cons h16 (told_cons h17 (told_cons h18 (told_cons h19 (told_cons h20 (told_cons h21 (told_cons h22 (told_cons h23 (told_cons h24 (told_cons h25 told_nil))))))))))))))))))))))))))) r0 hargs
                              · have p24 := (Q.holds'_iff _ _ _).2 h24
                                simp only [c_q26, Q.holds', D.nat, E.n, E.den, BO.den, UO.den, D.toInt_int, E.i, and_true, om_0, om_10, om_20, Int.toNat_natCast] at p24
                                exact calls_of_yesV sound tab_ok specs_ok overs_ok c_y147 rfl (tellA_ok (told_cons h0 (told_cons h1 (told_cons h2 (told_cons h3 (told_cons h4 (told_cons h5 (told_cons h6 (told_cons h7 (told_cons h8 (told_cons h9 (told_cons h10 (told_cons h11 (told_cons h12 (told_cons h13 (told_cons h14 (told_cons h15 (told_cons h16 (told_cons h17 (told_cons h18 (told_cons h19 (told_cons h20 (told_cons h21 (told_cons h22 (told_cons h23 (told_cons h24 told_nil)))))))))))))))))))))))))) r0 hargs
                            · have p23 := (Q.holds'_iff _ _ _).2 h23
                              simp only [c_q25, Q.holds', D.nat, E.n, E.den, BO.den, UO.den, D.toInt_int, E.i, and_true, om_0, om_10, om_20, Int.toNat_natCast] at p23
                              cases h24 : Q.val (om n0 n1 n2) c_q26
                              · have p24 := (Q.holds'_iff _ _ _).2 h24
                                simp only [c_q26, Q.holds', D.nat, E.n, E.den, BO.den, UO.den, D.toInt_int, E.i, and_true, om_0, om_10, om_20, Int.toNat_natCast] at p24
                                exact calls_of_yesV sound tab_ok specs_ok overs_ok c_y110 rfl (tellA_ok (told_cons h0 (told_cons h1 (told_cons h2 (told_cons h3 (told_cons h4 (told_cons h5 (told_cons h6 (told_cons h7 (told_cons h8 (told_cons h9 (told_cons h10 (told_cons h11 (told_cons h12 (told_cons h13 (told_cons h14 (told_cons h15 (told_cons h16 (told_cons h17 (told_cons h18 (told_cons h19 (told_cons h20 (told_cons h21 (told_cons h22 (told_cons h23 (told_cons h24 told_nil)))))))))))))))))))))))))) r0 hargs
                              · have p24 := (Q.holds'_iff _ _ _).2 h24
                                simp only [c_q26, Q.holds', D.nat, E.n, E.den, BO.den, UO.den, D.toInt_int, E.i, and_true, om_0, om_10, om_20, Int.toNat_natCast] at p24
                                exact calls_of_yesV sound tab_ok specs_ok overs_ok c_y136 rfl (tellA_ok (told_cons h0 (told_cons h1 (told_cons h2 (told_cons h3 (told_cons h4 (told_cons h5 (told_cons h6 (told_cons h7 (told_cons h8 (told_cons h9 (told_cons h10 (told_cons h11 (told_cons h12 (told_cons h13 (told_cons h14 (told_cons h15 (told_cons h16 (told_cons h17 (told_cons h18 (told_cons h19 (told_cons h20 (told_cons h21 (told_cons h22 (told_cons h23 (told_cons h24 told_nil)))))))))))))))))))))))))) r0 hargs
                        · have p21 := (Q.holds'_iff _ _ _).2 h21
                          simp only [c_q19, Q.holds', D.nat, E.n, E.den, BO.den, UO.den, D.toInt_int, E.i, and_true, om_0, om_10, om_20, Int.toNat_natCast] at p21
                          cases h22 : Q.val (om n0 n1 n2) c_q25
                          · have p22 := (Q.holds'_iff _ _ _).2 h22
                            simp only [c_q25, Q.holds', D.nat, E.n, E.den, BO.den, UO.den, D.toInt_int, E.i, and_true, om_0, om_10, om_20, Int.toNat_natCast] at p22
                            cases h23 : Q.val (om n0 n1 n2) c_q26
                            · have p23 := (Q.holds'_iff _ _ _).2 h23
                              simp only [c_q26, Q.holds', D.nat, E.n, E.den, BO.den, UO.den, D.toInt_int, E.i, and_true, om_0, om_10, om_20, Int.toNat_natCast] at p23
                              have h24 : Q.val (om n0 n1 n2) c_q43 = true := (Q.holds'_iff _ _ _).1 (by
                                simp only [c_q43, Q.holds', D.nat, E.n, E.den, BO.den, UO.den, D.toInt_int, E.i, and_true, om_0, om_10, om_20, Int.toNat_natCast]
                                all_goals (have w := k12 (by omega); simp only [Waited, UO.den, D.toInt_int] at w; have e3 := Hl (); omega))
                              have p24 := (Q.holds'_iff _ _ _).2 h24
                              try (
                                simp only [c_q43, Q.holds', D.nat, E.n, E.den, BO.den, UO.den, D.toInt_int, E.i, and_true, om_0, om_10, om_20, Int.toNat_natCast] at p24)
                              exact calls_of_yesV sound tab_ok specs_ok overs_ok c_y53 rfl (tellA_ok (told_cons h0 (told_cons h1 (told_cons h2 (told_cons h3 (told_cons h4 (told_cons h5 (told_cons h6 (told_cons h7 (told_cons h8 (told_cons h9 (told_cons h10 (told_cons h11 (told_cons h12 (told_cons h13 (told_cons h14 (told_cons h15 (told_cons h16 (told_cons h17 (told_cons h18 (told_cons h19 (told_cons h20 (told_cons h21 (told_cons h22 (told_cons h23 (told_cons h24 told_nil)))))))))))))))))))))))))) r0 hargs
                            · have p23 := (Q.holds'_iff _ _ _).2 h23
                              simp only [c_q26, Q.holds', D.nat, E.n, E.den, BO.den, UO.den, D.toInt_int, E.i, and_true, om_0, om_10, om_20, Int.toNat_natCast] at p23
                              exact calls_of_yesV sound tab_ok specs_ok overs_ok c_y44 rfl (tellA_ok (told_cons h0 (told_cons h1 (told_cons h2 (told_cons h3 (told_cons h4 (told_cons h5 (told_cons h6 (told_cons h7 (told_cons h8 (told_cons h9 (told_cons h10 (told_cons h11 (told_cons h12 (told_cons h13 (told_cons h14 (told_cons h15 (told_cons h16 (told_cons h17 (told_cons h18 (told_cons h19 (told_cons h20 (told_cons h21 (told_cons h22 (told_cons h23 told_nil))))))))))))))))))))))))) r0 hargs
                          · have p22 := (Q.holds'_iff _ _ _).2 h22
                            simp only [c_q25, Q.holds', D.nat, E.n, E.den, BO.den, UO.den, D.toInt_int, E.i, and_true, om_0, om_10, om_20, Int.toNat_natCast] at p22
                            cases h23 : Q.val (om n0 n1 n2) c_q26
                            · have p23 := (Q.holds'_iff _ _ _).2 h23
                              simp only [c_q26, Q.holds', D.nat, E.n, E.den, BO.den, UO.den, D.toInt_int, E.i, and_true, om_0, om_10, om_20, Int.toNat_natCast] at p23
                              exact calls_of_yesV sound tab_ok specs_ok overs_ok c_y22 rfl (tellA_ok (told_cons h0 (told_cons h1 (told_cons h2 (told_cons h3 (told_cons h4 (told_cons h5 (told_cons h6 (told_cons h7 (told_cons h8 (told_cons h9 (told_cons h10 (told_cons h11 (told_cons h12 (told_cons h13 (told_cons h14 (told_cons h15 (told_cons h16 (told_cons h17 (told_cons h18 (told_cons h19 (told_cons h20 (told_cons h21 (told_cons h22 (told_cons h23 told_nil))))))))))))))))))))))))) r0 hargs
                            · have p23 := (Q.holds'_iff _ _ _).2 h23
                              simp only [c_q26, Q.holds', D.nat, E.n, E.den, BO.den, UO.den, D.toInt_int, E.i, and_true, om_0, om_10, om_20, Int.toNat_natCast] at p23
                              exact calls_of_yesV sound tab_ok specs_ok overs_ok c_y112 rfl (tellA_ok (told_cons h0 (told_cons h1 (told_cons h2 (told_cons h3 (told_cons h4 (told_cons h5 (told_cons h6 (told_cons h7 (told_cons h8 (told_cons h9 (told_cons h10 (told_cons h11 (told_cons h12 (told_cons h13 (told_cons h14 (told_cons h15 (told_cons h16 (told_cons h17 (told_cons h18 (told_cons h19 (told_cons h20 (told_cons h21 (told_cons h22 (told_cons h23 told_nil))))))))))))))))))))))))) r0 hargs
                      · have p14 := (Q.holds'_iff _ _ _).2 h14
                        simp only [c_q23, Q.holds', D.nat, E.n, E.den, BO.den, UO.den, D.toInt_int, E.i, and_true, om_0, om_10, om_20, Int.toNat_natCast] at p14
                        have h15 : Q.val (om n0 n1 n2) c_q16 = true := (Q.holds'_iff _ _ _).1 (by
                          simp only [c_q16, Q.holds', D.nat, E.n, E.den, BO.den, UO.den, D.toInt_int, E.i, and_true, om_0, om_10, om_20, Int.toNat_natCast]
                          all_goals (have e0 := H0 (); omega))
                        have p15 := (Q.holds'_iff _ _ _).2 h15
                        try (
                          simp only [c_q16, Q.holds', D.nat, E.n, E.den, BO.den, UO.den, D.toInt_int, E.i, and_true, om_0, om_10, om_20, Int.toNat_natCast] at p15)
                        have h16 : Q.val (om n0 n1 n2) c_q17 = true := (Q.holds'_iff _ _ _).1 (by
                          simp only [c_q17, Q.holds', D.nat, E.n, E.den, BO.den, UO.den, D.toInt_int, E.i, and_true, om_0, om_10, om_20, Int.toNat_natCast]
                          all_goals (omega))
                        have p16 := (Q.holds'_iff _ _ _).2 h16
                        try (
                          simp only [c_q17, Q.holds', D.nat, E.n, E.den, BO.den, UO.den, D.toInt_int, E.i, and_true, om_0, om_10, om_20, Int.toNat_natCast] at p16)
                        have h17 : Q.val (om n0 n1 n2) c_q18 = true := (Q.holds'_iff _ _ _).1 (by
                          simp only [c_q18, Q.holds', D.nat, E.n, E.den, BO.den, UO.den, D.toInt_int, E.i, and_true, om_0, om_10, om_20, Int.toNat_natCast]
                          all_goals (have e1 := Hs (); omega))
                        have p17 := (Q.holds'_iff _ _ _).2 h17
                        try (
                          simp only [c_q18, Q.holds', D.nat, E.n, E.den, BO.den, UO.den, D.toInt_int, E.i, and_true, om_0, om_10, om_20, Int.toNat_natCast] at p17)
                        cases h18 : Q.val (om n0 n1 n2) c_q19
                        · have p18 := (Q.holds'_iff _ _ _).2 h18
                          simp only [c_q19, Q.holds', D.nat, E.n, E.den, BO.den, UO.den, D.toInt_int, E.i, and_true, om_0, om_10, om_20, Int.toNat_natCast] at p18
                          cases h19 : Q.val (om n0 n1 n2) c_q24
                          · have p19 := (Q.holds'_iff _ _ _).2 h19
                            simp only [c_q24, Q.holds', D.nat, E.n, E.den, BO.den, UO.den, D.toInt_int, E.i, and_true, om_0, om_10, om_20, Int.toNat_natCast] at p19
                            have h20 : Q.val (om n0 n1 n2) c_q29 = true := (Q.holds'_iff _ _ _).1 (by
                              simp only [c_q29, Q.holds', D.nat, E.n, E.den, BO.den, UO.den, D.toInt_int, E.i, and_true, om_0, om_10, om_20, Int.toNat_natCast]
                              all_goals (have w3 := k14 (by omega); simp only [Waited, UO.den, D.toInt_int] at w3; omega))
                            have p20 := (Q.holds'_iff _ _ _).2 h20
                            try (
                              simp only [c_q29, Q.holds', D.nat, E.n, E.den, BO.den, UO.den, D.toInt_int, E.i, and_true, om_0, om_10, om_20, Int.toNat_natCast] at p20)
                            have h21 : Q.val (om n0 n1 n2) c_q30 = true := (Q.holds'_iff _ _ _).1 (by
                              simp only [c_q30, Q.holds', D.nat, E.n, E.den, BO.den, UO.den, D.toInt_int, E.i, and_true, om_0, om_10, om_20, Int.toNat_natCast, i64min, i64max, inK]
                              all_goals (have w3 := k14 (by omega); simp only [Waited, UO.den, D.toInt_int] at w3; omega))
                            have p21 := (Q.holds'_iff _ _ _).2 h21
                            try (
                              simp only [c_q30, Q.holds', D.nat, E.n, E.den, BO.den, UO.den, D.toInt_int, E.i, and_true, om_0, om_10, om_20, Int.toNat_natCast, i64min, i64max, inK] at p21)
                            have h22 : Q.val (om n0 n1 n2) c_q31 = true := (Q.holds'_iff _ _ _).1 (by
                              simp only [c_q31, Q.holds', D.nat, E.n, E.den, BO.den, UO.den, D.toInt_int, E.i, and_true, om_0, om_10, om_20, Int.toNat_natCast]
                              all_goals (have w3 := k14 (by omega); simp only [Waited, UO.den, D.toInt_int] at w3; omega))
                            have p22 := (Q.holds'_iff _ _ _).2 h22
                            try (
                              simp only [c_q31, Q.holds', D.nat, E.n, E.den, BO.den, UO.den, D.toInt_int, E.i, and_true, om_0, om_10, om_20, Int.toNat_natCast] at p22)
                            cases h23 : Q.val (om n0 n1 n2) c_q25
                            · have p23 := (Q.holds'_iff _ _ _).2 h23
                              simp only [c_q25, Q.holds', D.nat, E.n, E.den, BO.den, UO.den, D.toInt_int, E.i, and_true, om_0, om_10, om_20, Int.toNat_natCast] at p23
                              cases h24 : Q.val (om n0 n1 n2) c_q26
                              · have p24 := (Q.holds'_iff _ _ _).2 h24
                                simp only [c_q26, Q.holds', D.nat, E.n, E.den, BO.den, UO.den, D.toInt_int, E.i, and_true, om_0, om_10, om_20, Int.toNat_natCast] at p24
                                have h25 : Q.val (om n0 n1 n2) c_q43 = true := (Q.holds'_iff _ _ _).1 (by
                                  simp only [c_q43, Q.holds', D.nat, E.n, E.den, BO.den, UO.den, D.toInt_int, E.i, and_true, om_0, om_10, om_20, Int.toNat_natCast]
                                  all_goals (have w := k12 (by omega); simp only [Waited, UO.den, D.toInt_int] at w; have e3 := Hl (); omega))
                                have p25 := (Q.holds'_iff _ _ _).2 h25
                                try (
                                  simp only [c_q43, Q.holds', D.nat, E.n, E.den, BO.den, UO.den, D.toInt_int, E.i, and_true, om_0, om_10, om_20, Int.toNat_natCast] at p25)
                                exact calls_of_yesV sound tab_ok specs_ok overs_ok c_y51 rfl (tellA_ok (told_cons h0 (told_cons h1 (told_cons h2 (told_cons h3 (told_cons h4 (told_cons h5 (told_cons h6 (told_cons h7 (told_cons h8 (told_cons h9 (told_cons h10 (told_cons h11 (told_cons h12 (told_cons h13 (told_cons h14 (told_cons h15 (told_cons h16 (told_cons h17 (told_cons h18 (told_cons h19 (told_cons h20 (told_cons h21 (told_cons h22 (told_cons h23 (told_cons h24 (told_cons h25 told_nil))))))))))))))))))))))))))) r0 hargs
                              · have p24 := (Q.holds'_iff _ _ _).2 h24
                                simp only [c_q26, Q.holds', D.nat, E.n, E.den, BO.den, UO.den, D.toInt_int, E.i, and_true, om_0, om_10, om_20, Int.toNat_natCast] at p24
                                exact calls_of_yesV sound tab_ok specs_ok overs_ok c_y42 rfl (tellA_ok (told_cons h0 (told_cons h1 (told_cons h2 (told_cons h3 (told_cons h4 (told_cons h5 (told_cons h6 (told_cons h7 (told_cons h8 (told_cons h9 (told_cons h10 (told_cons h11 (told_cons h12 (told_cons h13 (told_cons h14 (told_cons h15 (told_cons h16 (told_cons h17 (told_cons h18 (told_cons h19 (told_cons h20 (told_cons h21 (told_cons h22 (told_cons h23 (told_cons h24 told_nil)))))))))))))))))))))))))) r0 hargs
                            · have p23 := (Q.holds'_iff _ _ _).2 h23
                              simp only [c_q25, Q.holds', D.nat, E.n, E.den, BO.den, UO.den, D.toInt_int, E.i, and_true, om_0, om_10, om_20, Int.toNat_natCast] at p23
                              cases h24 : Q.val (om n0 n1 n2) c_q26
                              · have p24 := (Q.holds'_iff _ _ _).2 h24
                                simp only [c_q26, Q.holds', D.nat, E.n, E.den, BO.den, UO.den, D.toInt_int, E.i, and_true, om_0, om_10, om_20, Int.toNat_natCast] at p24
                                exact calls_of_yesV sound tab_ok specs_ok overs_ok c_y20 rfl (tellA_ok (told_cons h0 (told_cons h1 (told_cons h2 (told_cons h3 (told_cons h4 (told_cons h5 (told_cons h6 (told_cons h7 (told_cons h8 (told_cons h9 (told_cons h10 (told_cons h11 (told_cons h12 (told_cons h13 (told_cons h14 (told_cons h15 (told_cons h16 (told_cons h17 (told_cons h18 (told_cons h19 (told_cons h20 (told_cons h21 (told_cons h22 (told_cons h23 (told_cons h24 told_nil)))))))))))))))))))))))))) r0 hargs
                              · have p24 := (Q.holds'_iff _ _ _).2 h24
                                simp only [c_q26, Q.holds', D.nat, E.n, E.den, BO.den, UO.den, D.toInt_int, E.i, and_true, om_0, om_10, om_20, Int.toNat_natCast] at p24
                                exact calls_of_yesV sound tab_ok specs_ok overs_ok c_y113 rfl (tellA_ok (told_cons h0 (told_cons h1 (told_cons h2 (told_cons h3 (told_cons h4 (told_cons h5 (told_cons h6 (told_cons h7 (told_cons h8 (told_cons h9 (told_cons h10 (told_cons h11 (told_cons h12 (told_cons h13 (told_cons h14 (told_cons h15 (told_cons h16 (told_cons h17 (told_cons h18 (told_cons h19 (told_cons h20 (told_cons h21 (told_cons h22 (told_cons h23 (told_cons h24 told_nil)))))))))))))))))))))))))) r0 hargs
                          · have p19 := (Q.holds'_iff _ _ _).2 h19
                            simp only [c_q24, Q.holds', D.nat, E.n, E.den, BO.den, UO.den, D.toInt_int, E.i, and_true, om_0, om_10, om_20, Int.toNat_natCast] at p19
                            cases h20 : Q.val (om n0 n1 n2) c_q25
                            · have p20 := (Q.holds'_iff _ _ _).2 h20
                              simp only [c_q25, Q.holds', D.nat, E.n, E.den, BO.den, UO.den, D.toInt_int, E.i, and_true, om_0, om_10, om_20, Int.toNat_natCast] at p20
                              cases h21 : Q.val (om n0 n1 n2) c_q26
                              · have p21 := (Q.holds'_iff _ _ _).2 h21
                                simp only [c_q26, Q.holds', D.nat, E.n, E.den, BO.den, UO.den, D.toInt_int, E.i, and_true, om_0, om_10, om_20, Int.toNat_natCast] at p21
                                have h22 : Q.val (om n0 n1 n2) c_q43 = true := (Q.holds'_iff _ _ _).1 (by
                                  simp only [c_q43, Q.holds', D.nat, E.n, E.den, BO.den, UO.den, D.toInt_int, E.i, and_true, om_0, om_10, om_20, Int.toNat_natCast]
                                  all_goals (have w := k12 (by omega); simp only [Waited, UO.den, D.toInt_int] at w; have e3 := Hl (); omega))
                                have p22 := (Q.holds'_iff _ _ _).2 h22
                                try (
                                  simp only [c_q43, Q.holds', D.nat, E.n, E.den, BO.den, UO.den, D.toInt_int, E.i, and_true, om_0, om_10, om_20, Int.toNat_natCast] at p22)
                                exact calls_of_yesV sound tab_ok specs_ok overs_ok c_y54 rfl (tellA_ok (told_cons h0 (told_cons h1 (told_cons h2 (told_cons h3 (told_cons h4 (told_cons h5 (told_cons h6 (told_cons h7 (told_cons h8 (told_cons h9 (told_cons h10 (told_cons h11 (told_cons h12 (told_cons h13 (told_cons h14 (told_cons h15 (told_cons h16 (told_cons h17 (told_cons h18 (told_cons h19 (told_cons h20 (told_cons h21 (told_cons h22 told_nil)))))))))))))))))))))))) r0 hargs
                              · have p21 := (Q.holds'_iff _ _ _).2 h21
                                simp only [c_q26, Q.holds', D.nat, E.n, E.den, BO.den, UO.den, D.toInt_int, E.i, and_true, om_0, om_10, om_20, Int.toNat_natCast] at p21
                                exact calls_of_yesV sound tab_ok specs_ok overs_ok c_y41 rfl (tellA_ok (told_cons h0 (told_cons h1 (told_cons h2 (told_cons h3 (told_cons h4 (told_cons h5 (told_cons h6 (told_cons h7 (told_cons h8 (told_cons h9 (told_cons h10 (told_cons h11 (told_cons h12 (told_cons h13 (told_cons h14 (told_cons h15 (told_cons h16 (told_cons h17 (told_cons h18 (told_cons h19 (told_cons h20 (told_cons h21 told_nil))))))))))))))))))))))) r0 hargs
                            · have p20 := (Q.holds'_iff _ _ _).2 h20
                              simp only [c_q25, Q.holds', D.nat, E.n, E.den, BO.den, UO.den, D.toInt_int, E.i, and_true, om_0, om_10, om_20, Int.toNat_natCast] at p20
                              cases h21 : Q.val (om n0 n1 n2) c_q26
                              · have p21 := (Q.holds'_iff _ _ _).2 h21
                                simp only [c_q26, Q.holds', D.nat, E.n, E.den, BO.den, UO.den, D.toInt_int, E.i, and_true, om_0, om_10, om_20, Int.toNat_natCast] at p21
                                exact calls_of_yesV sound tab_ok specs_ok overs_ok c_y19 rfl (tellA_ok (told_cons h0 (told_cons h1 (told_cons h2 (told_cons h3 (told_cons h4 (told_cons h5 (told_cons h6 (told_cons h7 (told_cons h8 (told_cons h9 (told_cons h10 (told_cons h11 (told_cons h12 (told_cons h13 (told_cons h14 (told_cons h15 (told_cons h16 (told_cons h17 (told_cons h18 (told_cons h19 (told_cons h20 (told_cons h21 told_nil))))))))))))))))))))))) r0 hargs
                              · have p21 := (Q.holds'_iff _ _ _).2 h21
                                simp only [c_q26, Q.holds', D.nat, E.n, E.den, BO.den, UO.den, D.toInt_int, E.i, and_true, om_0, om_10, om_20, Int.toNat_natCast] at p21
                                exact calls_of_yesV sound tab_ok specs_ok overs_ok c_y114 rfl (tellA_ok (told_cons h0 (told_cons h1 (told_cons h2 (told_cons h3 (told_cons h4 (told_cons h5 (told_cons h6 (told_cons h7 (told_cons h8 (told_cons h9 (told_cons h10 (told_cons h11 (told_cons h12 (told_cons h13 (told_cons h14 (told_cons h15 (told_cons h16 (told_cons h17 (told_cons h18 (told_cons h19 (told_cons h20 (told_cons h21 told_nil))))))))))))))))))))))) r0 hargs
                        · have p18 := (Q.holds'_iff _ _ _).2 h18
                          simp only [c_q19, Q.holds', D.nat, E.n, E.den, BO.den, UO.den, D.toInt_int, E.i, and_true, om_0, om_10, om_20, Int.toNat_natCast] at p18
                          cases h19 : Q.val (om n0 n1 n2) c_q25
                          · have p19 := (Q.holds'_iff _ _ _).2 h19
                            simp only [c_q25, Q.holds', D.nat, E.n, E.den, BO.den, UO.den, D.toInt_int, E.i, and_true, om_0, om_10, om_20, Int.toNat_natCast] at p19
                            cases h20 : Q.val (om n0 n1 n2) c_q26
                            · have p20 := (Q.holds'_iff _ _ _).2 h20
                              simp only [c_q26, Q.holds', D.nat, E.n, E.den, BO.den, UO.den, D.toInt_int, E.i, and_true, om_0, om_10, om_20, Int.toNat_natCast] at p20
                              have h21 : Q.val (om n0 n1 n2) c_q43 = true := (Q.holds'_iff _ _ _).1 (by
                                simp only [c_q43, Q.holds', D.nat, E.n, E.den, BO.den, UO.den, D.toInt_int, E.i, and_true, om_0, om_10, om_20, Int.toNat_natCast]
                                all_goals (have w := k12 (by omega); simp only [Waited, UO.den, D.toInt_int] at w; have e3 := Hl (); omega))
                              have p21 := (Q.holds'_iff _ _ _).2 h21
                              try (
                                simp only [c_q43, Q.holds', D.nat, E.n, E.den, BO.den, UO.den, D.toInt_int, E.i, and_true, om_0, om_10, om_20, Int.toNat_natCast] at p21)
                              exact calls_of_yesV sound tab_ok specs_ok overs_ok c_y56 rfl (tellA_ok (told_cons h0 (told_cons h1 (told_cons h2 (told_cons h3 (told_cons h4 (told_cons h5 (told_cons h6 (told_cons h7 (told_cons h8 (told_cons h9 (told_cons h10 (told_cons h11 (told_cons h12 (told_cons h13 (told_cons h14 (told_cons h15 (told_cons h16 (told_cons h17 (told_cons h18 (told_cons h19 (told_cons h20 (told_cons h21 told_nil))))))))))))))))))))))) r0 hargs
                            · have p20 := (Q.holds'_iff _ _ _).2 h20
                              simp only [c_q26, Q.holds', D.nat, E.n, E.den, BO.den, UO.den, D.toInt_int, E.i, and_true, om_0, om_10, om_20, Int.toNat_natCast] at p20
                              exact calls_of_yesV sound tab_ok specs_ok overs_ok c_y46 rfl (tellA_ok (told_cons h0 (told_cons h1 (told_cons h2 (told_cons h3 (told_cons h4 (told_cons h5 (told_cons h6 (told_cons h7 (told_cons h8 (told_cons h9 (told_cons h10 (told_cons h11 (told_cons h12 (told_cons h13 (told_cons h14 (told_cons h15 (told_cons h16 (told_cons h17 (told_cons h18 (told_cons h19 (told_cons h20 told_nil)))))))))))))))))))))) r0 hargs
                          · have p19 := (Q.holds'_iff _ _ _).2 h19
                            simp only [c_q25, Q.holds', D.nat, E.n, E.den, BO.den, UO.den, D.toInt_int, E.i, and_true, om_0, om_10, om_20, Int.toNat_natCast] at p19
                            cases h20 : Q.val (om n0 n1 n2) c_q26
                            · have p20 := (Q.holds'_iff _ _ _).2 h20
                              simp only [c_q26, Q.holds', D.nat, E.n, E.den, BO.den, UO.den, D.toInt_int, E.i, and_true, om_0, om_10, om_20, Int.toNat_natCast] at p20
                              exact calls_of_yesV sound tab_ok specs_ok overs_ok c_y30 rfl (tellA_ok (told_cons h0 (told_cons h1 (told_cons h2 (told_cons h3 (told_cons h4 (told_cons h5 (told_cons h6 (told_cons h7 (told_cons h8 (told_cons h9 (told_cons h10 (told_cons h11 (told_cons h12 (told_cons h13 (told_cons h14 (told_cons h15 (told_cons h16 (told_cons h17 (told_cons h18 (told_cons h19 (told_cons h20 told_nil)))))))))))))))))))))) r0 hargs
                            · have p20 := (Q.holds'_iff _ _ _).2 h20
                              simp only [c_q26, Q.holds', D.nat, E.n, E.den, BO.den, UO.den, D.toInt_int, E.i, and_true, om_0, om_10, om_20, Int.toNat_natCast] at p20
                              exact calls_of_yesV sound tab_ok specs_ok overs_ok c_y115 rfl (tellA_ok (told_cons h0 (told_cons h1 (told_cons h2 (told_cons h3 (told_cons h4 (told_cons h5 (told_cons h6 (told_cons h7 (told_cons h8 (told_cons h9 (told_cons h10 (told_cons h11 (told_cons h12 (told_cons h13 (told_cons h14 (told_cons h15 (told_cons h16 (told_cons h17 (told_cons h18 (told_cons h19 (told_cons h20 told_nil)))))))))))))))))))))) r0 hargs
                    · have p13 := (Q.holds'_iff _ _ _).2 h13
                      simp only [c_q15, Q.holds', D.nat, E.n, E.den, BO.den, UO.den, D.toInt_int, E.i, and_true, om_0, om_10, om_20, Int.toNat_natCast] at p13
                      have h14 : Q.val (om n0 n1 n2) c_q16 = true := (Q.holds'_iff _ _ _).1 (by
                        simp only [c_q16, Q.holds', D.nat, E.n, E.den, BO.den, UO.den, D.toInt_int, E.i, and_true, om_0, om_10, om_20, Int.toNat_natCast]
                        all_goals (have e0 := H0 (); omega))
                      have p14 := (Q.holds'_iff _ _ _).2 h14
                      try (
                        simp only [c_q16, Q.holds', D.nat, E.n, E.den, BO.den, UO.den, D.toInt_int, E.i, and_true, om_0, om_10, om_20, Int.toNat_natCast] at p14)
                      have h15 : Q.val (om n0 n1 n2) c_q17 = true := (Q.holds'_iff _ _ _).1 (by
                        simp only [c_q17, Q.holds', D.nat, E.n, E.den, BO.den, UO.den, D.toInt_int, E.i, and_true, om_0, om_10, om_20, Int.toNat_natCast]
                        all_goals (omega))
                      have p15 := (Q.holds'_iff _ _ _).2 h15
                      try (
                        simp only [c_q17, Q.holds', D.nat, E.n, E.den, BO.den, UO.den, D.toInt_int, E.i, and_true, om_0, om_10, om_20, Int.toNat_natCast] at p15)
                      have h16 : Q.val (om n0 n1 n2) c_q18 = true := (Q.holds'_iff _ _ _).1 (by
                        simp only [c_q18, Q.holds', D.nat, E.n, E.den, BO.den, UO.den, D.toInt_int, E.i, and_true, om_0, om_10, om_20, Int.toNat_natCast]
                        all_goals (have e1 := Hs (); omega))
                      have p16 := (Q.holds'_iff _ _ _).2 h16
                      try (
                        simp only [c_q18, Q.holds', D.nat, E.n, E.den, BO.den, UO.den, D.toInt_int, E.i, and_true, om_0, om_10, om_20, Int.toNat_natCast] at p16)
                      cases h17 : Q.val (om n0 n1 n2) c_q19
                      · have p17 := (Q.holds'_iff _ _ _).2 h17
                        simp only [c_q19, Q.holds', D.nat, E.n, E.den, BO.den, UO.den, D.toInt_int, E.i, and_true, om_0, om_10, om_20, Int.toNat_natCast] at p17
                        cases h18 : Q.val (om n0 n1 n2) c_q24
                        · have p18 := (Q.holds'_iff _ _ _).2 h18
                          simp only [c_q24, Q.holds', D.nat, E.n, E.den, BO.den, UO.den, D.toInt_int, E.i, and_true, om_0, om_10, om_20, Int.toNat_natCast] at p18
                          have h19 : Q.val (om n0 n1 n2) c_q29 = true := (Q.holds'_iff _ _ _).1 (by
                            simp only [c_q29, Q.holds', D.nat, E.n, E.den, BO.den, UO.den, D.toInt_int, E.i, and_true, om_0, om_10, om_20, Int.toNat_natCast]
                            all_goals (have w3 := k14 (by omega); simp only [Waited, UO.den, D.toInt_int] at w3; omega))
                          have p19 := (Q.holds'_iff _ _ _).2 h19
                          try (
                            simp only [c_q29, Q.holds', D.nat, E.n, E.den, BO.den, UO.den, D.toInt_int, E.i, and_true, om_0, om_10, om_20, Int.toNat_natCast] at p19)
                          have h20 : Q.val (om n0 n1 n2) c_q30 = true := (Q.holds'_iff _ _ _).1 (by
                            simp only [c_q30, Q.holds', D.nat, E.n, E.den, BO.den, UO.den, D.toInt_int, E.i, and_true, om_0, om_10, om_20, Int.toNat_natCast, i64min, i64max, inK]
                            all_goals (have w3 := k14 (by omega); simp only [Waited, UO.den, D.toInt_int] at w3; omega))
                          have p20 := (Q.holds'_iff _ _ _).2 h20
                          try (
                            simp only [c_q30, Q.holds', D.nat, E.n, E.den, BO.den, UO.den, D.toInt_int, E.i, and_true, om_0, om_10, om_20, Int.toNat_natCast, i64min, i64max, inK] at p20)
                          have h21 : Q.val (om n0 n1 n2) c_q31 = true := (Q.holds'_iff _ _ _).1 (by
                            simp only [c_q31, Q.holds', D.nat, E.n, E.den, BO.den, UO.den, D.toInt_int, E.i, and_true, om_0, om_10, om_20, Int.toNat_natCast]
                            all_goals (have w3 := k14 (by omega); simp only [Waited, UO.den, D.toInt_int] at w3; omega))
                          have p21 := (Q.holds'_iff _ _ _).2 h21
                          try (
                            simp only [c_q31, Q.holds', D.nat, E.n, E.den, BO.den, UO.den, D.toInt_int, E.i, and_true, om_0, om_10, om_20, Int.toNat_natCast] at p21)
                          cases h22 : Q.val (om n0 n1 n2) c_q25
                          · have p22 := (Q.holds'_iff _ _ _).2 h22
                            simp only [c_q25, Q.holds', D.nat, E.n, E.den, BO.den, UO.den, D.toInt_int, E.i, and_true, om_0, om_10, om_20, Int.toNat_natCast] at p22
                            cases h23 : Q.val (om n0 n1 n2) c_q26
                            · have p23 := (Q.holds'_iff _ _ _).2 h23
                              simp only [c_q26, Q.holds', D.nat, E.n, E.den, BO.den, UO.den, D.toInt_int, E.i, and_true, om_0, om_10, om_20, Int.toNat_natCast] at p23
                              have h24 : Q.val (om n0 n1 n2) c_q43 = true := (Q.holds'_iff _ _ _).1 (by
                                simp only [c_q43, Q.holds', D.nat, E.n, E.den, BO.den, UO.den, D.toInt_int, E.i, and_true, om_0, om_10, om_20, Int.toNat_natCast]
                                all_goals (have w := k12 (by omega); simp only [Waited, UO.den, D.toInt_int] at w; have e3 := Hl (); omega))
                              have p24 := (Q.holds'_iff _ _ _).2 h24
                              try (
                                simp only [c_q43, Q.holds', D.nat, E.n, E.den, BO.den, UO.den, D.toInt_int, E.i, and_true, om_0, om_10, om_20, Int.toNat_natCast] at p24)
                              exact calls_of_yesV sound tab_ok specs_ok overs_ok c_y142 rfl (tellA_ok (told_cons h0 (told_cons h1 (told_cons h2 (told_cons h3 (told_cons h4 (told_cons h5 (told_cons h6 (told_cons h7 (told_cons h8 (told_cons h9 (told_cons h10 (told_cons h11 (told_cons h12 (told_cons h13 (told_cons h14 (told_cons h15 (told_cons h16 (told_cons h17 (told_cons h18 (told_cons h19 (told_cons h20 (told_cons h21 (told_cons h22 (told_cons h23 (told_cons h24 told_nil)))))))))))))))))))))))))) r0 hargs
                            · have p23 := (Q.holds'_iff _ _ _).2 h23
                              simp only [c_q26, Q.holds', D.nat, E.n, E.den, BO.den, UO.den, D.toInt_int, E.i, and_true, om_0, om_10, om_20, Int.toNat_natCast] at p23
                              exact calls_of_yesV sound tab_ok specs_ok overs_ok c_y148 rfl (tellA_ok (told_cons h0 (told_cons h1 (told_cons h2 (told_cons h3 (told_cons h4 (told_cons h5 (told_cons h6 (told_cons h7 (told_cons h8 (told_cons h9 (told_cons h10 (told_cons h11 (told_cons h12 (told_cons h13 (told_cons h14 (told_cons h15 (told_cons h16 (told_cons h17 (told_cons h18 (told_cons h19 (told_cons h20 (told_cons h21 (told_cons h22 (told_cons h23 told_nil))))))))))))))))))))))))) r0 hargs
                          · have p22 := (Q.holds'_iff _ _ _).2 h22
                            simp only [c_q25, Q.holds', D.nat, E.n, E.den, BO.den, UO.den, D.toInt_int, E.i, and_true, om_0, om_10, om_20, Int.toNat_natCast] at p22
                            cases h23 : Q.val (om n0 n1 n2) c_q26
                            · have p23 := (Q.holds'_iff _ _ _).2 h23
                              simp only [c_q26, Q.holds', D.nat, E.n, E.den, BO.den, UO.den, D.toInt_int, E.i, and_true, om_0, om_10, om_20, Int.toNat_natCast] at p23
                              exact calls_of_yesV sound tab_ok specs_ok overs_ok c_y122 rfl (tellA_ok (told_cons h0 (told_cons h1 (told_cons h2 (told_cons h3 (told_cons h4 (told_cons h5 (told_cons h6 (told_cons h7 (told_cons h8 (told_cons h9 (told_cons h10 (told_cons h11 (told_cons h12 (told_cons h13 (told_cons h14 (told_cons h15 (told_cons h16 (told_cons h17 (told_cons h18 (told_cons h19 (told_cons h20 (told_cons h21 (told_cons h22 (told_cons h23 told_nil))))))))))))))))))))))))) r0 hargs
                            · have p23 := (Q.holds'_iff _ _ _).2 h23
                              simp only [c_q26, Q.holds', D.nat, E.n, E.den, BO.den, UO.den, D.toInt_int, E.i, and_true, om_0, om_10, om_20, Int.toNat_natCast] at p23
                              exact calls_of_yesV sound tab_ok specs_ok overs_ok c_y138 rfl (tellA_ok (told_cons h0 (told_cons h1 (told_cons h2 (told_cons h3 (told_cons h4 (told_cons h5 (told_cons h6 (told_cons h7 (told_cons h8 (told_cons h9 (told_cons h10 (told_cons h11 (told_cons h12 (told_cons h13 (told_cons h14 (told_cons h15 (told_cons h16 (told_cons h17 (told_cons h18 (told_cons h19 (told_cons h20 (told_cons h21 (told_cons h22 (told_cons h23 told_nil))))))))))))))))))))))))) r0 hargs
                        · have p18 := (Q.holds'_iff _ _ _).2 h18
                          simp only [c_q24, Q.holds', D.nat, E.n, E.den, BO.den, UO.den, D.toInt_int, E.i, and_true, om_0, om_10, om_20, Int.toNat_natCast] at p18
                          cases h19 : Q.val (om n0 n1 n2) c_q25
                          · have p19 := (Q.holds'_iff _ _ _).2 h19
                            simp only [c_q25, Q.holds', D.nat, E.n, E.den, BO.den, UO.den, D.toInt_int, E.i, and_true, om_0, om_10, om_20, Int.toNat_natCast] at p19
                            cases h20 : Q.val (om n0 n1 n2) c_q26
                            · have p20 := (Q.holds'_iff _ _ _).2 h20
                              simp only [c_q26, Q.holds', D.nat, E.n, E.den, BO.den, UO.den, D.toInt_int, E.i, and_true, om_0, om_10, om_20, Int.toNat_natCast] at p20
                              have h21 : Q.val (om n0 n1 n2) c_q43 = true := (Q.holds'_iff _ _ _).1 (by
                                simp only [c_q43, Q.holds', D.nat, E.n, E.den, BO.den, UO.den, D.toInt_int, E.i, and_true, om_0, om_10, om_20, Int.toNat_natCast]
                                all_goals (have w := k12 (by omega); simp only [Waited, UO.den, D.toInt_int] at w; have e3 := Hl (); omega))
                              have p21 := (Q.holds'_iff _ _ _).2 h21
                              try (
                                simp only [c_q43, Q.holds', D.nat, E.n, E.den, BO.den, UO.den, D.toInt_int, E.i, and_true, om_0, om_10, om_20, Int.toNat_natCast] at p21)
                              exact calls_of_yesV sound tab_ok specs_ok overs_ok c_y150 rfl (tellA_ok (told_cons h0 (told_cons h1 (told_cons h2 (told_cons h3 (told_cons h4 (told_cons h5 (told_cons h6 (told_cons h7 (told_cons h8 (told_cons h9 (told_cons h10 (told_cons h11 (told_cons h12 (told_cons h13 (told_cons h14 (told_cons h15 (told_cons h16 (told_cons h17 (told_cons h18 (told_cons h19 (told_cons h20 (told_cons h21 told_nil))))))))))))))))))))))) r0 hargs
                            · have p20 := (Q.holds'_iff _ _ _).2 h20
                              simp only [c_q26, Q.holds', D.nat, E.n, E.den, BO.den, UO.den, D.toInt_int, E.i, and_true, om_0, om_10, om_20, Int.toNat_natCast] at p20
                              exact calls_of_yesV sound tab_ok specs_ok overs_ok c_y151 rfl (tellA_ok (told_cons h0 (told_cons h1 (told_cons h2 (told_cons h3 (told_cons h4 (told_cons h5 (told_cons h6 (told_cons h7 (told_cons h8 (told_cons h9 (told_cons h10 (told_cons h11 (told_cons h12 (told_cons h13 (told_cons h14 (told_cons h15 (told_cons h16 (told_cons h17 (told_cons h18 (told_cons h19 (told_cons h20 told_nil)))))))))))))))))))))) r0 hargs
                          · have p19 := (Q.holds'_iff _ _ _).2 h19
                            simp only [c_q25, Q.holds', D.nat, E.n, E.den, BO.den, UO.den, D.toInt_int, E.i, and_true, om_0, om_10, om_20, Int.toNat_natCast] at p19
                            cases h20 : Q.val (om n0 n1 n2) c_q26
                            · have p20 := (Q.holds'_iff _ _ _).2 h20
                              simp only [c_q26, Q.holds', D.nat, E.n, E.den, BO.den, UO.den, D.toInt_int, E.i, and_true, om_0, om_10, om_20, Int.toNat_natCast] at p20
                              exact calls_of_yesV sound tab_ok specs_ok overs_ok c_y137 rfl (tellA_ok (told_cons h0 (told_cons h1 (told_cons h2 (told_cons h3 (told_cons h4 (told_cons h5 (told_cons h6 (told_cons h7 (told_cons h8 (told_cons h9 (told_cons h10 (told_cons h11 (told_cons h12 (told_cons h13 (told_cons h14 (told_cons h15 (told_cons h16 (told_cons h17 (told_cons h18 (told_cons h19 (told_cons h20 told_nil)))))))))))))))))))))) r0 hargs
                            · have p20 := (Q.holds'_iff _ _ _).2 h20
                              simp only [c_q26, Q.holds', D.nat, E.n, E.den, BO.den, UO.den, D.toInt_int, E.i, and_true, om_0, om_10, om_20, Int.toNat_natCast] at p20
                              exact calls_of_yesV sound tab_ok specs_ok overs_ok c_y149 rfl (tellA_ok (told_cons h0 (told_cons h1 (told_cons h2 (told_cons h3 (told_cons h4 (told_cons h5 (told_cons h6 (told_cons h7 (told_cons h8 (told_cons h9 (told_cons h10 (told_cons h11 (told_cons h12 (told_cons h13 (told_cons h14 (told_cons h15 (told_cons h16 (told_cons h17 (told_cons h18 (told_cons h19 (told_cons h20 told_nil)))))))))))))))))))))) r0 hargs
                      · have p17 := (Q.holds'_iff _ _ _).2 h17
                        simp only [c_q19, Q.holds', D.nat, E.n, E.den, BO.den, UO.den, D.toInt_int, E.i, and_true, om_0, om_10, om_20, Int.toNat_natCast] at p17
                        cases h18 : Q.val (om n0 n1 n2) c_q25
                        · have p18 := (Q.holds'_iff _ _ _).2 h18
                          simp only [c_q25, Q.holds', D.nat, E.n, E.den, BO.den, UO.den, D.toInt_int, E.i, and_true, om_0, om_10, om_20, Int.toNat_natCast] at p18
                          cases h19 : Q.val (om n0 n1 n2) c_q26
                          · have p19 := (Q.holds'_iff _ _ _).2 h19
                            simp only [c_q26, Q.holds', D.nat, E.n, E.den, BO.den, UO.den, D.toInt_int, E.i, and_true, om_0, om_10, om_20, Int.toNat_natCast] at p19
                            have h20 : Q.val (om n0 n1 n2) c_q43 = true := (Q.holds'_iff _ _ _).1 (by
                              simp only [c_q43, Q.holds', D.nat, E.n, E.den, BO.den, UO.den, D.toInt_int, E.i, and_true, om_0, om_10, om_20, Int.toNat_natCast]
                              all_goals (have w := k12 (by omega); simp only [Waited, UO.den, D.toInt_int] at w; have e3 := Hl (); omega))
                            have p20 := (Q.holds'_iff _ _ _).2 h20
                            try (
                              simp only [c_q43, Q.holds', D.nat, E.n, E.den, BO.den, UO.den, D.toInt_int, E.i, and_true, om_0, om_10, om_20, Int.toNat_natCast] at p20)
                            exact calls_of_yesV sound tab_ok specs_ok overs_ok c_y50 rfl (tellA_ok (told_cons h0 (told_cons h1 (told_cons h2 (told_cons h3 (told_cons h4 (told_cons h5 (told_cons h6 (told_cons h7 (told_cons h8 (told_cons h9 (told_cons h10 (told_cons h11 (told_cons h12 (told_cons h13 (told_cons h14 (told_cons h15 (told_cons h16 (told_cons h17 (told_cons h18 (told_cons h19 (told_cons h20 told_nil)))))))))))))))))))))) r0 hargs
                          · have p19 := (Q.holds'_iff _ _ _).2 h19
                            simp only [c_q26, Q.holds', D.nat, E.n, E.den, BO.den, UO.den, D.toInt_int, E.i, and_true, om_0, om_10, om_20, Int.toNat_natCast] at p19
                            exact calls_of_yesV sound tab_ok specs_ok overs_ok c_y40 rfl (tellA_ok (told_cons h0 (told_cons h1 (told_cons h2 (told_cons h3 (told_cons h4 (told_cons h5 (told_cons h6 (told_cons h7 (told_cons h8 (told_cons h9 (told_cons h10 (told_cons h11 (told_cons h12 (told_cons h13 (told_cons h14 (told_cons h15 (told_cons h16 (told_cons h17 (told_cons h18 (told_cons h19 told_nil))))))))))))))))))))) r0 hargs
                        · have p18 := (Q.holds'_iff _ _ _).2 h18
                          simp only [c_q25, Q.holds', D.nat, E.n, E.den, BO.den, UO.den, D.toInt_int, E.i, and_true, om_0, om_10, om_20, Int.toNat_natCast] at p18
                          cases h19 : Q.val (om n0 n1 n2) c_q26
                          · have p19 := (Q.holds'_iff _ _ _).2 h19
                            simp only [c_q26, Q.holds', D.nat, E.n, E.den, BO.den, UO.den, D.toInt_int, E.i, and_true, om_0, om_10, om_20, Int.toNat_natCast] at p19
                            exact calls_of_yesV sound tab_ok specs_ok overs_ok c_y18 rfl (tellA_ok (told_cons h0 (told_cons h1 (told_cons h2 (told_cons h3 (told_cons h4 (told_cons h5 (told_cons h6 (told_cons h7 (told_cons h8 (told_cons h9 (told_cons h10 (told_cons h11 (told_cons h12 (told_cons h13 (told_cons h14 (told_cons h15 (told_cons h16 (told_cons h17 (told_cons h18 (told_cons h19 told_nil))))))))))))))))))))) r0 hargs
                          · have p19 := (Q.holds'_iff _ _ _).2 h19
                            simp only [c_q26, Q.holds', D.nat, E.n, E.den, BO.den, UO.den, D.toInt_int, E.i, and_true, om_0, om_10, om_20, Int.toNat_natCast] at p19
                            exact calls_of_yesV sound tab_ok specs_ok overs_ok c_y116 rfl (tellA_ok (told_cons h0 (told_cons h1 (told_cons h2 (told_cons h3 (told_cons h4 (told_cons h5 (told_cons h6 (told_cons h7 (told_cons h8 (told_cons h9 (told_cons h10 (told_cons h11 (told_cons h12 (told_cons h13 (told_cons h14 (told_cons h15 (told_cons h16 (told_cons h17 (told_cons h18 (told_cons h19 told_nil))))))))))))))))))))) r0 hargs
      · have p3 := (Q.holds'_iff _ _ _).2 h3
        simp only [c_q6, Q.holds', D.nat, E.n, E.den, BO.den, UO.den, D.toInt_int, E.i, and_true, om_0, om_10, om_20, Int.toNat_natCast] at p3
        cases h4 : Q.val (om n0 n1 n2) c_q2
        · have p4 := (Q.holds'_iff _ _ _).2 h4
          simp only [c_q2, Q.holds', D.nat, E.n, E.den, BO.den, UO.den, D.toInt_int, E.i, and_true, om_0, om_10, om_20, Int.toNat_natCast] at p4
          have h5 : Q.val (om n0 n1 n2) c_q3 = false := (Q.holds'_iff _ _ _).1 (by
            simp only [c_q3, Q.holds', D.nat, E.n, E.den, BO.den, UO.den, D.toInt_int, E.i, and_true, om_0, om_10, om_20, Int.toNat_natCast]
            all_goals (omega))
          have p5 := (Q.holds'_iff _ _ _).2 h5
          try (
            simp only [c_q3, Q.holds', D.nat, E.n, E.den, BO.den, UO.den, D.toInt_int, E.i, and_true, om_0, om_10, om_20, Int.toNat_natCast] at p5)
          have h6 : Q.val (om n0 n1 n2) c_q7 = false := (Q.holds'_iff _ _ _).1 (by
            simp only [c_q7, Q.holds', D.nat, E.n, E.den, BO.den, UO.den, D.toInt_int, E.i, and_true, om_0, om_10, om_20, Int.toNat_natCast]
            all_goals (omega))
          have p6 := (Q.holds'_iff _ _ _).2 h6
          try (
            simp only [c_q7, Q.holds', D.nat, E.n, E.den, BO.den, UO.den, D.toInt_int, E.i, and_true, om_0, om_10, om_20, Int.toNat_natCast] at p6)
          have h7 : Q.val (om n0 n1 n2) c_q8 = false := (Q.holds'_iff _ _ _).1 (by
            simp only [c_q8, Q.holds', D.nat, E.n, E.den, BO.den, UO.den, D.toInt_int, E.i, and_true, om_0, om_10, om_20, Int.toNat_natCast]
            all_goals (omega))
          have p7 := (Q.holds'_iff _ _ _).2 h7
          try (
            simp only [c_q8, Q.holds', D.nat, E.n, E.den, BO.den, UO.den, D.toInt_int, E.i, and_true, om_0, om_10, om_20, Int.toNat_natCast] at p7)
          exact calls_of_yesV sound tab_ok specs_ok overs_ok c_y4 rfl (tellA_ok (told_cons h0 (told_cons h1 (told_cons h2 (told_cons h3 (told_cons h4 (told_cons h5 (told_cons h6 (told_cons h7 told_nil))))))))) r0 hargs
        · have p4 := (Q.holds'_iff _ _ _).2 h4
          simp only [c_q2, Q.holds', D.nat, E.n, E.den, BO.den, UO.den, D.toInt_int, E.i, and_true, om_0, om_10, om_20, Int.toNat_natCast] at p4
          have h5 : Q.val (om n0 n1 n2) c_q3 = true := (Q.holds'_iff _ _ _).1 (by
            simp only [c_q3, Q.holds', D.nat, E.n, E.den, BO.den, UO.den, D.toInt_int, E.i, and_true, om_0, om_10, om_20, Int.toNat_natCast]
            all_goals (omega))
          have p5 := (Q.holds'_iff _ _ _).2 h5
          try (
            simp only [c_q3, Q.holds', D.nat, E.n, E.den, BO.den, UO.den, D.toInt_int, E.i, and_true, om_0, om_10, om_20, Int.toNat_natCast] at p5)
          cases h6 : Q.val (om n0 n1 n2) c_q9
          · have p6 := (Q.holds'_iff _ _ _).2 h6
            simp only [c_q9, Q.holds', D.nat, E.n, E.den, BO.den, UO.den, D.toInt_int, E.i, and_true, om_0, om_10, om_20, Int.toNat_natCast] at p6
            have h7 : Q.val (om n0 n1 n2) c_q10 = true := (Q.holds'_iff _ _ _).1 (by
              simp only [c_q10, Q.holds', D.nat, E.n, E.den, BO.den, UO.den, D.toInt_int, E.i, and_true, om_0, om_10, om_20, Int.toNat_natCast]
              all_goals (have e2 := Ha (); omega))
            have p7 := (Q.holds'_iff _ _ _).2 h7
            try (
              simp only [c_q10, Q.holds', D.nat, E.n, E.den, BO.den, UO.den, D.toInt_int, E.i, and_true, om_0, om_10, om_20, Int.toNat_natCast] at p7)
            cases h8 : Q.val (om n0 n1 n2) c_q11
            · have p8 := (Q.holds'_iff _ _ _).2 h8
              simp only [c_q11, Q.holds', D.nat, E.n, E.den, BO.den, UO.den, D.toInt_int, E.i, and_true, om_0, om_10, om_20, Int.toNat_natCast] at p8
              have h9 : Q.val (om n0 n1 n2) c_q12 = true := (Q.holds'_iff _ _ _).1 (by
                simp only [c_q12, Q.holds', D.nat, E.n, E.den, BO.den, UO.den, D.toInt_int, E.i, and_true, om_0, om_10, om_20, Int.toNat_natCast]
                all_goals (have e2 := Ha (); omega))
              have p9 := (Q.holds'_iff _ _ _).2 h9
              try (
                simp only [c_q12, Q.holds', D.nat, E.n, E.den, BO.den, UO.den, D.toInt_int, E.i, and_true, om_0, om_10, om_20, Int.toNat_natCast] at p9)
              have h10 : Q.val (om n0 n1 n2) c_q13 = true := (Q.holds'_iff _ _ _).1 (by
                simp only [c_q13, Q.holds', D.nat, E.n, E.den, BO.den, UO.den, D.toInt_int, E.i, and_true, om_0, om_10, om_20, Int.toNat_natCast]
                all_goals (omega))
              have p10 := (Q.holds'_iff _ _ _).2 h10
              try (
                simp only [c_q13, Q.holds', D.nat, E.n, E.den, BO.den, UO.den, D.toInt_int, E.i, and_true, om_0, om_10, om_20, Int.toNat_natCast] at p10)
              have h11 : Q.val (om n0 n1 n2) c_q14 = true := (Q.holds'_iff _ _ _).1 (by
                simp only [c_q14, Q.holds', D.nat, E.n, E.den, BO.den, UO.den, D.toInt_int, E.i, and_true, om_0, om_10, om_20, Int.toNat_natCast]
                all_goals (have e1 := Hs (); omega))
              have p11 := (Q.holds'_iff _ _ _).2 h11
              try (
                simp only [c_q14, Q.holds', D.nat, E.n, E.den, BO.den, UO.den, D.toInt_int, E.i, and_true, om_0, om_10, om_20, Int.toNat_natCast] at p11)
              have h12 : Q.val (om n0 n1 n2) c_q15 = true := (Q.holds'_iff _ _ _).1 (by
                simp only [c_q15, Q.holds', D.nat, E.n, E.den, BO.den, UO.den, D.toInt_int, E.i, and_true, om_0, om_10, om_20, Int.toNat_natCast]
                all_goals (have r := k15 (by omega) (by omega); simp only [Rises] at r; omega))
              have p12 := (Q.holds'_iff _ _ _).2 h12
              try (
                simp only [c_q15, Q.holds', D.nat, E.n, E.den, BO.den, UO.den, D.toInt_int, E.i, and_true, om_0, om_10, om_20, Int.toNat_natCast] at p12)
              have h13 : Q.val (om n0 n1 n2) c_q16 = true := (Q.holds'_iff _ _ _).1 (by
                simp only [c_q16, Q.holds', D.nat, E.n, E.den, BO.den, UO.den, D.toInt_int, E.i, and_true, om_0, om_10, om_20, Int.toNat_natCast]
                all_goals (have e0 := H0 (); omega))
              have p13 := (Q.holds'_iff _ _ _).2 h13
              try (
                simp only [c_q16, Q.holds', D.nat, E.n, E.den, BO.den, UO.den, D.toInt_int, E.i, and_true, om_0, om_10, om_20, Int.toNat_natCast] at p13)
              have h14 : Q.val (om n0 n1 n2) c_q17 = true := (Q.holds'_iff _ _ _).1 (by
                simp only [c_q17, Q.holds', D.nat, E.n, E.den, BO.den, UO.den, D.toInt_int, E.i, and_true, om_0, om_10, om_20, Int.toNat_natCast]
                all_goals (omega))
              have p14 := (Q.holds'_iff _ _ _).2 h14
              try (
                simp only [c_q17, Q.holds', D.nat, E.n, E.den, BO.den, UO.den, D.toInt_int, E.i, and_true, om_0, om_10, om_20, Int.toNat_natCast] at p14)
              have h15 : Q.val (om n0 n1 n2) c_q18 = true := (Q.holds'_iff _ _ _).1 (by
                simp only [c_q18, Q.holds', D.nat, E.n, E.den, BO.den, UO.den, D.toInt_int, E.i, and_true, om_0, om_10, om_20, Int.toNat_natCast]
                all_goals (have e1 := Hs (); omega))
              have p15 := (Q.holds'_iff _ _ _).2 h15
              try (
                simp only [c_q18, Q.holds', D.nat, E.n, E.den, BO.den, UO.den, D.toInt_int, E.i, and_true, om_0, om_10, om_20, Int.toNat_natCast] at p15)
              have h16 : Q.val (om n0 n1 n2) c_q19 = true := (Q.holds'_iff _ _ _).1 (by
                simp only [c_q19, Q.holds', D.nat, E.n, E.den, BO.den, UO.den, D.toInt_int, E.i, and_true, om_0, om_10, om_20, Int.toNat_natCast]
                all_goals (have r2 := k16 (by omega) (by omega); simp only [Rises] at r2; omega))
              have p16 := (Q.holds'_iff _ _ _).2 h16
              try (
                simp only [c_q19, Q.holds', D.nat, E.n, E.den, BO.den, UO.den, D.toInt_int, E.i, and_true, om_0, om_10, om_20, Int.toNat_natCast] at p16)
              cases h17 : Q.val (om n0 n1 n2) c_q20
              · have p17 := (Q.holds'_iff _ _ _).2 h17
                simp only [c_q20, Q.holds', D.nat, E.n, E.den, BO.den, UO.den, D.toInt_int, E.i, and_true, om_0, om_10, om_20, Int.toNat_natCast] at p17
                cases h18 : Q.val (om n0 n1 n2) c_q21
                · have p18 := (Q.holds'_iff _ _ _).2 h18
                  simp only [c_q21, Q.holds', D.nat, E.n, E.den, BO.den, UO.den, D.toInt_int, E.i, and_true, om_0, om_10, om_20, Int.toNat_natCast] at p18
                  exact calls_of_yesV sound tab_ok specs_ok overs_ok c_y5 rfl (tellA_ok (told_cons h0 (told_cons h1 (told_cons h2 (told_cons h3 (told_cons h4 (told_cons h5 (told_cons h6 (told_cons h7 (told_cons h8 (told_cons h9 (told_cons h10 (told_cons h11 (told_cons h12 (told_cons h13 (told_cons h14 (told_cons h15 (told_cons h16 (told_cons h17 (told_cons h18 told_nil)))))))))))))))))))) r0 hargs
                · have p18 := (Q.holds'_iff _ _ _).2 h18
                  simp only [c_q21, Q.holds', D.nat, E.n, E.den, BO.den, UO.den, D.toInt_int, E.i, and_true, om_0, om_10, om_20, Int.toNat_natCast] at p18
                  exact calls_of_yesV sound tab_ok specs_ok overs_ok c_y65 rfl (tellA_ok (told_cons h0 (told_cons h1 (told_cons h2 (told_cons h3 (told_cons h4 (told_cons h5 (told_cons h6 (told_cons h7 (told_cons h8 (told_cons h9 (told_cons h10 (told_cons h11 (told_cons h12 (told_cons h13 (told_cons h14 (told_cons h15 (told_cons h16 (told_cons h17 (told_cons h18 told_nil)))))))))))))))))))) r0 hargs
              · have p17 := (Q.holds'_iff _ _ _).2 h17
                simp only [c_q20, Q.holds', D.nat, E.n, E.den, BO.den, UO.den, D.toInt_int, E.i, and_true, om_0, om_10, om_20, Int.toNat_natCast] at p17
                have h18 : Q.val (om n0 n1 n2) c_q21 = false := (Q.holds'_iff _ _ _).1 (by
                  simp only [c_q21, Q.holds', D.nat, E.n, E.den, BO.den, UO.den, D.toInt_int, E.i, and_true, om_0, om_10, om_20, Int.toNat_natCast]
                  all_goals (omega))
                have p18 := (Q.holds'_iff _ _ _).2 h18
                try (
                  simp only [c_q21, Q.holds', D.nat, E.n, E.den, BO.den, UO.den, D.toInt_int, E.i, and_true, om_0, om_10, om_20, Int.toNat_natCast] at p18)
                exact calls_of_yesV sound tab_ok specs_ok overs_ok c_y15 rfl (tellA_ok (told_cons h0 (told_cons h1 (told_cons h2 (told_cons h3 (told_cons h4 (told_cons h5 (told_cons h6 (told_cons h7 (told_cons h8 (told_cons h9 (told_cons h10 (told_cons h11 (told_cons h12 (told_cons h13 (told_cons h14 (told_cons h15 (told_cons h16 (told_cons h17 (told_cons h18 told_nil)))))))))))))))))))) r0 hargs
            · have p8 := (Q.holds'_iff _ _ _).2 h8
              simp only [c_q11, Q.holds', D.nat, E.n, E.den, BO.den, UO.den, D.toInt_int, E.i, and_true, om_0, om_10, om_20, Int.toNat_natCast] at p8
              have h9 : Q.val (om n0 n1 n2) c_q12 = false := (Q.holds'_iff _ _ _).1 (by
                simp only [c_q12, Q.holds', D.nat, E.n, E.den, BO.den, UO.den, D.toInt_int, E.i, and_true, om_0, om_10, om_20, Int.toNat_natCast]
                all_goals (omega))
              have p9 := (Q.holds'_iff _ _ _).2 h9
              try (
                simp only [c_q12, Q.holds', D.nat, E.n, E.den, BO.den, UO.den, D.toInt_int, E.i, and_true, om_0, om_10, om_20, Int.toNat_natCast] at p9)
              have h10 : Q.val (om n0 n1 n2) c_q13 = true := (Q.holds'_iff _ _ _).1 (by
                simp only [c_q13, Q.holds', D.nat, E.n, E.den, BO.den, UO.den, D.toInt_int, E.i, and_true, om_0, om_10, om_20, Int.toNat_natCast]
                all_goals (omega))
              have p10 := (Q.holds'_iff _ _ _).2 h10
              try (
                simp only [c_q13, Q.holds', D.nat, E.n, E.den, BO.den, UO.den, D.toInt_int, E.i, and_true, om_0, om_10, om_20, Int.toNat_natCast] at p10)
              have h11 : Q.val (om n0 n1 n2) c_q14 = true := (Q.holds'_iff _ _ _).1 (by
                simp only [c_q14, Q.holds', D.nat, E.n, E.den, BO.den, UO.den, D.toInt_int, E.i, and_true, om_0, om_10, om_20, Int.toNat_natCast]
                all_goals (have e1 := Hs (); omega))
              have p11 := (Q.holds'_iff _ _ _).2 h11
              try (
                simp only [c_q14, Q.holds', D.nat, E.n, E.den, BO.den, UO.den, D.toInt_int, E.i, and_true, om_0, om_10, om_20, Int.toNat_natCast] at p11)
              have h12 : Q.val (om n0 n1 n2) c_q15 = true := (Q.holds'_iff _ _ _).1 (by
                simp only [c_q15, Q.holds', D.nat, E.n, E.den, BO.den, UO.den, D.toInt_int, E.i, and_true, om_0, om_10, om_20, Int.toNat_natCast]
                all_goals (have r := k15 (by omega) (by omega); simp only [Rises] at r; omega))
              have p12 := (Q.holds'_iff _ _ _).2 h12
              try (
                simp only [c_q15, Q.holds', D.nat, E.n, E.den, BO.den, UO.den, D.toInt_int, E.i, and_true, om_0, om_10, om_20, Int.toNat_natCast] at p12)
              have h13 : Q.val (om n0 n1 n2) c_q16 = true := (Q.holds'_iff _ _ _).1 (by
                simp only [c_q16, Q.holds', D.nat, E.n, E.den, BO.den, UO.den, D.toInt_int, E.i, and_true, om_0, om_10, om_20, Int.toNat_natCast]
                all_goals (have e0 := H0 (); omega))
              have p13 := (Q.holds'_iff _ _ _).2 h13
              try (
                simp only [c_q16, Q.holds', D.nat, E.n, E.den, BO.den, UO.den, D.toInt_int, E.i, and_true, om_0, om_10, om_20, Int.toNat_natCast] at p13)
              have h14 : Q.val (om n0 n1 n2) c_q17 = true := (Q.holds'_iff _ _ _).1 (by
                simp only [c_q17, Q.holds', D.nat, E.n, E.den, BO.den, UO.den, D.toInt_int, E.i, and_true, om_0, om_10, om_20, Int.toNat_natCast]
                all_goals (omega))
              have p14 := (Q.holds'_iff _ _ _).2 h14
              try (
                simp only [c_q17, Q.holds', D.nat, E.n, E.den, BO.den, UO.den, D.toInt_int, E.i, and_true, om_0, om_10, om_20, Int.toNat_natCast] at p14)
              have h15 : Q.val (om n0 n1 n2) c_q18 = true := (Q.holds'_iff _ _ _).1 (by
                simp only [c_q18, Q.holds', D.nat, E.n, E.den, BO.den, UO.den, D.toInt_int, E.i, and_true, om_0, om_10, om_20, Int.toNat_natCast]
                all_goals (have e1 := Hs (); omega))
              have p15 := (Q.holds'_iff _ _ _).2 h15
              try (
                simp only [c_q18, Q.holds', D.nat, E.n, E.den, BO.den, UO.den, D.toInt_int, E.i, and_true, om_0, om_10, om_20, Int.toNat_natCast] at p15)
              have h16 : Q.val (om n0 n1 n2) c_q19 = true := (Q.holds'_iff _ _ _).1 (by
                simp only [c_q19, Q.holds', D.nat, E.n, E.den, BO.den, UO.den, D.toInt_int, E.i, and_true, om_0, om_10, om_20, Int.toNat_natCast]
                all_goals (have r2 := k16 (by omega) (by omega); simp only [Rises] at r2; omega))
              have p16 := (Q.holds'_iff _ _ _).2 h16
              try (
                simp only [c_q19, Q.holds', D.nat, E.n, E.den, BO.den, UO.den, D.toInt_int, E.i, and_true, om_0, om_10, om_20, Int.toNat_natCast] at p16)
              cases h17 : Q.val (om n0 n1 n2) c_q20
              · have p17 := (Q.holds'_iff _ _ _).2 h17
                simp only [c_q20, Q.holds', D.nat, E.n, E.den, BO.den, UO.den, D.toInt_int, E.i, and_true, om_0, om_10, om_20, Int.toNat_natCast] at p17
                cases h18 : Q.val (om n0 n1 n2) c_q21
                · have p18 := (Q.holds'_iff _ _ _).2 h18
                  simp only [c_q21, Q.holds', D.nat, E.n, E.den, BO.den, UO.den, D.toInt_int, E.i, and_true, om_0, om_10, om_20, Int.toNat_natCast] at p18
                  exact calls_of_yesV sound tab_ok specs_ok overs_ok c_y8 rfl (tellA_ok (told_cons h0 (told_cons h1 (told_cons h2 (told_cons h3 (told_cons h4 (told_cons h5 (told_cons h6 (told_cons h7 (told_cons h8 (told_cons h9 (told_cons h10 (told_cons h11 (told_cons h12 (told_cons h13 (told_cons h14 (told_cons h15 (told_cons h16 (told_cons h17 (told_cons h18 told_nil)))))))))))))))))))) r0 hargs
                · have p18 := (Q.holds'_iff _ _ _).2 h18
                  simp only [c_q21, Q.holds', D.nat, E.n, E.den, BO.den, UO.den, D.toInt_int, E.i, and_true, om_0, om_10, om_20, Int.toNat_natCast] at p18
                  exact calls_of_yesV sound tab_ok specs_ok overs_ok c_y68 rfl (tellA_ok (told_cons h0 (told_cons h1 (told_cons h2 (told_cons h3 (told_cons h4 (told_cons h5 (told_cons h6 (told_cons h7 (told_cons h8 (told_cons h9 (told_cons h10 (told_cons h11 (told_cons h12 (told_cons h13 (told_cons h14 (told_cons h15 (told_cons h16 (told_cons h17 (told_cons h18 told_nil)))))))))))))))))))) r0 hargs
              · have p17 := (Q.holds'_iff _ _ _).2 h17
                simp only [c_q20, Q.holds', D.nat, E.n, E.den, BO.den, UO.den, D.toInt_int, E.i, and_true, om_0, om_10, om_20, Int.toNat_natCast] at p17
                have h18 : Q.val (om n0 n1 n2) c_q21 = false := (Q.holds'_iff _ _ _).1 (by
                  simp only [c_q21, Q.holds', D.nat, E.n, E.den, BO.den, UO.den, D.toInt_int, E.i, and_true, om_0, om_10, om_20, Int.toNat_natCast]
                  all_goals (omega))
                have p18 := (Q.holds'_iff _ _ _).2 h18
                try (
                  simp only [c_q21, Q.holds', D.nat, E.n, E.den, BO.den, UO.den, D.toInt_int, E.i, and_true, om_0, om_10, om_20, Int.toNat_natCast] at p18)
                exact calls_of_yesV sound tab_ok specs_ok overs_ok c_y63 rfl (tellA_ok (told_cons h0 (told_cons h1 (told_cons h2 (told_cons h3 (told_cons h4 (told_cons h5 (told_cons h6 (told_cons h7 (told_cons h8 (told_cons h9 (told_cons h10 (told_cons h11 (told_cons h12 (told_cons h13 (told_cons h14 (told_cons h15 (told_cons h16 (told_cons h17 (told_cons h18 told_nil)))))))))))))))))))) r0 hargs
          · have p6 := (Q.holds'_iff _ _ _).2 h6
            simp only [c_q9, Q.holds', D.nat, E.n, E.den, BO.den, UO.den, D.toInt_int, E.i, and_true, om_0, om_10, om_20, Int.toNat_natCast] at p6
            have h7 : Q.val (om n0 n1 n2) c_q10 = false := (Q.holds'_iff _ _ _).1 (by
              simp only [c_q10, Q.holds', D.nat, E.n, E.den, BO.den, UO.den, D.toInt_int, E.i, and_true, om_0, om_10, om_20, Int.toNat_natCast]
              all_goals (omega))
            have p7 := (Q.holds'_iff _ _ _).2 h7
            try (
              simp only [c_q10, Q.holds', D.nat, E.n, E.den, BO.den, UO.den, D.toInt_int, E.i, and_true, om_0, om_10, om_20, Int.toNat_natCast] at p7)
            cases h8 : Q.val (om n0 n1 n2) c_q11
            · have p8 := (Q.holds'_iff _ _ _).2 h8
              simp only [c_q11, Q.holds', D.nat, E.n, E.den, BO.den, UO.den, D.toInt_int, E.i, and_true, om_0, om_10, om_20, Int.toNat_natCast] at p8
              have h9 : Q.val (om n0 n1 n2) c_q12 = true := (Q.holds'_iff _ _ _).1 (by
                simp only [c_q12, Q.holds', D.nat, E.n, E.den, BO.den, UO.den, D.toInt_int, E.i, and_true, om_0, om_10, om_20, Int.toNat_natCast]
                all_goals (have e2 := Ha (); omega))
              have p9 := (Q.holds'_iff _ _ _).2 h9
              try (
                simp only [c_q12, Q.holds', D.nat, E.n, E.den, BO.den, UO.den, D.toInt_int, E.i, and_true, om_0, om_10, om_20, Int.toNat_natCast] at p9)
              have h10 : Q.val (om n0 n1 n2) c_q13 = true := (Q.holds'_iff _ _ _).1 (by
                simp only [c_q13, Q.holds', D.nat, E.n, E.den, BO.den, UO.den, D.toInt_int, E.i, and_true, om_0, om_10, om_20, Int.toNat_natCast]
                all_goals (omega))
              have p10 := (Q.holds'_iff _ _ _).2 h10
              try (
                simp only [c_q13, Q.holds', D.nat, E.n, E.den, BO.den, UO.den, D.toInt_int, E.i, and_true, om_0, om_10, om_20, Int.toNat_natCast] at p10)
              have h11 : Q.val (om n0 n1 n2) c_q14 = true := (Q.holds'_iff _ _ _).1 (by
                simp only [c_q14, Q.holds', D.nat, E.n, E.den, BO.den, UO.den, D.toInt_int, E.i, and_true, om_0, om_10, om_20, Int.toNat_natCast]
                all_goals (have e1 := Hs (); omega))
              have p11 := (Q.holds'_iff _ _ _).2 h11
              try (
                simp only [c_q14, Q.holds', D.nat, E.n, E.den, BO.den, UO.den, D.toInt_int, E.i, and_true, om_0, om_10, om_20, Int.toNat_natCast] at p11)
              have h12 : Q.val (om n0 n1 n2) c_q15 = true := (Q.holds'_iff _ _ _).1 (by
                simp only [c_q15, Q.holds', D.nat, E.n, E.den, BO.den, UO.den, D.toInt_int, E.i, and_true, om_0, om_10, om_20, Int.toNat_natCast]
                all_goals (have r := k15 (by omega) (by omega); simp only [Rises] at r; omega))
              have p12 := (Q.holds'_iff _ _ _).2 h12
              try (
                simp only [c_q15, Q.holds', D.nat, E.n, E.den, BO.den, UO.den, D.toInt_int, E.i, and_true, om_0, om_10, om_20, Int.toNat_natCast] at p12)
              have h13 : Q.val (om n0 n1 n2) c_q16 = true := (Q.holds'_iff _ _ _).1 (by
                simp only [c_q16, Q.holds', D.nat, E.n, E.den, BO.den, UO.den, D.toInt_int, E.i, and_true, om_0, om_10, om_20, Int.toNat_natCast]
                all_goals (have e0 := H0 (); omega))
              have p13 := (Q.holds'_iff _ _ _).2 h13
              try (
                simp only [c_q16, Q.holds', D.nat, E.n, E.den, BO.den, UO.den, D.toInt_int, E.i, and_true, om_0, om_10, om_20, Int.toNat_natCast] at p13)
              have h14 : Q.val (om n0 n1 n2) c_q17 = true := (Q.holds'_iff _ _ _).1 (by
                simp only [c_q17, Q.holds', D.nat, E.n, E.den, BO.den, UO.den, D.toInt_int, E.i, and_true, om_0, om_10, om_20, Int.toNat_natCast]
                all_goals (omega))
              have p14 := (Q.holds'_iff _ _ _).2 h14
              try (
                simp only [c_q17, Q.holds', D.nat, E.n, E.den, BO.den, UO.den, D.toInt_int, E.i, and_true, om_0, om_10, om_20, Int.toNat_natCast] at p14)
              have h15 : Q.val (om n0 n1 n2) c_q18 = true := (Q.holds'_iff _ _ _).1 (by
                simp only [c_q18, Q.holds', D.nat, E.n, E.den, BO.den, UO.den, D.toInt_int, E.i, and_true, om_0, om_10, om_20, Int.toNat_natCast]
                all_goals (have e1 := Hs (); omega))
              have p15 := (Q.holds'_iff _ _ _).2 h15
              try (
                simp only [c_q18, Q.holds', D.nat, E.n, E.den, BO.den, UO.den, D.toInt_int, E.i, and_true, om_0, om_10, om_20, Int.toNat_natCast] at p15)
              have h16 : Q.val (om n0 n1 n2) c_q19 = true := (Q.holds'_iff _ _ _).1 (by
                simp only [c_q19, Q.holds', D.nat, E.n, E.den, BO.den, UO.den, D.toInt_int, E.i, and_true, om_0, om_10, om_20, Int.toNat_natCast]
                all_goals (have r2 := k16 (by omega) (by omega); simp only [Rises] at r2; omega))
              have p16 := (Q.holds'_iff _ _ _).2 h16
              try (
                simp only [c_q19, Q.holds', D.nat, E.n, E.den, BO.den, UO.den, D.toInt_int, E.i, and_true, om_0, om_10, om_20, Int.toNat_natCast] at p16)
              cases h17 : Q.val (om n0 n1 n2) c_q20
              · have p17 := (Q.holds'_iff _ _ _).2 h17
                simp only [c_q20, Q.holds', D.nat, E.n, E.den, BO.den, UO.den, D.toInt_int, E.i, and_true, om_0, om_10, om_20, Int.toNat_natCast] at p17
                cases h18 : Q.val (om n0 n1 n2) c_q21
                · have p18 := (Q.holds'_iff _ _ _).2 h18
                  simp only [c_q21, Q.holds', D.nat, E.n, E.den, BO.den, UO.den, D.toInt_int, E.i, and_true, om_0, om_10, om_20, Int.toNat_natCast] at p18
                  exact calls_of_yesV sound tab_ok specs_ok overs_ok c_y69 rfl (tellA_ok (told_cons h0 (told_cons h1 (told_cons h2 (told_cons h3 (told_cons h4 (told_cons h5 (told_cons h6 (told_cons h7 (told_cons h8 (told_cons h9 (told_cons h10 (told_cons h11 (told_cons h12 (told_cons h13 (told_cons h14 (told_cons h15 (told_cons h16 (told_cons h17 (told_cons h18 told_nil)))))))))))))))))))) r0 hargs
                · have p18 := (Q.holds'_iff _ _ _).2 h18
                  simp only [c_q21, Q.holds', D.nat, E.n, E.den, BO.den, UO.den, D.toInt_int, E.i, and_true, om_0, om_10, om_20, Int.toNat_natCast] at p18
                  exact calls_of_yesV sound tab_ok specs_ok overs_ok c_y64 rfl (tellA_ok (told_cons h0 (told_cons h1 (told_cons h2 (told_cons h3 (told_cons h4 (told_cons h5 (told_cons h6 (told_cons h7 (told_cons h8 (told_cons h9 (told_cons h10 (told_cons h11 (told_cons h12 (told_cons h13 (told_cons h14 (told_cons h15 (told_cons h16 (told_cons h17 (told_cons h18 told_nil)))))))))))))))))))) r0 hargs
              · have p17 := (Q.holds'_iff _ _ _).2 h17
                simp only [c_q20, Q.holds', D.nat, E.n, E.den, BO.den, UO.den, D.toInt_int, E.i, and_true, om_0, om_10, om_20, Int.toNat_natCast] at p17
                have h18 : Q.val (om n0 n1 n2) c_q21 = false := (Q.holds'_iff _ _ _).1 (by
                  simp only [c_q21, Q.holds', D.nat, E.n, E.den, BO.den, UO.den, D.toInt_int, E.i, and_true, om_0, om_10, om_20, Int.toNat_natCast]
                  all_goals (omega))
                have p18 := (Q.holds'_iff _ _ _).2 h18
                try (
                  simp only [c_q21, Q.holds', D.nat, E.n, E.den, BO.den, UO.den, D.toInt_int, E.i, and_true, om_0, om_10, om_20, Int.toNat_natCast] at p18)
                exact calls_of_yesV sound tab_ok specs_ok overs_ok c_y14 rfl (tellA_ok (told_cons h0 (told_cons h1 (told_cons h2 (told_cons h3 (told_cons h4 (told_cons h5 (told_cons h6 (told_cons h7 (told_cons h8 (told_cons h9 (told_cons h10 (told_cons h11 (told_cons h12 (told_cons h13 (told_cons h14 (told_cons h15 (told_cons h16 (told_cons h17 (told_cons h18 told_nil)))))))))))))))))))) r0 hargs
            · have p8 := (Q.holds'_iff _ _ _).2 h8
              simp only [c_q11, Q.holds', D.nat, E.n, E.den, BO.den, UO.den, D.toInt_int, E.i, and_true, om_0, om_10, om_20, Int.toNat_natCast] at p8
              have h9 : Q.val (om n0 n1 n2) c_q12 = false := (Q.holds'_iff _ _ _).1 (by
                simp only [c_q12, Q.holds', D.nat, E.n, E.den, BO.den, UO.den, D.toInt_int, E.i, and_true, om_0, om_10, om_20, Int.toNat_natCast]
                all_goals (omega))
              have p9 := (Q.holds'_iff _ _ _).2 h9
              try (
                simp only [c_q12, Q.holds', D.nat, E.n, E.den, BO.den, UO.den, D.toInt_int, E.i, and_true, om_0, om_10, om_20, Int.toNat_natCast] at p9)
              have h10 : Q.val (om n0 n1 n2) c_q13 = true := (Q.holds'_iff _ _ _).1 (by
                simp only [c_q13, Q.holds', D.nat, E.n, E.den, BO.den, UO.den, D.toInt_int, E.i, and_true, om_0, om_10, om_20, Int.toNat_natCast]
                all_goals (omega))
              have p10 := (Q.holds'_iff _ _ _).2 h10
              try (
                simp only [c_q13, Q.holds', D.nat, E.n, E.den, BO.den, UO.den, D.toInt_int, E.i, and_true, om_0, om_10, om_20, Int.toNat_natCast] at p10)
              have h11 : Q.val (om n0 n1 n2) c_q14 = true := (Q.holds'_iff _ _ _).1 (by
                simp only [c_q14, Q.holds', D.nat, E.n, E.den, BO.den, UO.den, D.toInt_int, E.i, and_true, om_0, om_10, om_20, Int.toNat_natCast]
                all_goals (have e1 := Hs (); omega))
              have p11 := (Q.holds'_iff _ _ _).2 h11
              try (
                simp only [c_q14, Q.holds', D.nat, E.n, E.den, BO.den, UO.den, D.toInt_int, E.i, and_true, om_0, om_10, om_20, Int.toNat_natCast] at p11)
              have h12 : Q.val (om n0 n1 n2) c_q15 = true := (Q.holds'_iff _ _ _).1 (by
                simp only [c_q15, Q.holds', D.nat, E.n, E.den, BO.den, UO.den, D.toInt_int, E.i, and_true, om_0, om_10, om_20, Int.toNat_natCast]
                all_goals (have r := k15 (by omega) (by omega); simp only [Rises] at r; omega))
              have p12 := (Q.holds'_iff _ _ _).2 h12
              try (
                simp only [c_q15, Q.holds', D.nat, E.n, E.den, BO.den, UO.den, D.toInt_int, E.i, and_true, om_0, om_10, om_20, Int.toNat_natCast] at p12)
              have h13 : Q.val (om n0 n1 n2) c_q16 = true := (Q.holds'_iff _ _ _).1 (by
                simp only [c_q16, Q.holds', D.nat, E.n, E.den, BO.den, UO.den, D.toInt_int, E.i, and_true, om_0, om_10, om_20, Int.toNat_natCast]
                all_goals (have e0 := H0 (); omega))
              have p13 := (Q.holds'_iff _ _ _).2 h13
              try (
                simp only [c_q16, Q.holds', D.nat, E.n, E.den, BO.den, UO.den, D.toInt_int, E.i, and_true, om_0, om_10, om_20, Int.toNat_natCast] at p13)
              have h14 : Q.val (om n0 n1 n2) c_q17 = true := (Q.holds'_iff _ _ _).1 (by
                simp only [c_q17, Q.holds', D.nat, E.n, E.den, BO.den, UO.den, D.toInt_int, E.i, and_true, om_0, om_10, om_20, Int.toNat_natCast]
                all_goals (omega))
              have p14 := (Q.holds'_iff _ _ _).2 h14
              try (
                simp only [c_q17, Q.holds', D.nat, E.n, E.den, BO.den, UO.den, D.toInt_int, E.i, and_true, om_0, om_10, om_20, Int.toNat_natCast] at p14)
              have h15 : Q.val (om n0 n1 n2) c_q18 = true := (Q.holds'_iff _ _ _).1 (by
                simp only [c_q18, Q.holds', D.nat, E.n, E.den, BO.den, UO.den, D.toInt_int, E.i, and_true, om_0, om_10, om_20, Int.toNat_natCast]
                all_goals (have e1 := Hs (); omega))
              have p15 := (Q.holds'_iff _ _ _).2 h15
              try (
                simp only [c_q18, Q.holds', D.nat, E.n, E.den, BO.den, UO.den, D.toInt_int, E.i, and_true, om_0, om_10, om_20, Int.toNat_natCast] at p15)
              have h16 : Q.val (om n0 n1 n2) c_q19 = true := (Q.holds'_iff _ _ _).1 (by
                simp only [c_q19, Q.holds', D.nat, E.n, E.den, BO.den, UO.den, D.toInt_int, E.i, and_true, om_0, om_10, om_20, Int.toNat_natCast]
                all_goals (have r2 := k16 (by omega) (by omega); simp only [Rises] at r2; omega))
              have p16 := (Q.holds'_iff _ _ _).2 h16
              try (
                simp only [c_q19, Q.holds', D.nat, E.n, E.den, BO.den, UO.den, D.toInt_int, E.i, and_true, om_0, om_10, om_20, Int.toNat_natCast] at p16)
              cases h17 : Q.val (om n0 n1 n2) c_q20
              · have p17 := (Q.holds'_iff _ _ _).2 h17
                simp only [c_q20, Q.holds', D.nat, E.n, E.den, BO.den, UO.den, D.toInt_int, E.i, and_true, om_0, om_10, om_20, Int.toNat_natCast] at p17
                cases h18 : Q.val (om n0 n1 n2) c_q21
                · have p18 := (Q.holds'_iff _ _ _).2 h18
                  simp only [c_q21, Q.holds', D.nat, E.n, E.den, BO.den, UO.den, D.toInt_int, E.i, and_true, om_0, om_10, om_20, Int.toNat_natCast] at p18
                  exact calls_of_yesV sound tab_ok specs_ok overs_ok c_y70 rfl (tellA_ok (told_cons h0 (told_cons h1 (told_cons h2 (told_cons h3 (told_cons h4 (told_cons h5 (told_cons h6 (told_cons h7 (told_cons h8 (told_cons h9 (told_cons h10 (told_cons h11 (told_cons h12 (told_cons h13 (told_cons h14 (told_cons h15 (told_cons h16 (told_cons h17 (told_cons h18 told_nil)))))))))))))))))))) r0 hargs
                · have p18 := (Q.holds'_iff _ _ _).2 h18
                  simp only [c_q21, Q.holds', D.nat, E.n, E.den, BO.den, UO.den, D.toInt_int, E.i, and_true, om_0, om_10, om_20, Int.toNat_natCast] at p18
                  exact calls_of_yesV sound tab_ok specs_ok overs_ok c_y67 rfl (tellA_ok (told_cons h0 (told_cons h1 (told_cons h2 (told_cons h3 (told_cons h4 (told_cons h5 (told_cons h6 (told_cons h7 (told_cons h8 (told_cons h9 (told_cons h10 (told_cons h11 (told_cons h12 (told_cons h13 (told_cons h14 (told_cons h15 (told_cons h16 (told_cons h17 (told_cons h18 told_nil)))))))))))))))))))) r0 hargs
              · have p17 := (Q.holds'_iff _ _ _).2 h17
                simp only [c_q20, Q.holds', D.nat, E.n, E.den, BO.den, UO.den, D.toInt_int, E.i, and_true, om_0, om_10, om_20, Int.toNat_natCast] at p17
                have h18 : Q.val (om n0 n1 n2) c_q21 = false := (Q.holds'_iff _ _ _).1 (by
                  simp only [c_q21, Q.holds', D.nat, E.n, E.den, BO.den, UO.den, D.toInt_int, E.i, and_true, om_0, om_10, om_20, Int.toNat_natCast]
                  all_goals (omega))
                have p18 := (Q.holds'_iff _ _ _).2 h18
                try (
                  simp only [c_q21, Q.holds', D.nat, E.n, E.den, BO.den, UO.den, D.toInt_int, E.i, and_true, om_0, om_10, om_20, Int.toNat_natCast] at p18)
                exact calls_of_yesV sound tab_ok specs_ok overs_ok c_y29 rfl (tellA_ok (told_cons h0 (told_cons h1 (told_cons h2 (told_cons h3 (told_cons h4 (told_cons h5 (told_cons h6 (told_cons h7 (told_cons h8 (told_cons h9 (told_cons h10 (told_cons h11 (told_cons h12 (told_cons h13 (told_cons h14 (told_cons h15 (told_cons h16 (told_cons h17 (told_cons h18 told_nil)))))))))))))))))))) r0 hargs

theorem underF23 : Try.prog.underlying 23 = some (.float .f64) := by kernel_rfl

set_option maxRecDepth 100000 in
theorem lifted (os : Os) (started : os.Started) (H : Type) (enc : TypeId × Value → H) :
    ReturnsInHanded {} Try.checked os 5 .any (Rows.ratioRisesSpec.pre6 enc Try.prog Try.f5 Rows.ratioRisesRow.domain false) (Rows.ratioRisesSpec.post enc Try.prog Try.f5 false true false false) := by
  refine returnsInHanded_of_change (C := Try.checked) own started (by kernel_rfl) Try.func5
    (ChangeSpec.witness6 (enc := enc) (C := Try.checked) false ⟨#[], #[.float .f64 0, .float .f64 0, .float .f64 0], []⟩ 8 (by kernel_rfl) (by kernel_rfl) (by kernel_rfl) (by kernel_rfl)) ?_
  intro W base args ds gs before hval0 hW hcnd _
  have hval : ∀ (j : Nat) t v, Try.f5.params[j]? = some t → args[j]? = some v → Value.okWide Try.prog W .any base t v := hval0
  have hW' := hW
  have hlt := hW.lt
  obtain ⟨p, q, hA0, hV, rfl, hfz, hnd⟩ := hW
  have hA : DataW.TrodAll enc Try.prog W 0 (fun _ => true) true Try.f5.params.toList args.toList ds p := hA0
  have hAll := hA
  rw [Try.params5] at hA hval hAll
  obtain ⟨rfl, rfl⟩ := trodVars_none hV
  obtain ⟨v0, v1, v2, d0, d1, d2, p0, p1, p2, rfl, rfl, rfl, h0, h1, h2⟩ := trodAll_three hA
  obtain ⟨n0, rfl, rfl, rfl, wn0⟩ := open_float underF23 (hval 0 23 _ rfl rfl) h0
  have wn0 := wf_float wn0
  obtain ⟨n1, rfl, rfl, rfl, wn1⟩ := open_float underF23 (hval 1 23 _ rfl rfl) h1
  have wn1 := wf_float wn1
  obtain ⟨n2, rfl, rfl, rfl, wn2⟩ := open_float underF23 (hval 2 23 _ rfl rfl) h2
  have wn2 := wf_float wn2
  clear hA0 hval0
  have hcall : Calls Try.prog 5 #[.float .f64 n0, .float .f64 n1, .float .f64 n2] W fun e w' => e = .returned (.bool true) ∧ Below W.heap.size W w' := by
    exact c_walk wn0 wn1 wn2 (globs0 _ W)
  refine hcall.mono fun e W' ⟨he, hg⟩ => ?_
  subst he
  exact ⟨_, rfl, _, [], _, [], _, [], hW', trodAll_cons_mk (shut_bool Try.underlying4 _) trodAll_mk0, trodAll_stays laid hg _ _ _ _ hAll (fun x hx => hlt x (by simp at hx)) (by kernel_rfl), rfl, hg.frame _, fun h => by cases h⟩

theorem over : Rows.ratioRisesRow.holds Try.pinned (OpenSpec.ofChange Rows.ratioRisesSpec) :=
  OpenClaim.holds_of_wide 5 Try.f5 rfl rfl rfl rfl rfl rfl rfl ⟨rfl, rfl, rfl, rfl, rfl⟩ rfl rfl rfl rfl rfl (by kernel_rfl) Try.func5 (by kernel_rfl)
    (of_decide_eq_true (by kernel_rfl)) (by unfold Func.isWrapper; first | (rw [if_pos (by decide +kernel)]; kernel_rfl) | (rw [if_neg (by decide +kernel)]; exact ⟨rfl, rfl⟩))
    (fun os started H enc _ => lifted os started H enc)

/-- The statement. -/
theorem proved : Rows.RatioRisesSaid :=
  over
#print axioms proved
end Go.Proofs.Ytgfaopbifonacaa.ratioRises
