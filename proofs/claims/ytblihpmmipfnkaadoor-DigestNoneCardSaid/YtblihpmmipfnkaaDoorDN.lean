/-
  The law DigestNone of the layer digest holds of the code: for every byte string the call returns true, and the argument reads as it did. No condition; the package variables that it reads are as the program's text lays them (the card ties them).
-/
import Derived.Test.YtblihpmmipfnkaaDoorCo
import Derived.Test.YtblihpmmipfnkaaDoorMe
import Derived.Test.YtblihpmmipfnkaaDoorLo
import Derived.Test.YtblihpmmipfnkaaDoorCards
import Derived.Test.YtblihpmmipfnkaaDoorTie
import Derived.SevenTiedAt
import Derived.WalkKit
import Derived.ProofKit
import Derived.OpenShut
namespace Go.Proofs.YtblihpmmipfnkaaDoor.digestNone
open Go.ChangeShapes Go.WideShapes Go.ChangeAt Go.RowKit Go.Ev Go.Proofs.YtblihpmmipfnkaaDoor.Co
open Go.Proofs.YtblihpmmipfnkaaDoor.Lo (loops loops_ok F)

theorem underS : Tryd.prog.underlying 22 = some (.slice 5) := by kernel_rfl
theorem underB : Tryd.prog.underlying 5 = some (.int .u8) := by kernel_rfl
theorem cellsB : Tryd.prog.cellsOf 5 = 1 := by kernel_rfl

/-- What is known besides: the byte string's length, whether it is above 100. -/
def told (big : Bool) : Op → List AV → Option AV
  | .call { callee := .builtin .len, argTypes := tys, .. }, [.opq 1] => match tys.toList with
    | [22] => some (.opq 2)
    | _ => none
  | .binOp .gtr _ _ _ _, [.opq 2, .int .i64 100] => some (.bool big)
  | _, _ => none

def vals (v : Value) (len : Nat) : Nat → Value
  | 1 => v
  | 2 => .int .i64 len
  | _ => .bool false
def omV (v : Value) (len : Nat) : Om := ⟨vals v len, fun _ => .int 0, F⟩

theorem told_ok {b : Option Addr} {len c : Nat} {W : World} : FactsOK Tryd.prog (omV (.slice b len c) len) ⟨W, fun _ => true⟩ ⟨some (told (decide ((100 : Int) < len))), noAsk⟩ where
  ask := noAsk_ok _
  op := by
    intro G hG e he o a avs v hv hx
    simp only [Option.some.injEq] at hG
    subst hG
    unfold told at hv
    split at hv
    · rename_i args tys hop
      split at hv
      · rename_i htys
        simp only [Option.some.injEq] at hv
        subst hv
        have hops : o.op.operands.toList = args.toList := by rw [hop]; simp [Op.operands, Call.operands]
        rw [hops] at hx
        simp only [VRs, VR, he, omV, vals] at hx
        obtain ⟨x, r, h1, ⟨rfl, _⟩, rfl⟩ := hx
        exact ⟨.int .i64 len, by simp only [VR, he, omV, vals]; exact ⟨trivial, rfl⟩, fun w _ => run_len_of hop htys underS h1 w⟩
      · cases hv
    · rename_i t1 x y t2 hopp
      simp only [Option.some.injEq] at hv
      subst hv
      have hops : o.op.operands.toList = [x, y] := by rw [hopp]; simp [Op.operands]
      rw [hops] at hx
      obtain ⟨z0, hz0, hv0⟩ := hx.at 0 _ rfl
      obtain ⟨z1, hz1, hv1⟩ := hx.at 1 _ rfl
      simp only [List.map_cons, List.map_nil, List.getElem?_cons_zero, List.getElem?_cons_succ, Option.some.injEq] at hz0 hz1
      simp only [VR, he, omV, vals] at hv0 hv1
      exact ⟨.bool (decide ((100 : Int) < len)), by simp only [VR], fun w _ => run_gtr_of hopp (hz0.trans hv0.1) (hz1.trans hv1) w⟩
    · cases hv

def knows (big : Bool) : Known := ⟨⟨some (told big), noAsk⟩, loopsOf loops noAsk, memoCall Go.Proofs.YtblihpmmipfnkaaDoor.Me.memos⟩
theorem yes_big : yesOf Tryd.prog (knows true) 8000 80 9 [.opq 1] (globSt g0) = true := by kernel_rfl
theorem yes_small : yesOf Tryd.prog (knows false) 8000 80 9 [.opq 1] (globSt g0) = true := by kernel_rfl

theorem walk {b : Option Addr} {len c : Nat} {W : World} (h : GlobsR (omV (.slice b len c) len) W g0) :
    Calls Tryd.prog 9 #[.slice b len c] W fun e w' => e = .returned (.bool true) ∧ Below W.heap.size W w' := by
  have hy : yesOf Tryd.prog (knows (decide ((100 : Int) < len))) 8000 80 9 [.opq 1] (globSt g0) = true := by
    cases decide ((100 : Int) < len)
    · exact yes_small
    · exact yes_big
  have hk : KnownOK Tryd.prog (omV (.slice b len c) len) ⟨W, fun _ => true⟩ (knows (decide ((100 : Int) < len))) :=
    ⟨told_ok, fun g fn c' hg hc => loopsOf_ok loops_ok rfl (noAsk_ok _) g fn c' hg hc, Go.Proofs.YtblihpmmipfnkaaDoor.Me.memos_ok rfl h⟩
  exact calls_of_yesOf sound hy hk (Rel.globs _ W _ h) (VRs_cons (by simp only [VR]; exact ⟨rfl, rfl⟩) VRs_nil)

set_option maxRecDepth 100000 in
theorem lifted (os : Os) (started : os.Started) (H : Type) (enc : TypeId × Value → H) :
    ReturnsInHanded {} Tryd.checked os 9 .any (fun w args => (Rows.digestNoneSpec.pre enc Tryd.prog Tryd.f9 [] false w args ∧ laidMetH Tryd.prog laidL w) ∧ sizedMet enc Tryd.prog Tryd.f9 (OpenSpec.ofChange Rows.digestNoneSpec) false w args)
      (Rows.digestNoneSpec.post enc Tryd.prog Tryd.f9 false true false false) := by
  refine returnsInHanded_of_change_and (C := Tryd.checked) (X := fun w _ => laidMetH Tryd.prog laidL w) (fun _ _ _ hh h => h.of_heap hh) own started (by kernel_rfl) Tryd.func9
    (ChangeSpec.witness_shaped (enc := enc) (C := Tryd.checked) (os := os) (X := fun w _ => laidMetH Tryd.prog laidL w) false (World.doorLaid Tryd.prog 400 os) #[.slice none 0 0] 8 rfl (World.shaped_of_RefB (by kernel_rfl) (by kernel_rfl)) (by kernel_rfl) (by kernel_rfl) (by kernel_rfl) (door_met os _)) ?_
  intro W base args ds gs before hval0 hW _ _ hL _
  have hval : ∀ (j : Nat) t v, Tryd.f9.params[j]? = some t → args[j]? = some v → Value.okWide Tryd.prog W .any base t v := hval0
  have hW' := hW
  have hlt := hW.lt
  obtain ⟨p, q, hA0, hV, rfl, hfz, hnd⟩ := hW
  have hA : DataW.TrodAll enc Tryd.prog W 0 (fun _ => true) true Tryd.f9.params.toList args.toList ds p := hA0
  have hAll := hA
  rw [Tryd.params9] at hA hval hAll
  obtain ⟨rfl, rfl⟩ := trodVars_none hV
  obtain ⟨v0, d0, rfl, rfl, h0⟩ := trodAll_one hA
  have hv0 := hval 0 22 _ rfl rfl
  obtain ⟨b, len, c, rfl⟩ := okWide_slice underS hv0
  clear hA0 hval0
  refine (walk (globs0 _ hL)).mono fun e W' ⟨he, hg⟩ => ?_
  subst he
  exact ⟨_, rfl, _, [], _, [], _, [], hW', trodAll_cons_mk (shut_bool Tryd.underlying4 _) trodAll_mk0, trodAll_stays laid hg _ _ _ _ hAll (fun x hx => hlt x (by simpa using hx)) (by kernel_rfl), rfl, hg.frame _, fun h => by cases h⟩

theorem over : Rows.digestNoneRow.holds Tryd.pinned (OpenSpec.ofChange Rows.digestNoneSpec) :=
  OpenClaim.holds_of_wide 9 Tryd.f9 rfl rfl rfl rfl rfl rfl rfl ⟨rfl, rfl, rfl, rfl, rfl⟩ rfl rfl rfl rfl rfl (by kernel_rfl) Tryd.func9 (by kernel_rfl)
    (of_decide_eq_true (by kernel_rfl)) (by unfold Func.isWrapper; first | (rw [if_pos (by decide +kernel)]; kernel_rfl) | (rw [if_neg (by decide +kernel)]; exact ⟨rfl, rfl⟩))
    (fun os started H enc _ => lifted os started H enc)

/-- The statement: the tied card. -/
theorem proved : Rows.DigestNoneCardSaid :=
  Claim7.holds_tied_plain_at .later [] [.data] true (true, "0873446879191383a683b20958792a5c7d50311b94636b2b8a6112c70317e09b") false
    over (fun _ h => by cases h) (by kernel_rfl) (fun _ h => by cases h) digestNone_row_tie rfl ⟨rfl, rfl⟩ (by kernel_rfl) rfl
    (fun f fn hf hfn => by
      obtain rfl : f = 9 := Option.some.inj ((show Tryd.prog.funcNamed "satchel/satchellaw03.DigestNone" = some 9 by kernel_rfl).symm.trans hf) |>.symm
      obtain rfl : fn = Tryd.f9 := (Option.some.inj (Tryd.func9.symm.trans hfn)).symm
      exact ⟨by kernel_rfl, fun j t ht => by
        rw [Tryd.params9] at ht
        have hm : t ∈ ([22] : List TypeId) := by simpa using Array.mem_of_getElem? ht
        have hall : (([22] : List TypeId).all fun u => !Tryd.prog.wantsStandIn u) = true := by kernel_rfl
        exact (show Tryd.prog.wantsStandIn t = false by simpa using List.all_eq_true.1 hall t hm)⟩)
    (by kernel_rfl)
#print axioms proved
end Go.Proofs.YtblihpmmipfnkaaDoor.digestNone
