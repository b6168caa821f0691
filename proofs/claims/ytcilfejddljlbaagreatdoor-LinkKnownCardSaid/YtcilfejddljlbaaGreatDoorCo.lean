/-
 What the texts of this seat share: the program is one that the evaluator serves; what the package variables hold that the program lays; some calls, gone through one by one. No condition.
-/
import Derived.Test.YtcilfejddljlbaaGreatDoorSyn
import Derived.Test.YtcilfejddljlbaaGreatDoorRows
import Derived.LaidMore
import Derived.Stop.Joined
set_option linter.unusedSimpArgs false
set_option linter.unusedVariables false
namespace Go.Proofs.YtcilfejddljlbaaGreatDoor.Co
open Go.ChangeShapes Go.WideShapes Go.ChangeAt Go.RowKit Go.Ev

theorem own : ownKnob Tryz.prog.godebug = none := by kernel_rfl
theorem laid : laidOutB Tryz.prog = true := by kernel_rfl
theorem sound : Sound Tryz.prog where
 mixed := by kernel_rfl
 names f fn c hf hb := by
  have hall : Tryz.prog.funcs.all (fun fn => fn.body.isNone || !(fn.name == "runtime.NumGoroutine")) = true := by kernel_rfl
  have := Array.all_eq_true_iff_forall_mem.1 hall fn (Array.mem_of_getElem? hf)
  simpa [hb] using this

theorem gname0 : Tryz.prog.globalNamed "satchel/frame.shapes" = some 0 := by kernel_rfl
theorem gtype0 : (Tryz.prog.globals[0]?).map (·.type) = some 74 := by kernel_rfl
def cells0 : List AV := [.int .i64 0, .int .i64 0, .int .i64 0, .int .i64 0, .int .i64 0, .int .i64 2, .int .i64 0, .int .i64 0, .int .i64 0, .int .i64 0, .int .i64 2, .int .i64 2, .int .i64 0, .int .i64 0, .int .i64 0, .int .i64 2, .int .i64 2, .int .i64 2, .int .i64 1, .int .i64 1, .int .i64 2, .int .i64 2, .int .i64 0, .int .i64 1, .int .i64 0, .int .i64 2, .int .i64 1, .int .i64 0, .int .i64 0, .int .i64 0]
theorem read0 : ((readD Tryz.prog 4000 74 (Rows.laid_satchel_frame_shapes (H := Unit))).bind fun vs => mapO (ofVal 8) vs) = some cells0 := by kernel_rfl
def g0 : List (Nat × List AV) := [(0, cells0)]
abbrev laidL : List (String × DataW Unit) := [("satchel/frame.shapes", Rows.laid_satchel_frame_shapes)]

theorem globs0 (Ω : Om) {W : World} (h : laidMetH Tryz.prog laidL W) : GlobsR Ω W g0 := by
 rw [MakeChecks.laidMetH_plain _ _ _ (by kernel_rfl)] at h
 obtain ⟨ps, ⟨g0, t0, cs0, f0, p0, q0, hg0, ht0, hv0, hd0, _, _⟩, _, _⟩ := h
 obtain rfl := Option.some.inj (gname0.symm.trans hg0)
 obtain rfl := Option.some.inj (gtype0.symm.trans ht0)
 intro p hp
 simp only [g0, List.mem_cons, List.not_mem_nil, or_false] at hp
 subst hp
 ·have hr := read0
  rw [Option.bind_eq_some_iff] at hr
  obtain ⟨vs, h1, h2⟩ := hr
  have hc := readD_trod 4000 _ _ _ _ _ _ h1 hd0
  refine ⟨vs, ⟨fun i => ?_, ?_⟩, mapO_vrs (ofVal_vr 8) _ _ h2⟩
  ·rw [World.var?_cell hg0 hv0 i, ← hc]; simp
  ·intro x; subst x; simp [mapO, cells0] at h2

theorem door_met (os : Os) (args : Array Value) : laidMetH Tryz.prog laidL ((World.doorLaid Tryz.prog 400 os).forCall (fun _ _ => 0) ⟨#[], args, []⟩).memory :=
 laidMetH_of_parts3 (fuel := 8) (laidMet_of_run' 8 (by kernel_rfl) (by kernel_rfl)) (by kernel_rfl) (by kernel_rfl)

def memos : List Memo := []
theorem memos_ok {Ω : Om} {W : World} (_ : GlobsR Ω W g0) : CallOK Tryz.prog Ω (Base.all W) (memoCall memos) :=
 memoNil_ok _ _ _
end Go.Proofs.YtcilfejddljlbaaGreatDoor.Co
