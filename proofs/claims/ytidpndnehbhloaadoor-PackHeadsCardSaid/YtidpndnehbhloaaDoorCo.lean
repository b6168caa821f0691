/-
 What the texts of this seat share: the program is one that the evaluator serves; what the package variables hold that the program lays; some calls, gone through one by one. No condition.
-/
import Derived.Test.YtidpndnehbhloaaDoorSyn
import Derived.Test.YtidpndnehbhloaaDoorRows
import Derived.LaidMore
import Derived.Stop.Joined
set_option linter.unusedSimpArgs false
set_option linter.unusedVariables false
namespace Go.Proofs.YtidpndnehbhloaaDoor.Co
open Go.ChangeShapes Go.WideShapes Go.ChangeAt Go.RowKit Go.Ev

theorem own : ownKnob Tryd.prog.godebug = none := by kernel_rfl
theorem laid : laidOutB Tryd.prog = true := by kernel_rfl
theorem sound : Sound Tryd.prog where
 mixed := by kernel_rfl
 names f fn c hf hb := by
  have hall : Tryd.prog.funcs.all (fun fn => fn.body.isNone || !(fn.name == "runtime.NumGoroutine")) = true := by kernel_rfl
  have := Array.all_eq_true_iff_forall_mem.1 hall fn (Array.mem_of_getElem? hf)
  simpa [hb] using this

theorem gname0 : Tryd.prog.globalNamed "satchel/digest.added" = some 0 := by kernel_rfl
theorem gtype0 : (Tryd.prog.globals[0]?).map (·.type) = some 90 := by kernel_rfl
def cells0 : List AV := [.int .u32 1116352408, .int .u32 1899447441, .int .u32 3049323471, .int .u32 3921009573, .int .u32 961987163, .int .u32 1508970993, .int .u32 2453635748, .int .u32 2870763221, .int .u32 3624381080, .int .u32 310598401, .int .u32 607225278, .int .u32 1426881987, .int .u32 1925078388, .int .u32 2162078206, .int .u32 2614888103, .int .u32 3248222580, .int .u32 3835390401, .int .u32 4022224774, .int .u32 264347078, .int .u32 604807628, .int .u32 770255983, .int .u32 1249150122, .int .u32 1555081692, .int .u32 1996064986, .int .u32 2554220882, .int .u32 2821834349, .int .u32 2952996808, .int .u32 3210313671, .int .u32 3336571891, .int .u32 3584528711, .int .u32 113926993, .int .u32 338241895, .int .u32 666307205, .int .u32 773529912, .int .u32 1294757372, .int .u32 1396182291, .int .u32 1695183700, .int .u32 1986661051, .int .u32 2177026350, .int .u32 2456956037, .int .u32 2730485921, .int .u32 2820302411, .int .u32 3259730800, .int .u32 3345764771, .int .u32 3516065817, .int .u32 3600352804, .int .u32 4094571909, .int .u32 275423344, .int .u32 430227734, .int .u32 506948616, .int .u32 659060556, .int .u32 883997877, .int .u32 958139571, .int .u32 1322822218, .int .u32 1537002063, .int .u32 1747873779, .int .u32 1955562222, .int .u32 2024104815, .int .u32 2227730452, .int .u32 2361852424, .int .u32 2428436474, .int .u32 2756734187, .int .u32 3204031479, .int .u32 3329325298]
theorem read0 : ((readD Tryd.prog 4000 90 (Rows.laid_satchel_digest_added (H := Unit))).bind fun vs => mapO (ofVal 8) vs) = some cells0 := by kernel_rfl
def g0 : List (Nat × List AV) := [(0, cells0)]
abbrev laidL : List (String × DataW Unit) := [("satchel/digest.added", Rows.laid_satchel_digest_added)]

theorem globs0 (Ω : Om) {W : World} (h : laidMetH Tryd.prog laidL W) : GlobsR Ω W g0 := by
 rw [MakeChecks.laidMetH_plain _ _ _ (by kernel_rfl)] at h
 obtain ⟨ps, ⟨g0, t0, cs0, f0, p0, q0, hg0, ht0, hv0, hd0, _, _⟩, _, _⟩ := h
 obtain rfl := Option.some.inj (gname0.symm.trans hg0)
 obtain rfl := Option.some.inj (gtype0.symm.trans ht0)
 intro p hp
 simp only [g0, List.mem_cons, List.not_mem_nil, or_false] at hp
 subst hp
 ·have hr := read0
  rw [Option.bind_eq_some_iff] at hr
  obtain ⟨vs, h1, h2⟩ := hr
  have hc := readD_trod 4000 _ _ _ _ _ _ h1 hd0
  refine ⟨vs, ⟨fun i => ?_, ?_⟩, mapO_vrs (ofVal_vr 8) _ _ h2⟩
  ·rw [World.var?_cell hg0 hv0 i, ← hc]; simp
  ·intro x; subst x; simp [mapO, cells0] at h2

theorem door_met (os : Os) (args : Array Value) : laidMetH Tryd.prog laidL ((World.doorLaid Tryd.prog 400 os).forCall (fun _ _ => 0) ⟨#[], args, []⟩).memory :=
 laidMetH_of_parts3 (fuel := 8) (laidMet_of_run' 8 (by kernel_rfl) (by kernel_rfl)) (by kernel_rfl) (by kernel_rfl)

end Go.Proofs.YtidpndnehbhloaaDoor.Co
