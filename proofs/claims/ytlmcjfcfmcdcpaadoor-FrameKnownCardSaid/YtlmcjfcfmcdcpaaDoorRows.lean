/-
  NARROWER THAN 'FOR EVERY INPUT', by the rows' own cells (each row's printed sentence says how): FramePuts: laid · FrameReads: laid · FrameGuarded: laid · FrameBack: laid · FrameTurned: laid · FrameTypes: laid · FrameKnown: laid.
  DERIVED. THE GIVEN ROWS OF THIS SEAT. 7 by the template 'for every input the law returns true; each argument reads behind the call as it read before'; 0 by the template 'total and deterministic' (their statements: YtlmcjfcfmcdcpaaDoorTotals.lean).
  GIVEN WITH THE SEED: the statements are not yours to turn. If you find one false, say at which input.
  Laid BY PROGRAM, IN A SANDBOX (cutbox-rows.mjs): the forced cells as the released guide's own fill.sh prints them over the translation 3190cb019213788a… (all of the seat's roots in one cut). By AI agents, Wed Nov 11 2026. No macro, syntax, notation, axiom, sorry.
-/
import Derived.Test.YtlmcjfcfmcdcpaaDoorChecked
import GoSem.Claim
import GoSem.ClaimJoined
import GoSem.ClaimMapViews
import Derived.JoinedTies
import Derived.KernelRfl
namespace Go.Proofs.YtlmcjfcfmcdcpaaDoor
/- THE CELL 'sum', in the pinned program and in every row, IS THE sha256 OF THE DUMP (.gsa) THAT YtlmcjfcfmcdcpaaDoorProg.lean LOADS. Nothing in Lean hashes anything: it is a label: what it is worth is what the hold of that sum in a sandbox is worth. -/
noncomputable def Tryd.pinned : Pinned := { name := "ytlmcjfcfmcdcpaadoor", sum := "3190cb019213788a2915256badfae5d2a961d43b182da5c8b3315a45e9ab75c6", checked := Tryd.checked }
namespace Rows
def none {H : Type} : Left H := { results := [], args := [] }

/- WHAT THE LISTED PACKAGE-LEVEL VARIABLES READ AS WHEN THE CALL BEGINS. Each datum BY PROGRAM (the guide's laid-datum.mjs) off the statement by which the dump's own 'gosem.cut.vars' lays the variable. In a bare row this is a premise. The card (YtlmcjfcfmcdcpaaDoorCards.lean) ties it to the program's text. -/
def laid_satchel_frame_shapes {H : Type} : DataW H := .agg [.agg [.lit (.int .i64 0), .lit (.int .i64 0), .lit (.int .i64 0), .lit (.int .i64 0), .lit (.int .i64 0)], .agg [.lit (.int .i64 2), .lit (.int .i64 0), .lit (.int .i64 0), .lit (.int .i64 0), .lit (.int .i64 0)], .agg [.lit (.int .i64 2), .lit (.int .i64 2), .lit (.int .i64 0), .lit (.int .i64 0), .lit (.int .i64 0)], .agg [.lit (.int .i64 2), .lit (.int .i64 2), .lit (.int .i64 2), .lit (.int .i64 1), .lit (.int .i64 1)], .agg [.lit (.int .i64 2), .lit (.int .i64 2), .lit (.int .i64 0), .lit (.int .i64 1), .lit (.int .i64 0)], .agg [.lit (.int .i64 2), .lit (.int .i64 1), .lit (.int .i64 0), .lit (.int .i64 0), .lit (.int .i64 0)]]

/-- 'satchellaw11.FramePuts': WHATEVER THE INPUT: true; the input reads as it did. -/
def framePutsSpec : ChangeSpec := { name := "framePuts", fn := fun _ => fun
  | [d] => { results := [.lit (.bool true)], args := [d] }
  | _ => none }
def framePutsRow : OpenClaim := { program := "ytlmcjfcfmcdcpaadoor", sum := "3190cb019213788a2915256badfae5d2a961d43b182da5c8b3315a45e9ab75c6", func := "satchel/satchellaw11.FramePuts", spec := "framePuts", unfollowed := true, recurses := true, named := ["satchel/frame.shapes"], apart := false, laid := [("satchel/frame.shapes", laid_satchel_frame_shapes)] }
def FramePutsSaid : Prop := framePutsRow.holds Tryd.pinned (OpenSpec.ofChange framePutsSpec)

/-- ITS FALSE NEIGHBOUR: 'it returns false'. Refute it at one input. -/
def framePutsWrong : ChangeSpec := { name := "framePuts", fn := fun _ => fun
  | [d] => { results := [.lit (.bool false)], args := [d] }
  | _ => none }
def FramePutsWrongFalsely : Prop := framePutsRow.holds Tryd.pinned (OpenSpec.ofChange framePutsWrong)

/-- 'satchellaw11.FrameReads': WHATEVER THE INPUT: true; the input reads as it did. -/
def frameReadsSpec : ChangeSpec := { name := "frameReads", fn := fun _ => fun
  | [d] => { results := [.lit (.bool true)], args := [d] }
  | _ => none }
def frameReadsRow : OpenClaim := { program := "ytlmcjfcfmcdcpaadoor", sum := "3190cb019213788a2915256badfae5d2a961d43b182da5c8b3315a45e9ab75c6", func := "satchel/satchellaw11.FrameReads", spec := "frameReads", unfollowed := true, recurses := true, named := ["satchel/frame.shapes"], apart := false, laid := [("satchel/frame.shapes", laid_satchel_frame_shapes)] }
def FrameReadsSaid : Prop := frameReadsRow.holds Tryd.pinned (OpenSpec.ofChange frameReadsSpec)

/-- ITS FALSE NEIGHBOUR: 'it returns false'. Refute it at one input. -/
def frameReadsWrong : ChangeSpec := { name := "frameReads", fn := fun _ => fun
  | [d] => { results := [.lit (.bool false)], args := [d] }
  | _ => none }
def FrameReadsWrongFalsely : Prop := frameReadsRow.holds Tryd.pinned (OpenSpec.ofChange frameReadsWrong)

/-- 'satchellaw11.FrameGuarded': WHATEVER THE INPUT: true; the input reads as it did. -/
def frameGuardedSpec : ChangeSpec := { name := "frameGuarded", fn := fun _ => fun
  | [d1, d2, d3, d4] => { results := [.lit (.bool true)], args := [d1, d2, d3, d4] }
  | _ => none }
def frameGuardedRow : OpenClaim := { program := "ytlmcjfcfmcdcpaadoor", sum := "3190cb019213788a2915256badfae5d2a961d43b182da5c8b3315a45e9ab75c6", func := "satchel/satchellaw11.FrameGuarded", spec := "frameGuarded", unfollowed := true, recurses := true, named := ["satchel/frame.shapes"], apart := false, laid := [("satchel/frame.shapes", laid_satchel_frame_shapes)] }
def FrameGuardedSaid : Prop := frameGuardedRow.holds Tryd.pinned (OpenSpec.ofChange frameGuardedSpec)

/-- ITS FALSE NEIGHBOUR: 'it returns false'. Refute it at one input. -/
def frameGuardedWrong : ChangeSpec := { name := "frameGuarded", fn := fun _ => fun
  | [d1, d2, d3, d4] => { results := [.lit (.bool false)], args := [d1, d2, d3, d4] }
  | _ => none }
def FrameGuardedWrongFalsely : Prop := frameGuardedRow.holds Tryd.pinned (OpenSpec.ofChange frameGuardedWrong)

/-- 'satchellaw11.FrameBack': WHATEVER THE INPUT: true; the input reads as it did. -/
def frameBackSpec : ChangeSpec := { name := "frameBack", fn := fun _ => fun
  | [d1, d2] => { results := [.lit (.bool true)], args := [d1, d2] }
  | _ => none }
def frameBackRow : OpenClaim := { program := "ytlmcjfcfmcdcpaadoor", sum := "3190cb019213788a2915256badfae5d2a961d43b182da5c8b3315a45e9ab75c6", func := "satchel/satchellaw11.FrameBack", spec := "frameBack", unfollowed := true, recurses := true, named := ["satchel/frame.shapes"], apart := false, laid := [("satchel/frame.shapes", laid_satchel_frame_shapes)] }
def FrameBackSaid : Prop := frameBackRow.holds Tryd.pinned (OpenSpec.ofChange frameBackSpec)

/-- ITS FALSE NEIGHBOUR: 'it returns false'. Refute it at one input. -/
def frameBackWrong : ChangeSpec := { name := "frameBack", fn := fun _ => fun
  | [d1, d2] => { results := [.lit (.bool false)], args := [d1, d2] }
  | _ => none }
def FrameBackWrongFalsely : Prop := frameBackRow.holds Tryd.pinned (OpenSpec.ofChange frameBackWrong)

/-- 'satchellaw11.FrameTurned': WHATEVER THE INPUT: true; the input reads as it did. -/
def frameTurnedSpec : ChangeSpec := { name := "frameTurned", fn := fun _ => fun
  | [d1, d2, d3] => { results := [.lit (.bool true)], args := [d1, d2, d3] }
  | _ => none }
def frameTurnedRow : OpenClaim := { program := "ytlmcjfcfmcdcpaadoor", sum := "3190cb019213788a2915256badfae5d2a961d43b182da5c8b3315a45e9ab75c6", func := "satchel/satchellaw11.FrameTurned", spec := "frameTurned", unfollowed := true, recurses := true, named := ["satchel/frame.shapes"], apart := false, laid := [("satchel/frame.shapes", laid_satchel_frame_shapes)] }
def FrameTurnedSaid : Prop := frameTurnedRow.holds Tryd.pinned (OpenSpec.ofChange frameTurnedSpec)

/-- ITS FALSE NEIGHBOUR: 'it returns false'. Refute it at one input. -/
def frameTurnedWrong : ChangeSpec := { name := "frameTurned", fn := fun _ => fun
  | [d1, d2, d3] => { results := [.lit (.bool false)], args := [d1, d2, d3] }
  | _ => none }
def FrameTurnedWrongFalsely : Prop := frameTurnedRow.holds Tryd.pinned (OpenSpec.ofChange frameTurnedWrong)

/-- 'satchellaw11.FrameTypes': WHATEVER THE INPUT: true; the input reads as it did. -/
def frameTypesSpec : ChangeSpec := { name := "frameTypes", fn := fun _ => fun
  | [d1, d2] => { results := [.lit (.bool true)], args := [d1, d2] }
  | _ => none }
def frameTypesRow : OpenClaim := { program := "ytlmcjfcfmcdcpaadoor", sum := "3190cb019213788a2915256badfae5d2a961d43b182da5c8b3315a45e9ab75c6", func := "satchel/satchellaw11.FrameTypes", spec := "frameTypes", unfollowed := true, recurses := true, named := ["satchel/frame.shapes"], apart := false, laid := [("satchel/frame.shapes", laid_satchel_frame_shapes)] }
def FrameTypesSaid : Prop := frameTypesRow.holds Tryd.pinned (OpenSpec.ofChange frameTypesSpec)

/-- ITS FALSE NEIGHBOUR: 'it returns false'. Refute it at one input. -/
def frameTypesWrong : ChangeSpec := { name := "frameTypes", fn := fun _ => fun
  | [d1, d2] => { results := [.lit (.bool false)], args := [d1, d2] }
  | _ => none }
def FrameTypesWrongFalsely : Prop := frameTypesRow.holds Tryd.pinned (OpenSpec.ofChange frameTypesWrong)

/-- 'satchellaw11.FrameKnown': WHATEVER THE INPUT: true; the input reads as it did. -/
def frameKnownSpec : ChangeSpec := { name := "frameKnown", fn := fun _ => fun
  | [] => { results := [.lit (.bool true)], args := [] }
  | _ => none }
def frameKnownRow : OpenClaim := { program := "ytlmcjfcfmcdcpaadoor", sum := "3190cb019213788a2915256badfae5d2a961d43b182da5c8b3315a45e9ab75c6", func := "satchel/satchellaw11.FrameKnown", spec := "frameKnown", unfollowed := true, recurses := true, named := ["satchel/frame.shapes"], apart := false, laid := [("satchel/frame.shapes", laid_satchel_frame_shapes)] }
def FrameKnownSaid : Prop := frameKnownRow.holds Tryd.pinned (OpenSpec.ofChange frameKnownSpec)

/-- ITS FALSE NEIGHBOUR: 'it returns false'. Refute it at one input. -/
def frameKnownWrong : ChangeSpec := { name := "frameKnown", fn := fun _ => fun
  | [] => { results := [.lit (.bool false)], args := [] }
  | _ => none }
def FrameKnownWrongFalsely : Prop := frameKnownRow.holds Tryd.pinned (OpenSpec.ofChange frameKnownWrong)

/- THE SECOND FORM. 'bulk': how many values and letters a reading holds, each counted each time it is reached (what is shared counts as often as it is met; a slice's spare places count too). A statement '..UptoSaid' is the law's where the arguments, and the package variables that the reading takes, are together of bulk at most 1048576: NARROWER than '..Said'. Prove '..Said' where nothing that the law and all that it calls make is longer than what came in: it says more and counts as full. Else prove '..UptoSaid'. A law counts once. -/
mutual
def uptoBulk {H : Type} : DataW H → Nat
  | .lit (.string bytes) => bytes.length + 1
  | .lit _ => 1
  | .nil => 1
  | .ptr d => uptoBulk d + 1
  | .slice elems spare => uptoBulkAll elems + uptoBulkAll spare + 1
  | .agg parts => uptoBulkAll parts + 1
  | .iface _ d => uptoBulk d + 1
  | .map entries => uptoBulkEntries entries + 1
  | .held _ => 1
def uptoBulkAll {H : Type} : List (DataW H) → Nat
  | [] => 0
  | d :: r => uptoBulk d + uptoBulkAll r
def uptoBulkEntries {H : Type} : List (Lit × DataW H) → Nat
  | [] => 0
  | x :: r => uptoBulkEntry x + uptoBulkEntries r
def uptoBulkEntry {H : Type} : Lit × DataW H → Nat
  | (.string bytes, d) => bytes.length + uptoBulk d + 1
  | (_, d) => uptoBulk d + 1
 end
def uptoSmall : (H : Type) → List (DataW H) → Bool := fun _ ds => decide (uptoBulkAll ds ≤ 1048576)
def OpenSpec.upto (s : _root_.Go.ChangeSpec) : _root_.Go.OpenSpec := { _root_.Go.OpenSpec.ofChange s with cond := some uptoSmall }

/-- 'satchellaw11.FramePuts', WHERE WHAT IT READS IS OF BULK AT MOST 1048576: true; the input reads as it did. -/
def framePutsUptoRow : OpenClaim := { program := "ytlmcjfcfmcdcpaadoor", sum := "3190cb019213788a2915256badfae5d2a961d43b182da5c8b3315a45e9ab75c6", func := "satchel/satchellaw11.FramePuts", spec := "framePuts", unfollowed := true, recurses := true, named := ["satchel/frame.shapes"], apart := false, laid := [("satchel/frame.shapes", laid_satchel_frame_shapes)], narrowed := true }
def FramePutsUptoSaid : Prop := framePutsUptoRow.holds Tryd.pinned (OpenSpec.upto framePutsSpec)

/-- 'satchellaw11.FrameReads', WHERE WHAT IT READS IS OF BULK AT MOST 1048576: true; the input reads as it did. -/
def frameReadsUptoRow : OpenClaim := { program := "ytlmcjfcfmcdcpaadoor", sum := "3190cb019213788a2915256badfae5d2a961d43b182da5c8b3315a45e9ab75c6", func := "satchel/satchellaw11.FrameReads", spec := "frameReads", unfollowed := true, recurses := true, named := ["satchel/frame.shapes"], apart := false, laid := [("satchel/frame.shapes", laid_satchel_frame_shapes)], narrowed := true }
def FrameReadsUptoSaid : Prop := frameReadsUptoRow.holds Tryd.pinned (OpenSpec.upto frameReadsSpec)

/-- 'satchellaw11.FrameGuarded', WHERE WHAT IT READS IS OF BULK AT MOST 1048576: true; the input reads as it did. -/
def frameGuardedUptoRow : OpenClaim := { program := "ytlmcjfcfmcdcpaadoor", sum := "3190cb019213788a2915256badfae5d2a961d43b182da5c8b3315a45e9ab75c6", func := "satchel/satchellaw11.FrameGuarded", spec := "frameGuarded", unfollowed := true, recurses := true, named := ["satchel/frame.shapes"], apart := false, laid := [("satchel/frame.shapes", laid_satchel_frame_shapes)], narrowed := true }
def FrameGuardedUptoSaid : Prop := frameGuardedUptoRow.holds Tryd.pinned (OpenSpec.upto frameGuardedSpec)

/-- 'satchellaw11.FrameBack', WHERE WHAT IT READS IS OF BULK AT MOST 1048576: true; the input reads as it did. -/
def frameBackUptoRow : OpenClaim := { program := "ytlmcjfcfmcdcpaadoor", sum := "3190cb019213788a2915256badfae5d2a961d43b182da5c8b3315a45e9ab75c6", func := "satchel/satchellaw11.FrameBack", spec := "frameBack", unfollowed := true, recurses := true, named := ["satchel/frame.shapes"], apart := false, laid := [("satchel/frame.shapes", laid_satchel_frame_shapes)], narrowed := true }
def FrameBackUptoSaid : Prop := frameBackUptoRow.holds Tryd.pinned (OpenSpec.upto frameBackSpec)

/-- 'satchellaw11.FrameTurned', WHERE WHAT IT READS IS OF BULK AT MOST 1048576: true; the input reads as it did. -/
def frameTurnedUptoRow : OpenClaim := { program := "ytlmcjfcfmcdcpaadoor", sum := "3190cb019213788a2915256badfae5d2a961d43b182da5c8b3315a45e9ab75c6", func := "satchel/satchellaw11.FrameTurned", spec := "frameTurned", unfollowed := true, recurses := true, named := ["satchel/frame.shapes"], apart := false, laid := [("satchel/frame.shapes", laid_satchel_frame_shapes)], narrowed := true }
def FrameTurnedUptoSaid : Prop := frameTurnedUptoRow.holds Tryd.pinned (OpenSpec.upto frameTurnedSpec)

/-- 'satchellaw11.FrameTypes', WHERE WHAT IT READS IS OF BULK AT MOST 1048576: true; the input reads as it did. -/
def frameTypesUptoRow : OpenClaim := { program := "ytlmcjfcfmcdcpaadoor", sum := "3190cb019213788a2915256badfae5d2a961d43b182da5c8b3315a45e9ab75c6", func := "satchel/satchellaw11.FrameTypes", spec := "frameTypes", unfollowed := true, recurses := true, named := ["satchel/frame.shapes"], apart := false, laid := [("satchel/frame.shapes", laid_satchel_frame_shapes)], narrowed := true }
def FrameTypesUptoSaid : Prop := frameTypesUptoRow.holds Tryd.pinned (OpenSpec.upto frameTypesSpec)

/-- 'satchellaw11.FrameKnown', WHERE WHAT IT READS IS OF BULK AT MOST 1048576: true; the input reads as it did. -/
def frameKnownUptoRow : OpenClaim := { program := "ytlmcjfcfmcdcpaadoor", sum := "3190cb019213788a2915256badfae5d2a961d43b182da5c8b3315a45e9ab75c6", func := "satchel/satchellaw11.FrameKnown", spec := "frameKnown", unfollowed := true, recurses := true, named := ["satchel/frame.shapes"], apart := false, laid := [("satchel/frame.shapes", laid_satchel_frame_shapes)], narrowed := true }
def FrameKnownUptoSaid : Prop := frameKnownUptoRow.holds Tryd.pinned (OpenSpec.upto frameKnownSpec)

end Rows
end Go.Proofs.YtlmcjfcfmcdcpaaDoor
