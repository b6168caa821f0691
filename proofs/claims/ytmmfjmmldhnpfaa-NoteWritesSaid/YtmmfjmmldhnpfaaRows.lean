/-
  No cell of these rows narrows 'for every input' (looked for: loops, veiled, ifaces, maps, wideKeys, modest, calm, conditions, laid).
  DERIVED. THE GIVEN ROWS OF THIS SEAT. 5 by the template 'for every input the law returns true; each argument reads behind the call as it read before'; 0 by the template 'total and deterministic' (their statements: YtmmfjmmldhnpfaaTotals.lean).
  GIVEN WITH THE SEED: the statements are not yours to turn. If you find one false, say at which input.
  Laid BY PROGRAM, IN A SANDBOX (cutbox-rows.mjs): the forced cells as the released guide's own fill.sh prints them over the translation b38037a1de3dd85a… (all of the seat's roots in one cut). By AI agents, Wed Nov 11 2026. No macro, syntax, notation, axiom, sorry.
-/
import Derived.Test.YtmmfjmmldhnpfaaChecked
import GoSem.Claim
import GoSem.ClaimJoined
import GoSem.ClaimMapViews
import Derived.JoinedTies
import Derived.KernelRfl
namespace Go.Proofs.Ytmmfjmmldhnpfaa
/- THE CELL 'sum', in the pinned program and in every row, IS THE sha256 OF THE DUMP (.gsa) THAT YtmmfjmmldhnpfaaProg.lean LOADS. Nothing in Lean hashes anything: it is a label: what it is worth is what the hold of that sum in a sandbox is worth. -/
noncomputable def Try.pinned : Pinned := { name := "ytmmfjmmldhnpfaa", sum := "b38037a1de3dd85afaa221a6d097200b8b530c31e9c56bc6ca14a662fbf96194", checked := Try.checked }
namespace Rows
def none {H : Type} : Left H := { results := [], args := [] }

/-- 'satchellaw10.NoteWrites': WHATEVER THE INPUT: true; the input reads as it did. -/
def noteWritesSpec : ChangeSpec := { name := "noteWrites", fn := fun _ => fun
  | [d] => { results := [.lit (.bool true)], args := [d] }
  | _ => none }
def noteWritesRow : OpenClaim := { program := "ytmmfjmmldhnpfaa", sum := "b38037a1de3dd85afaa221a6d097200b8b530c31e9c56bc6ca14a662fbf96194", func := "satchel/satchellaw10.NoteWrites", spec := "noteWrites", unfollowed := true, recurses := true, apart := false }
def NoteWritesSaid : Prop := noteWritesRow.holds Try.pinned (OpenSpec.ofChange noteWritesSpec)

/-- ITS FALSE NEIGHBOUR: 'it returns false'. Refute it at one input. -/
def noteWritesWrong : ChangeSpec := { name := "noteWrites", fn := fun _ => fun
  | [d] => { results := [.lit (.bool false)], args := [d] }
  | _ => none }
def NoteWritesWrongFalsely : Prop := noteWritesRow.holds Try.pinned (OpenSpec.ofChange noteWritesWrong)

/-- 'satchellaw10.NoteReads': WHATEVER THE INPUT: true; the input reads as it did. -/
def noteReadsSpec : ChangeSpec := { name := "noteReads", fn := fun _ => fun
  | [d] => { results := [.lit (.bool true)], args := [d] }
  | _ => none }
def noteReadsRow : OpenClaim := { program := "ytmmfjmmldhnpfaa", sum := "b38037a1de3dd85afaa221a6d097200b8b530c31e9c56bc6ca14a662fbf96194", func := "satchel/satchellaw10.NoteReads", spec := "noteReads", unfollowed := true, recurses := true, apart := false }
def NoteReadsSaid : Prop := noteReadsRow.holds Try.pinned (OpenSpec.ofChange noteReadsSpec)

/-- ITS FALSE NEIGHBOUR: 'it returns false'. Refute it at one input. -/
def noteReadsWrong : ChangeSpec := { name := "noteReads", fn := fun _ => fun
  | [d] => { results := [.lit (.bool false)], args := [d] }
  | _ => none }
def NoteReadsWrongFalsely : Prop := noteReadsRow.holds Try.pinned (OpenSpec.ofChange noteReadsWrong)

/-- 'satchellaw10.NoteBack': WHATEVER THE INPUT: true; the input reads as it did. -/
def noteBackSpec : ChangeSpec := { name := "noteBack", fn := fun _ => fun
  | [d1, d2] => { results := [.lit (.bool true)], args := [d1, d2] }
  | _ => none }
def noteBackRow : OpenClaim := { program := "ytmmfjmmldhnpfaa", sum := "b38037a1de3dd85afaa221a6d097200b8b530c31e9c56bc6ca14a662fbf96194", func := "satchel/satchellaw10.NoteBack", spec := "noteBack", unfollowed := true, recurses := true, apart := false }
def NoteBackSaid : Prop := noteBackRow.holds Try.pinned (OpenSpec.ofChange noteBackSpec)

/-- ITS FALSE NEIGHBOUR: 'it returns false'. Refute it at one input. -/
def noteBackWrong : ChangeSpec := { name := "noteBack", fn := fun _ => fun
  | [d1, d2] => { results := [.lit (.bool false)], args := [d1, d2] }
  | _ => none }
def NoteBackWrongFalsely : Prop := noteBackRow.holds Try.pinned (OpenSpec.ofChange noteBackWrong)

/-- 'satchellaw10.NoteCut': WHATEVER THE INPUT: true; the input reads as it did. -/
def noteCutSpec : ChangeSpec := { name := "noteCut", fn := fun _ => fun
  | [d1, d2, d3] => { results := [.lit (.bool true)], args := [d1, d2, d3] }
  | _ => none }
def noteCutRow : OpenClaim := { program := "ytmmfjmmldhnpfaa", sum := "b38037a1de3dd85afaa221a6d097200b8b530c31e9c56bc6ca14a662fbf96194", func := "satchel/satchellaw10.NoteCut", spec := "noteCut", unfollowed := true, recurses := true, apart := false }
def NoteCutSaid : Prop := noteCutRow.holds Try.pinned (OpenSpec.ofChange noteCutSpec)

/-- ITS FALSE NEIGHBOUR: 'it returns false'. Refute it at one input. -/
def noteCutWrong : ChangeSpec := { name := "noteCut", fn := fun _ => fun
  | [d1, d2, d3] => { results := [.lit (.bool false)], args := [d1, d2, d3] }
  | _ => none }
def NoteCutWrongFalsely : Prop := noteCutRow.holds Try.pinned (OpenSpec.ofChange noteCutWrong)

/-- 'satchellaw10.NoteShapes': WHATEVER THE INPUT: true; the input reads as it did. -/
def noteShapesSpec : ChangeSpec := { name := "noteShapes", fn := fun _ => fun
  | [d1, d2] => { results := [.lit (.bool true)], args := [d1, d2] }
  | _ => none }
def noteShapesRow : OpenClaim := { program := "ytmmfjmmldhnpfaa", sum := "b38037a1de3dd85afaa221a6d097200b8b530c31e9c56bc6ca14a662fbf96194", func := "satchel/satchellaw10.NoteShapes", spec := "noteShapes", unfollowed := true, recurses := true, apart := false }
def NoteShapesSaid : Prop := noteShapesRow.holds Try.pinned (OpenSpec.ofChange noteShapesSpec)

/-- ITS FALSE NEIGHBOUR: 'it returns false'. Refute it at one input. -/
def noteShapesWrong : ChangeSpec := { name := "noteShapes", fn := fun _ => fun
  | [d1, d2] => { results := [.lit (.bool false)], args := [d1, d2] }
  | _ => none }
def NoteShapesWrongFalsely : Prop := noteShapesRow.holds Try.pinned (OpenSpec.ofChange noteShapesWrong)

/- THE SECOND FORM. 'bulk': how many values and letters a reading holds, each counted each time it is reached (what is shared counts as often as it is met; a slice's spare places count too). A statement '..UptoSaid' is the law's where the arguments, and the package variables that the reading takes, are together of bulk at most 1048576: NARROWER than '..Said'. Prove '..Said' where nothing that the law and all that it calls make is longer than what came in: it says more and counts as full. Else prove '..UptoSaid'. A law counts once. -/
mutual
def uptoBulk {H : Type} : DataW H → Nat
  | .lit (.string bytes) => bytes.length + 1
  | .lit _ => 1
  | .nil => 1
  | .ptr d => uptoBulk d + 1
  | .slice elems spare => uptoBulkAll elems + uptoBulkAll spare + 1
  | .agg parts => uptoBulkAll parts + 1
  | .iface _ d => uptoBulk d + 1
  | .map entries => uptoBulkEntries entries + 1
  | .held _ => 1
def uptoBulkAll {H : Type} : List (DataW H) → Nat
  | [] => 0
  | d :: r => uptoBulk d + uptoBulkAll r
def uptoBulkEntries {H : Type} : List (Lit × DataW H) → Nat
  | [] => 0
  | x :: r => uptoBulkEntry x + uptoBulkEntries r
def uptoBulkEntry {H : Type} : Lit × DataW H → Nat
  | (.string bytes, d) => bytes.length + uptoBulk d + 1
  | (_, d) => uptoBulk d + 1
 end
def uptoSmall : (H : Type) → List (DataW H) → Bool := fun _ ds => decide (uptoBulkAll ds ≤ 1048576)
def OpenSpec.upto (s : _root_.Go.ChangeSpec) : _root_.Go.OpenSpec := { _root_.Go.OpenSpec.ofChange s with cond := some uptoSmall }

/-- 'satchellaw10.NoteWrites', WHERE WHAT IT READS IS OF BULK AT MOST 1048576: true; the input reads as it did. -/
def noteWritesUptoRow : OpenClaim := { program := "ytmmfjmmldhnpfaa", sum := "b38037a1de3dd85afaa221a6d097200b8b530c31e9c56bc6ca14a662fbf96194", func := "satchel/satchellaw10.NoteWrites", spec := "noteWrites", unfollowed := true, recurses := true, apart := false, narrowed := true }
def NoteWritesUptoSaid : Prop := noteWritesUptoRow.holds Try.pinned (OpenSpec.upto noteWritesSpec)

/-- 'satchellaw10.NoteReads', WHERE WHAT IT READS IS OF BULK AT MOST 1048576: true; the input reads as it did. -/
def noteReadsUptoRow : OpenClaim := { program := "ytmmfjmmldhnpfaa", sum := "b38037a1de3dd85afaa221a6d097200b8b530c31e9c56bc6ca14a662fbf96194", func := "satchel/satchellaw10.NoteReads", spec := "noteReads", unfollowed := true, recurses := true, apart := false, narrowed := true }
def NoteReadsUptoSaid : Prop := noteReadsUptoRow.holds Try.pinned (OpenSpec.upto noteReadsSpec)

/-- 'satchellaw10.NoteBack', WHERE WHAT IT READS IS OF BULK AT MOST 1048576: true; the input reads as it did. -/
def noteBackUptoRow : OpenClaim := { program := "ytmmfjmmldhnpfaa", sum := "b38037a1de3dd85afaa221a6d097200b8b530c31e9c56bc6ca14a662fbf96194", func := "satchel/satchellaw10.NoteBack", spec := "noteBack", unfollowed := true, recurses := true, apart := false, narrowed := true }
def NoteBackUptoSaid : Prop := noteBackUptoRow.holds Try.pinned (OpenSpec.upto noteBackSpec)

/-- 'satchellaw10.NoteCut', WHERE WHAT IT READS IS OF BULK AT MOST 1048576: true; the input reads as it did. -/
def noteCutUptoRow : OpenClaim := { program := "ytmmfjmmldhnpfaa", sum := "b38037a1de3dd85afaa221a6d097200b8b530c31e9c56bc6ca14a662fbf96194", func := "satchel/satchellaw10.NoteCut", spec := "noteCut", unfollowed := true, recurses := true, apart := false, narrowed := true }
def NoteCutUptoSaid : Prop := noteCutUptoRow.holds Try.pinned (OpenSpec.upto noteCutSpec)

/-- 'satchellaw10.NoteShapes', WHERE WHAT IT READS IS OF BULK AT MOST 1048576: true; the input reads as it did. -/
def noteShapesUptoRow : OpenClaim := { program := "ytmmfjmmldhnpfaa", sum := "b38037a1de3dd85afaa221a6d097200b8b530c31e9c56bc6ca14a662fbf96194", func := "satchel/satchellaw10.NoteShapes", spec := "noteShapes", unfollowed := true, recurses := true, apart := false, narrowed := true }
def NoteShapesUptoSaid : Prop := noteShapesUptoRow.holds Try.pinned (OpenSpec.upto noteShapesSpec)

end Rows
end Go.Proofs.Ytmmfjmmldhnpfaa
