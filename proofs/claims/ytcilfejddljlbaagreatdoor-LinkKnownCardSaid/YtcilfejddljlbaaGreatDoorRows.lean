/-
  NARROWER THAN 'FOR EVERY INPUT', by the rows' own cells (each row's printed sentence says how): LinkBoots: laid · LinkKnown: laid.
  DERIVED. THE GIVEN ROWS OF THIS SEAT. 2 by the template 'for every input the law returns true; each argument reads behind the call as it read before'; 0 by the template 'total and deterministic' (their statements: YtcilfejddljlbaaGreatDoorTotals.lean).
  GIVEN WITH THE SEED: the statements are not yours to turn. If you find one false, say at which input.
  Laid BY PROGRAM, IN A SANDBOX (cutbox-rows.mjs): the forced cells as the released guide's own fill.sh prints them over the translation e152ae8dedc1a2c9… (all of the seat's roots in one cut). By AI agents, Wed Nov 11 2026. No macro, syntax, notation, axiom, sorry.
-/
import Derived.Test.YtcilfejddljlbaaGreatDoorChecked
import GoSem.Claim
import GoSem.ClaimJoined
import GoSem.ClaimMapViews
import Derived.JoinedTies
import Derived.KernelRfl
namespace Go.Proofs.YtcilfejddljlbaaGreatDoor
/- THE CELL 'sum', in the pinned program and in every row, IS THE sha256 OF THE DUMP (.gsa) THAT YtcilfejddljlbaaGreatDoorProg.lean LOADS. Nothing in Lean hashes anything: it is a label: what it is worth is what the hold of that sum in a sandbox is worth. -/
noncomputable def Tryz.pinned : Pinned := { name := "ytcilfejddljlbaagreatdoor", sum := "e152ae8dedc1a2c9ebc76ebaa27e070ce5def990ca86ae93e0603710288856c8", checked := Tryz.checked }
namespace Rows
def none {H : Type} : Left H := { results := [], args := [] }

/- WHAT THE LISTED PACKAGE-LEVEL VARIABLES READ AS WHEN THE CALL BEGINS. Each datum BY PROGRAM (the guide's laid-datum.mjs) off the statement by which the dump's own 'gosem.cut.vars' lays the variable. In a bare row this is a premise. The card (YtcilfejddljlbaaGreatDoorCards.lean) ties it to the program's text. -/
def laid_satchel_frame_shapes {H : Type} : DataW H := .agg [.agg [.lit (.int .i64 0), .lit (.int .i64 0), .lit (.int .i64 0), .lit (.int .i64 0), .lit (.int .i64 0)], .agg [.lit (.int .i64 2), .lit (.int .i64 0), .lit (.int .i64 0), .lit (.int .i64 0), .lit (.int .i64 0)], .agg [.lit (.int .i64 2), .lit (.int .i64 2), .lit (.int .i64 0), .lit (.int .i64 0), .lit (.int .i64 0)], .agg [.lit (.int .i64 2), .lit (.int .i64 2), .lit (.int .i64 2), .lit (.int .i64 1), .lit (.int .i64 1)], .agg [.lit (.int .i64 2), .lit (.int .i64 2), .lit (.int .i64 0), .lit (.int .i64 1), .lit (.int .i64 0)], .agg [.lit (.int .i64 2), .lit (.int .i64 1), .lit (.int .i64 0), .lit (.int .i64 0), .lit (.int .i64 0)]]

/-- 'satchellaw15.LinkBoots': WHATEVER THE INPUT: true; the input reads as it did. -/
def linkBootsSpec : ChangeSpec := { name := "linkBoots", fn := fun _ => fun
  | [d1, d2, d3] => { results := [.lit (.bool true)], args := [d1, d2, d3] }
  | _ => none }
def linkBootsRow : OpenClaim := { program := "ytcilfejddljlbaagreatdoor", sum := "e152ae8dedc1a2c9ebc76ebaa27e070ce5def990ca86ae93e0603710288856c8", func := "satchel/satchellaw15.LinkBoots", spec := "linkBoots", unfollowed := true, recurses := true, named := ["satchel/frame.shapes"], apart := false, laid := [("satchel/frame.shapes", laid_satchel_frame_shapes)] }
def LinkBootsSaid : Prop := linkBootsRow.holds Tryz.pinned (OpenSpec.ofChange linkBootsSpec)

/-- ITS FALSE NEIGHBOUR: 'it returns false'. Refute it at one input. -/
def linkBootsWrong : ChangeSpec := { name := "linkBoots", fn := fun _ => fun
  | [d1, d2, d3] => { results := [.lit (.bool false)], args := [d1, d2, d3] }
  | _ => none }
def LinkBootsWrongFalsely : Prop := linkBootsRow.holds Tryz.pinned (OpenSpec.ofChange linkBootsWrong)

/-- 'satchellaw15.LinkKnown': WHATEVER THE INPUT: true; the input reads as it did. -/
def linkKnownSpec : ChangeSpec := { name := "linkKnown", fn := fun _ => fun
  | [] => { results := [.lit (.bool true)], args := [] }
  | _ => none }
def linkKnownRow : OpenClaim := { program := "ytcilfejddljlbaagreatdoor", sum := "e152ae8dedc1a2c9ebc76ebaa27e070ce5def990ca86ae93e0603710288856c8", func := "satchel/satchellaw15.LinkKnown", spec := "linkKnown", unfollowed := true, recurses := true, named := ["satchel/frame.shapes"], apart := false, laid := [("satchel/frame.shapes", laid_satchel_frame_shapes)] }
def LinkKnownSaid : Prop := linkKnownRow.holds Tryz.pinned (OpenSpec.ofChange linkKnownSpec)

/-- ITS FALSE NEIGHBOUR: 'it returns false'. Refute it at one input. -/
def linkKnownWrong : ChangeSpec := { name := "linkKnown", fn := fun _ => fun
  | [] => { results := [.lit (.bool false)], args := [] }
  | _ => none }
def LinkKnownWrongFalsely : Prop := linkKnownRow.holds Tryz.pinned (OpenSpec.ofChange linkKnownWrong)

/- THE SECOND FORM. 'bulk': how many values and letters a reading holds, each counted each time it is reached (what is shared counts as often as it is met; a slice's spare places count too). A statement '..UptoSaid' is the law's where the arguments, and the package variables that the reading takes, are together of bulk at most 1048576: NARROWER than '..Said'. Prove '..Said' where nothing that the law and all that it calls make is longer than what came in: it says more and counts as full. Else prove '..UptoSaid'. A law counts once. -/
mutual
def uptoBulk {H : Type} : DataW H → Nat
  | .lit (.string bytes) => bytes.length + 1
  | .lit _ => 1
  | .nil => 1
  | .ptr d => uptoBulk d + 1
  | .slice elems spare => uptoBulkAll elems + uptoBulkAll spare + 1
  | .agg parts => uptoBulkAll parts + 1
  | .iface _ d => uptoBulk d + 1
  | .map entries => uptoBulkEntries entries + 1
  | .held _ => 1
def uptoBulkAll {H : Type} : List (DataW H) → Nat
  | [] => 0
  | d :: r => uptoBulk d + uptoBulkAll r
def uptoBulkEntries {H : Type} : List (Lit × DataW H) → Nat
  | [] => 0
  | x :: r => uptoBulkEntry x + uptoBulkEntries r
def uptoBulkEntry {H : Type} : Lit × DataW H → Nat
  | (.string bytes, d) => bytes.length + uptoBulk d + 1
  | (_, d) => uptoBulk d + 1
 end
def uptoSmall : (H : Type) → List (DataW H) → Bool := fun _ ds => decide (uptoBulkAll ds ≤ 1048576)
def OpenSpec.upto (s : _root_.Go.ChangeSpec) : _root_.Go.OpenSpec := { _root_.Go.OpenSpec.ofChange s with cond := some uptoSmall }

/-- 'satchellaw15.LinkBoots', WHERE WHAT IT READS IS OF BULK AT MOST 1048576: true; the input reads as it did. -/
def linkBootsUptoRow : OpenClaim := { program := "ytcilfejddljlbaagreatdoor", sum := "e152ae8dedc1a2c9ebc76ebaa27e070ce5def990ca86ae93e0603710288856c8", func := "satchel/satchellaw15.LinkBoots", spec := "linkBoots", unfollowed := true, recurses := true, named := ["satchel/frame.shapes"], apart := false, laid := [("satchel/frame.shapes", laid_satchel_frame_shapes)], narrowed := true }
def LinkBootsUptoSaid : Prop := linkBootsUptoRow.holds Tryz.pinned (OpenSpec.upto linkBootsSpec)

/-- 'satchellaw15.LinkKnown', WHERE WHAT IT READS IS OF BULK AT MOST 1048576: true; the input reads as it did. -/
def linkKnownUptoRow : OpenClaim := { program := "ytcilfejddljlbaagreatdoor", sum := "e152ae8dedc1a2c9ebc76ebaa27e070ce5def990ca86ae93e0603710288856c8", func := "satchel/satchellaw15.LinkKnown", spec := "linkKnown", unfollowed := true, recurses := true, named := ["satchel/frame.shapes"], apart := false, laid := [("satchel/frame.shapes", laid_satchel_frame_shapes)], narrowed := true }
def LinkKnownUptoSaid : Prop := linkKnownUptoRow.holds Tryz.pinned (OpenSpec.upto linkKnownSpec)

end Rows
end Go.Proofs.YtcilfejddljlbaaGreatDoor
