/-
  No cell of these rows narrows 'for every input' (looked for: loops, veiled, ifaces, maps, wideKeys, modest, calm, conditions, laid).
  DERIVED. THE GIVEN ROWS OF THIS SEAT. 6 by the template 'for every input the law returns true; each argument reads behind the call as it read before'; 0 by the template 'total and deterministic' (their statements: YtehhckeklnhifaaTotals.lean).
  GIVEN WITH THE SEED: the statements are not yours to turn. If you find one false, say at which input.
  Laid BY PROGRAM, IN A SANDBOX (cutbox-rows.mjs): the forced cells as the released guide's own fill.sh prints them over the translation cbb365505bd6619e… (all of the seat's roots in one cut). By AI agents, Wed Nov 11 2026. No macro, syntax, notation, axiom, sorry.
-/
import Derived.Test.YtehhckeklnhifaaChecked
import GoSem.Claim
import GoSem.ClaimJoined
import GoSem.ClaimMapViews
import Derived.JoinedTies
import Derived.KernelRfl
namespace Go.Proofs.Ytehhckeklnhifaa
/- THE CELL 'sum', in the pinned program and in every row, IS THE sha256 OF THE DUMP (.gsa) THAT YtehhckeklnhifaaProg.lean LOADS. Nothing in Lean hashes anything: it is a label: what it is worth is what the hold of that sum in a sandbox is worth. -/
noncomputable def Try.pinned : Pinned := { name := "ytehhckeklnhifaa", sum := "cbb365505bd6619ebbb5c0ad00aa6877585d883536a73e76e47ad92d13d55e6e", checked := Try.checked }
namespace Rows
def none {H : Type} : Left H := { results := [], args := [] }

/-- 'satchellaw14.InboxTakes': WHATEVER THE INPUT: true; the input reads as it did. -/
def inboxTakesSpec : ChangeSpec := { name := "inboxTakes", fn := fun _ => fun
  | [d1, d2] => { results := [.lit (.bool true)], args := [d1, d2] }
  | _ => none }
def inboxTakesRow : OpenClaim := { program := "ytehhckeklnhifaa", sum := "cbb365505bd6619ebbb5c0ad00aa6877585d883536a73e76e47ad92d13d55e6e", func := "satchel/satchellaw14.InboxTakes", spec := "inboxTakes", unfollowed := true, recurses := true, apart := false }
def InboxTakesSaid : Prop := inboxTakesRow.holds Try.pinned (OpenSpec.ofChange inboxTakesSpec)

/-- ITS FALSE NEIGHBOUR: 'it returns false'. Refute it at one input. -/
def inboxTakesWrong : ChangeSpec := { name := "inboxTakes", fn := fun _ => fun
  | [d1, d2] => { results := [.lit (.bool false)], args := [d1, d2] }
  | _ => none }
def InboxTakesWrongFalsely : Prop := inboxTakesRow.holds Try.pinned (OpenSpec.ofChange inboxTakesWrong)

/-- 'satchellaw14.InboxNone': WHATEVER THE INPUT: true; the input reads as it did. -/
def inboxNoneSpec : ChangeSpec := { name := "inboxNone", fn := fun _ => fun
  | [d] => { results := [.lit (.bool true)], args := [d] }
  | _ => none }
def inboxNoneRow : OpenClaim := { program := "ytehhckeklnhifaa", sum := "cbb365505bd6619ebbb5c0ad00aa6877585d883536a73e76e47ad92d13d55e6e", func := "satchel/satchellaw14.InboxNone", spec := "inboxNone", unfollowed := true, recurses := true, apart := false }
def InboxNoneSaid : Prop := inboxNoneRow.holds Try.pinned (OpenSpec.ofChange inboxNoneSpec)

/-- ITS FALSE NEIGHBOUR: 'it returns false'. Refute it at one input. -/
def inboxNoneWrong : ChangeSpec := { name := "inboxNone", fn := fun _ => fun
  | [d] => { results := [.lit (.bool false)], args := [d] }
  | _ => none }
def InboxNoneWrongFalsely : Prop := inboxNoneRow.holds Try.pinned (OpenSpec.ofChange inboxNoneWrong)

/-- 'satchellaw14.InboxOrder': WHATEVER THE INPUT: true; the input reads as it did. -/
def inboxOrderSpec : ChangeSpec := { name := "inboxOrder", fn := fun _ => fun
  | [d1, d2] => { results := [.lit (.bool true)], args := [d1, d2] }
  | _ => none }
def inboxOrderRow : OpenClaim := { program := "ytehhckeklnhifaa", sum := "cbb365505bd6619ebbb5c0ad00aa6877585d883536a73e76e47ad92d13d55e6e", func := "satchel/satchellaw14.InboxOrder", spec := "inboxOrder", unfollowed := true, recurses := true, apart := false }
def InboxOrderSaid : Prop := inboxOrderRow.holds Try.pinned (OpenSpec.ofChange inboxOrderSpec)

/-- ITS FALSE NEIGHBOUR: 'it returns false'. Refute it at one input. -/
def inboxOrderWrong : ChangeSpec := { name := "inboxOrder", fn := fun _ => fun
  | [d1, d2] => { results := [.lit (.bool false)], args := [d1, d2] }
  | _ => none }
def InboxOrderWrongFalsely : Prop := inboxOrderRow.holds Try.pinned (OpenSpec.ofChange inboxOrderWrong)

/-- 'satchellaw14.InboxAll': WHATEVER THE INPUT: true; the input reads as it did. -/
def inboxAllSpec : ChangeSpec := { name := "inboxAll", fn := fun _ => fun
  | [d1, d2, d3] => { results := [.lit (.bool true)], args := [d1, d2, d3] }
  | _ => none }
def inboxAllRow : OpenClaim := { program := "ytehhckeklnhifaa", sum := "cbb365505bd6619ebbb5c0ad00aa6877585d883536a73e76e47ad92d13d55e6e", func := "satchel/satchellaw14.InboxAll", spec := "inboxAll", unfollowed := true, recurses := true, apart := false }
def InboxAllSaid : Prop := inboxAllRow.holds Try.pinned (OpenSpec.ofChange inboxAllSpec)

/-- ITS FALSE NEIGHBOUR: 'it returns false'. Refute it at one input. -/
def inboxAllWrong : ChangeSpec := { name := "inboxAll", fn := fun _ => fun
  | [d1, d2, d3] => { results := [.lit (.bool false)], args := [d1, d2, d3] }
  | _ => none }
def InboxAllWrongFalsely : Prop := inboxAllRow.holds Try.pinned (OpenSpec.ofChange inboxAllWrong)

/-- 'satchellaw14.InboxAgain': WHATEVER THE INPUT: true; the input reads as it did. -/
def inboxAgainSpec : ChangeSpec := { name := "inboxAgain", fn := fun _ => fun
  | [d1, d2, d3, d4] => { results := [.lit (.bool true)], args := [d1, d2, d3, d4] }
  | _ => none }
def inboxAgainRow : OpenClaim := { program := "ytehhckeklnhifaa", sum := "cbb365505bd6619ebbb5c0ad00aa6877585d883536a73e76e47ad92d13d55e6e", func := "satchel/satchellaw14.InboxAgain", spec := "inboxAgain", unfollowed := true, recurses := true, apart := false }
def InboxAgainSaid : Prop := inboxAgainRow.holds Try.pinned (OpenSpec.ofChange inboxAgainSpec)

/-- ITS FALSE NEIGHBOUR: 'it returns false'. Refute it at one input. -/
def inboxAgainWrong : ChangeSpec := { name := "inboxAgain", fn := fun _ => fun
  | [d1, d2, d3, d4] => { results := [.lit (.bool false)], args := [d1, d2, d3, d4] }
  | _ => none }
def InboxAgainWrongFalsely : Prop := inboxAgainRow.holds Try.pinned (OpenSpec.ofChange inboxAgainWrong)

/-- 'satchellaw14.InboxKnown': WHATEVER THE INPUT: true; the input reads as it did. -/
def inboxKnownSpec : ChangeSpec := { name := "inboxKnown", fn := fun _ => fun
  | [] => { results := [.lit (.bool true)], args := [] }
  | _ => none }
def inboxKnownRow : OpenClaim := { program := "ytehhckeklnhifaa", sum := "cbb365505bd6619ebbb5c0ad00aa6877585d883536a73e76e47ad92d13d55e6e", func := "satchel/satchellaw14.InboxKnown", spec := "inboxKnown", unfollowed := true, recurses := true, apart := false }
def InboxKnownSaid : Prop := inboxKnownRow.holds Try.pinned (OpenSpec.ofChange inboxKnownSpec)

/-- ITS FALSE NEIGHBOUR: 'it returns false'. Refute it at one input. -/
def inboxKnownWrong : ChangeSpec := { name := "inboxKnown", fn := fun _ => fun
  | [] => { results := [.lit (.bool false)], args := [] }
  | _ => none }
def InboxKnownWrongFalsely : Prop := inboxKnownRow.holds Try.pinned (OpenSpec.ofChange inboxKnownWrong)

/- THE SECOND FORM. 'bulk': how many values and letters a reading holds, each counted each time it is reached (what is shared counts as often as it is met; a slice's spare places count too). A statement '..UptoSaid' is the law's where the arguments, and the package variables that the reading takes, are together of bulk at most 1048576: NARROWER than '..Said'. Prove '..Said' where nothing that the law and all that it calls make is longer than what came in: it says more and counts as full. Else prove '..UptoSaid'. A law counts once. -/
mutual
def uptoBulk {H : Type} : DataW H → Nat
  | .lit (.string bytes) => bytes.length + 1
  | .lit _ => 1
  | .nil => 1
  | .ptr d => uptoBulk d + 1
  | .slice elems spare => uptoBulkAll elems + uptoBulkAll spare + 1
  | .agg parts => uptoBulkAll parts + 1
  | .iface _ d => uptoBulk d + 1
  | .map entries => uptoBulkEntries entries + 1
  | .held _ => 1
def uptoBulkAll {H : Type} : List (DataW H) → Nat
  | [] => 0
  | d :: r => uptoBulk d + uptoBulkAll r
def uptoBulkEntries {H : Type} : List (Lit × DataW H) → Nat
  | [] => 0
  | x :: r => uptoBulkEntry x + uptoBulkEntries r
def uptoBulkEntry {H : Type} : Lit × DataW H → Nat
  | (.string bytes, d) => bytes.length + uptoBulk d + 1
  | (_, d) => uptoBulk d + 1
 end
def uptoSmall : (H : Type) → List (DataW H) → Bool := fun _ ds => decide (uptoBulkAll ds ≤ 1048576)
def OpenSpec.upto (s : _root_.Go.ChangeSpec) : _root_.Go.OpenSpec := { _root_.Go.OpenSpec.ofChange s with cond := some uptoSmall }

/-- 'satchellaw14.InboxTakes', WHERE WHAT IT READS IS OF BULK AT MOST 1048576: true; the input reads as it did. -/
def inboxTakesUptoRow : OpenClaim := { program := "ytehhckeklnhifaa", sum := "cbb365505bd6619ebbb5c0ad00aa6877585d883536a73e76e47ad92d13d55e6e", func := "satchel/satchellaw14.InboxTakes", spec := "inboxTakes", unfollowed := true, recurses := true, apart := false, narrowed := true }
def InboxTakesUptoSaid : Prop := inboxTakesUptoRow.holds Try.pinned (OpenSpec.upto inboxTakesSpec)

/-- 'satchellaw14.InboxNone', WHERE WHAT IT READS IS OF BULK AT MOST 1048576: true; the input reads as it did. -/
def inboxNoneUptoRow : OpenClaim := { program := "ytehhckeklnhifaa", sum := "cbb365505bd6619ebbb5c0ad00aa6877585d883536a73e76e47ad92d13d55e6e", func := "satchel/satchellaw14.InboxNone", spec := "inboxNone", unfollowed := true, recurses := true, apart := false, narrowed := true }
def InboxNoneUptoSaid : Prop := inboxNoneUptoRow.holds Try.pinned (OpenSpec.upto inboxNoneSpec)

/-- 'satchellaw14.InboxOrder', WHERE WHAT IT READS IS OF BULK AT MOST 1048576: true; the input reads as it did. -/
def inboxOrderUptoRow : OpenClaim := { program := "ytehhckeklnhifaa", sum := "cbb365505bd6619ebbb5c0ad00aa6877585d883536a73e76e47ad92d13d55e6e", func := "satchel/satchellaw14.InboxOrder", spec := "inboxOrder", unfollowed := true, recurses := true, apart := false, narrowed := true }
def InboxOrderUptoSaid : Prop := inboxOrderUptoRow.holds Try.pinned (OpenSpec.upto inboxOrderSpec)

/-- 'satchellaw14.InboxAll', WHERE WHAT IT READS IS OF BULK AT MOST 1048576: true; the input reads as it did. -/
def inboxAllUptoRow : OpenClaim := { program := "ytehhckeklnhifaa", sum := "cbb365505bd6619ebbb5c0ad00aa6877585d883536a73e76e47ad92d13d55e6e", func := "satchel/satchellaw14.InboxAll", spec := "inboxAll", unfollowed := true, recurses := true, apart := false, narrowed := true }
def InboxAllUptoSaid : Prop := inboxAllUptoRow.holds Try.pinned (OpenSpec.upto inboxAllSpec)

/-- 'satchellaw14.InboxAgain', WHERE WHAT IT READS IS OF BULK AT MOST 1048576: true; the input reads as it did. -/
def inboxAgainUptoRow : OpenClaim := { program := "ytehhckeklnhifaa", sum := "cbb365505bd6619ebbb5c0ad00aa6877585d883536a73e76e47ad92d13d55e6e", func := "satchel/satchellaw14.InboxAgain", spec := "inboxAgain", unfollowed := true, recurses := true, apart := false, narrowed := true }
def InboxAgainUptoSaid : Prop := inboxAgainUptoRow.holds Try.pinned (OpenSpec.upto inboxAgainSpec)

/-- 'satchellaw14.InboxKnown', WHERE WHAT IT READS IS OF BULK AT MOST 1048576: true; the input reads as it did. -/
def inboxKnownUptoRow : OpenClaim := { program := "ytehhckeklnhifaa", sum := "cbb365505bd6619ebbb5c0ad00aa6877585d883536a73e76e47ad92d13d55e6e", func := "satchel/satchellaw14.InboxKnown", spec := "inboxKnown", unfollowed := true, recurses := true, apart := false, narrowed := true }
def InboxKnownUptoSaid : Prop := inboxKnownUptoRow.holds Try.pinned (OpenSpec.upto inboxKnownSpec)

end Rows
end Go.Proofs.Ytehhckeklnhifaa
