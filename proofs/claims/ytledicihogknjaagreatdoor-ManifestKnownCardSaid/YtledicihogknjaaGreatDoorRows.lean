/-
  NARROWER THAN 'FOR EVERY INPUT', by the rows' own cells (each row's printed sentence says how): ManifestMakes: laid · ManifestBytes: laid · ManifestReads: laid · ManifestBuilds: laid · ManifestKnown: laid · ManifestBack: laid · ManifestHolds: laid.
  DERIVED. THE GIVEN ROWS OF THIS SEAT. 7 by the template 'for every input the law returns true; each argument reads behind the call as it read before'; 0 by the template 'total and deterministic' (their statements: YtledicihogknjaaGreatDoorTotals.lean).
  GIVEN WITH THE SEED: the statements are not yours to turn. If you find one false, say at which input.
  Laid BY PROGRAM, IN A SANDBOX (cutbox-rows.mjs): the forced cells as the released guide's own fill.sh prints them over the translation d1b0f1d14157a57e… (all of the seat's roots in one cut). By AI agents, Wed Nov 11 2026. No macro, syntax, notation, axiom, sorry.
-/
import Derived.Test.YtledicihogknjaaGreatDoorChecked
import GoSem.Claim
import GoSem.ClaimJoined
import GoSem.ClaimMapViews
import Derived.JoinedTies
import Derived.KernelRfl
namespace Go.Proofs.YtledicihogknjaaGreatDoor
/- THE CELL 'sum', in the pinned program and in every row, IS THE sha256 OF THE DUMP (.gsa) THAT YtledicihogknjaaGreatDoorProg.lean LOADS. Nothing in Lean hashes anything: it is a label: what it is worth is what the hold of that sum in a sandbox is worth. -/
noncomputable def Tryz.pinned : Pinned := { name := "ytledicihogknjaagreatdoor", sum := "d1b0f1d14157a57ec41a36b8e2e210df6ea91e70500345a1a34c811714dd925d", checked := Tryz.checked }
namespace Rows
def none {H : Type} : Left H := { results := [], args := [] }

/- WHAT THE LISTED PACKAGE-LEVEL VARIABLES READ AS WHEN THE CALL BEGINS. Each datum BY PROGRAM (the guide's laid-datum.mjs) off the statement by which the dump's own 'gosem.cut.vars' lays the variable. In a bare row this is a premise. The card (YtledicihogknjaaGreatDoorCards.lean) ties it to the program's text. -/
def laid_satchel_digest_added {H : Type} : DataW H := .agg [.lit (.int .u32 1116352408), .lit (.int .u32 1899447441), .lit (.int .u32 3049323471), .lit (.int .u32 3921009573), .lit (.int .u32 961987163), .lit (.int .u32 1508970993), .lit (.int .u32 2453635748), .lit (.int .u32 2870763221), .lit (.int .u32 3624381080), .lit (.int .u32 310598401), .lit (.int .u32 607225278), .lit (.int .u32 1426881987), .lit (.int .u32 1925078388), .lit (.int .u32 2162078206), .lit (.int .u32 2614888103), .lit (.int .u32 3248222580), .lit (.int .u32 3835390401), .lit (.int .u32 4022224774), .lit (.int .u32 264347078), .lit (.int .u32 604807628), .lit (.int .u32 770255983), .lit (.int .u32 1249150122), .lit (.int .u32 1555081692), .lit (.int .u32 1996064986), .lit (.int .u32 2554220882), .lit (.int .u32 2821834349), .lit (.int .u32 2952996808), .lit (.int .u32 3210313671), .lit (.int .u32 3336571891), .lit (.int .u32 3584528711), .lit (.int .u32 113926993), .lit (.int .u32 338241895), .lit (.int .u32 666307205), .lit (.int .u32 773529912), .lit (.int .u32 1294757372), .lit (.int .u32 1396182291), .lit (.int .u32 1695183700), .lit (.int .u32 1986661051), .lit (.int .u32 2177026350), .lit (.int .u32 2456956037), .lit (.int .u32 2730485921), .lit (.int .u32 2820302411), .lit (.int .u32 3259730800), .lit (.int .u32 3345764771), .lit (.int .u32 3516065817), .lit (.int .u32 3600352804), .lit (.int .u32 4094571909), .lit (.int .u32 275423344), .lit (.int .u32 430227734), .lit (.int .u32 506948616), .lit (.int .u32 659060556), .lit (.int .u32 883997877), .lit (.int .u32 958139571), .lit (.int .u32 1322822218), .lit (.int .u32 1537002063), .lit (.int .u32 1747873779), .lit (.int .u32 1955562222), .lit (.int .u32 2024104815), .lit (.int .u32 2227730452), .lit (.int .u32 2361852424), .lit (.int .u32 2428436474), .lit (.int .u32 2756734187), .lit (.int .u32 3204031479), .lit (.int .u32 3329325298)]

/-- 'satchellaw09.ManifestMakes': WHATEVER THE INPUT: true; the input reads as it did. -/
def manifestMakesSpec : ChangeSpec := { name := "manifestMakes", fn := fun _ => fun
  | [d1, d2, d3, d4] => { results := [.lit (.bool true)], args := [d1, d2, d3, d4] }
  | _ => none }
def manifestMakesRow : OpenClaim := { program := "ytledicihogknjaagreatdoor", sum := "d1b0f1d14157a57ec41a36b8e2e210df6ea91e70500345a1a34c811714dd925d", func := "satchel/satchellaw09.ManifestMakes", spec := "manifestMakes", inPlace := ["internal/bytealg.IndexByteString", "internal/bytealg.IndexString", "internal/bytealg.abigen_runtime_cmpstring"], unfollowed := true, recurses := true, named := ["internal/bytealg.MaxLen", "satchel/digest.added"], plainKeys := false, apart := false, laid := [("satchel/digest.added", laid_satchel_digest_added)] }
def ManifestMakesSaid : Prop := manifestMakesRow.holds Tryz.pinned (OpenSpec.ofChange manifestMakesSpec)

/-- ITS FALSE NEIGHBOUR: 'it returns false'. Refute it at one input. -/
def manifestMakesWrong : ChangeSpec := { name := "manifestMakes", fn := fun _ => fun
  | [d1, d2, d3, d4] => { results := [.lit (.bool false)], args := [d1, d2, d3, d4] }
  | _ => none }
def ManifestMakesWrongFalsely : Prop := manifestMakesRow.holds Tryz.pinned (OpenSpec.ofChange manifestMakesWrong)

/-- 'satchellaw09.ManifestBytes': WHATEVER THE INPUT: true; the input reads as it did. -/
def manifestBytesSpec : ChangeSpec := { name := "manifestBytes", fn := fun _ => fun
  | [d1, d2] => { results := [.lit (.bool true)], args := [d1, d2] }
  | _ => none }
def manifestBytesRow : OpenClaim := { program := "ytledicihogknjaagreatdoor", sum := "d1b0f1d14157a57ec41a36b8e2e210df6ea91e70500345a1a34c811714dd925d", func := "satchel/satchellaw09.ManifestBytes", spec := "manifestBytes", inPlace := ["internal/bytealg.IndexByteString", "internal/bytealg.IndexString", "internal/bytealg.abigen_runtime_cmpstring"], unfollowed := true, recurses := true, named := ["internal/bytealg.MaxLen", "satchel/digest.added"], plainKeys := false, apart := false, laid := [("satchel/digest.added", laid_satchel_digest_added)] }
def ManifestBytesSaid : Prop := manifestBytesRow.holds Tryz.pinned (OpenSpec.ofChange manifestBytesSpec)

/-- ITS FALSE NEIGHBOUR: 'it returns false'. Refute it at one input. -/
def manifestBytesWrong : ChangeSpec := { name := "manifestBytes", fn := fun _ => fun
  | [d1, d2] => { results := [.lit (.bool false)], args := [d1, d2] }
  | _ => none }
def ManifestBytesWrongFalsely : Prop := manifestBytesRow.holds Tryz.pinned (OpenSpec.ofChange manifestBytesWrong)

/-- 'satchellaw09.ManifestReads': WHATEVER THE INPUT: true; the input reads as it did. -/
def manifestReadsSpec : ChangeSpec := { name := "manifestReads", fn := fun _ => fun
  | [d] => { results := [.lit (.bool true)], args := [d] }
  | _ => none }
def manifestReadsRow : OpenClaim := { program := "ytledicihogknjaagreatdoor", sum := "d1b0f1d14157a57ec41a36b8e2e210df6ea91e70500345a1a34c811714dd925d", func := "satchel/satchellaw09.ManifestReads", spec := "manifestReads", inPlace := ["internal/bytealg.IndexByteString", "internal/bytealg.IndexString", "internal/bytealg.abigen_runtime_cmpstring"], unfollowed := true, recurses := true, named := ["internal/bytealg.MaxLen", "satchel/digest.added"], plainKeys := false, apart := false, laid := [("satchel/digest.added", laid_satchel_digest_added)] }
def ManifestReadsSaid : Prop := manifestReadsRow.holds Tryz.pinned (OpenSpec.ofChange manifestReadsSpec)

/-- ITS FALSE NEIGHBOUR: 'it returns false'. Refute it at one input. -/
def manifestReadsWrong : ChangeSpec := { name := "manifestReads", fn := fun _ => fun
  | [d] => { results := [.lit (.bool false)], args := [d] }
  | _ => none }
def ManifestReadsWrongFalsely : Prop := manifestReadsRow.holds Tryz.pinned (OpenSpec.ofChange manifestReadsWrong)

/-- 'satchellaw09.ManifestBuilds': WHATEVER THE INPUT: true; the input reads as it did. -/
def manifestBuildsSpec : ChangeSpec := { name := "manifestBuilds", fn := fun _ => fun
  | [d1, d2] => { results := [.lit (.bool true)], args := [d1, d2] }
  | _ => none }
def manifestBuildsRow : OpenClaim := { program := "ytledicihogknjaagreatdoor", sum := "d1b0f1d14157a57ec41a36b8e2e210df6ea91e70500345a1a34c811714dd925d", func := "satchel/satchellaw09.ManifestBuilds", spec := "manifestBuilds", inPlace := ["internal/bytealg.IndexByteString", "internal/bytealg.IndexString", "internal/bytealg.abigen_runtime_cmpstring"], unfollowed := true, recurses := true, named := ["internal/bytealg.MaxLen", "satchel/digest.added"], plainKeys := false, apart := false, laid := [("satchel/digest.added", laid_satchel_digest_added)] }
def ManifestBuildsSaid : Prop := manifestBuildsRow.holds Tryz.pinned (OpenSpec.ofChange manifestBuildsSpec)

/-- ITS FALSE NEIGHBOUR: 'it returns false'. Refute it at one input. -/
def manifestBuildsWrong : ChangeSpec := { name := "manifestBuilds", fn := fun _ => fun
  | [d1, d2] => { results := [.lit (.bool false)], args := [d1, d2] }
  | _ => none }
def ManifestBuildsWrongFalsely : Prop := manifestBuildsRow.holds Tryz.pinned (OpenSpec.ofChange manifestBuildsWrong)

/-- 'satchellaw09.ManifestKnown': WHATEVER THE INPUT: true; the input reads as it did. -/
def manifestKnownSpec : ChangeSpec := { name := "manifestKnown", fn := fun _ => fun
  | [] => { results := [.lit (.bool true)], args := [] }
  | _ => none }
def manifestKnownRow : OpenClaim := { program := "ytledicihogknjaagreatdoor", sum := "d1b0f1d14157a57ec41a36b8e2e210df6ea91e70500345a1a34c811714dd925d", func := "satchel/satchellaw09.ManifestKnown", spec := "manifestKnown", inPlace := ["internal/bytealg.IndexByteString", "internal/bytealg.IndexString", "internal/bytealg.abigen_runtime_cmpstring"], unfollowed := true, recurses := true, named := ["internal/bytealg.MaxLen", "satchel/digest.added"], plainKeys := false, apart := false, laid := [("satchel/digest.added", laid_satchel_digest_added)] }
def ManifestKnownSaid : Prop := manifestKnownRow.holds Tryz.pinned (OpenSpec.ofChange manifestKnownSpec)

/-- ITS FALSE NEIGHBOUR: 'it returns false'. Refute it at one input. -/
def manifestKnownWrong : ChangeSpec := { name := "manifestKnown", fn := fun _ => fun
  | [] => { results := [.lit (.bool false)], args := [] }
  | _ => none }
def ManifestKnownWrongFalsely : Prop := manifestKnownRow.holds Tryz.pinned (OpenSpec.ofChange manifestKnownWrong)

/-- 'satchellaw09.ManifestBack': WHATEVER THE INPUT: true; the input reads as it did. -/
def manifestBackSpec : ChangeSpec := { name := "manifestBack", fn := fun _ => fun
  | [d1, d2] => { results := [.lit (.bool true)], args := [d1, d2] }
  | _ => none }
def manifestBackRow : OpenClaim := { program := "ytledicihogknjaagreatdoor", sum := "d1b0f1d14157a57ec41a36b8e2e210df6ea91e70500345a1a34c811714dd925d", func := "satchel/satchellaw09.ManifestBack", spec := "manifestBack", inPlace := ["internal/bytealg.IndexByteString", "internal/bytealg.IndexString", "internal/bytealg.abigen_runtime_cmpstring"], unfollowed := true, recurses := true, named := ["internal/bytealg.MaxLen", "satchel/digest.added"], plainKeys := false, apart := false, laid := [("satchel/digest.added", laid_satchel_digest_added)] }
def ManifestBackSaid : Prop := manifestBackRow.holds Tryz.pinned (OpenSpec.ofChange manifestBackSpec)

/-- ITS FALSE NEIGHBOUR: 'it returns false'. Refute it at one input. -/
def manifestBackWrong : ChangeSpec := { name := "manifestBack", fn := fun _ => fun
  | [d1, d2] => { results := [.lit (.bool false)], args := [d1, d2] }
  | _ => none }
def ManifestBackWrongFalsely : Prop := manifestBackRow.holds Tryz.pinned (OpenSpec.ofChange manifestBackWrong)

/-- 'satchellaw09.ManifestHolds': WHATEVER THE INPUT: true; the input reads as it did. -/
def manifestHoldsSpec : ChangeSpec := { name := "manifestHolds", fn := fun _ => fun
  | [d1, d2] => { results := [.lit (.bool true)], args := [d1, d2] }
  | _ => none }
def manifestHoldsRow : OpenClaim := { program := "ytledicihogknjaagreatdoor", sum := "d1b0f1d14157a57ec41a36b8e2e210df6ea91e70500345a1a34c811714dd925d", func := "satchel/satchellaw09.ManifestHolds", spec := "manifestHolds", inPlace := ["internal/bytealg.IndexByteString", "internal/bytealg.IndexString", "internal/bytealg.abigen_runtime_cmpstring"], unfollowed := true, recurses := true, named := ["internal/bytealg.MaxLen", "satchel/digest.added"], plainKeys := false, apart := false, laid := [("satchel/digest.added", laid_satchel_digest_added)] }
def ManifestHoldsSaid : Prop := manifestHoldsRow.holds Tryz.pinned (OpenSpec.ofChange manifestHoldsSpec)

/-- ITS FALSE NEIGHBOUR: 'it returns false'. Refute it at one input. -/
def manifestHoldsWrong : ChangeSpec := { name := "manifestHolds", fn := fun _ => fun
  | [d1, d2] => { results := [.lit (.bool false)], args := [d1, d2] }
  | _ => none }
def ManifestHoldsWrongFalsely : Prop := manifestHoldsRow.holds Tryz.pinned (OpenSpec.ofChange manifestHoldsWrong)

/- THE SECOND FORM. 'bulk': how many values and letters a reading holds, each counted each time it is reached (what is shared counts as often as it is met; a slice's spare places count too). A statement '..UptoSaid' is the law's where the arguments, and the package variables that the reading takes, are together of bulk at most 1048576: NARROWER than '..Said'. Prove '..Said' where nothing that the law and all that it calls make is longer than what came in: it says more and counts as full. Else prove '..UptoSaid'. A law counts once. -/
mutual
def uptoBulk {H : Type} : DataW H → Nat
  | .lit (.string bytes) => bytes.length + 1
  | .lit _ => 1
  | .nil => 1
  | .ptr d => uptoBulk d + 1
  | .slice elems spare => uptoBulkAll elems + uptoBulkAll spare + 1
  | .agg parts => uptoBulkAll parts + 1
  | .iface _ d => uptoBulk d + 1
  | .map entries => uptoBulkEntries entries + 1
  | .held _ => 1
def uptoBulkAll {H : Type} : List (DataW H) → Nat
  | [] => 0
  | d :: r => uptoBulk d + uptoBulkAll r
def uptoBulkEntries {H : Type} : List (Lit × DataW H) → Nat
  | [] => 0
  | x :: r => uptoBulkEntry x + uptoBulkEntries r
def uptoBulkEntry {H : Type} : Lit × DataW H → Nat
  | (.string bytes, d) => bytes.length + uptoBulk d + 1
  | (_, d) => uptoBulk d + 1
 end
def uptoSmall : (H : Type) → List (DataW H) → Bool := fun _ ds => decide (uptoBulkAll ds ≤ 1048576)
def OpenSpec.upto (s : _root_.Go.ChangeSpec) : _root_.Go.OpenSpec := { _root_.Go.OpenSpec.ofChange s with cond := some uptoSmall }

/-- 'satchellaw09.ManifestMakes', WHERE WHAT IT READS IS OF BULK AT MOST 1048576: true; the input reads as it did. -/
def manifestMakesUptoRow : OpenClaim := { program := "ytledicihogknjaagreatdoor", sum := "d1b0f1d14157a57ec41a36b8e2e210df6ea91e70500345a1a34c811714dd925d", func := "satchel/satchellaw09.ManifestMakes", spec := "manifestMakes", inPlace := ["internal/bytealg.IndexByteString", "internal/bytealg.IndexString", "internal/bytealg.abigen_runtime_cmpstring"], unfollowed := true, recurses := true, named := ["internal/bytealg.MaxLen", "satchel/digest.added"], plainKeys := false, apart := false, laid := [("satchel/digest.added", laid_satchel_digest_added)], narrowed := true }
def ManifestMakesUptoSaid : Prop := manifestMakesUptoRow.holds Tryz.pinned (OpenSpec.upto manifestMakesSpec)

/-- 'satchellaw09.ManifestBytes', WHERE WHAT IT READS IS OF BULK AT MOST 1048576: true; the input reads as it did. -/
def manifestBytesUptoRow : OpenClaim := { program := "ytledicihogknjaagreatdoor", sum := "d1b0f1d14157a57ec41a36b8e2e210df6ea91e70500345a1a34c811714dd925d", func := "satchel/satchellaw09.ManifestBytes", spec := "manifestBytes", inPlace := ["internal/bytealg.IndexByteString", "internal/bytealg.IndexString", "internal/bytealg.abigen_runtime_cmpstring"], unfollowed := true, recurses := true, named := ["internal/bytealg.MaxLen", "satchel/digest.added"], plainKeys := false, apart := false, laid := [("satchel/digest.added", laid_satchel_digest_added)], narrowed := true }
def ManifestBytesUptoSaid : Prop := manifestBytesUptoRow.holds Tryz.pinned (OpenSpec.upto manifestBytesSpec)

/-- 'satchellaw09.ManifestReads', WHERE WHAT IT READS IS OF BULK AT MOST 1048576: true; the input reads as it did. -/
def manifestReadsUptoRow : OpenClaim := { program := "ytledicihogknjaagreatdoor", sum := "d1b0f1d14157a57ec41a36b8e2e210df6ea91e70500345a1a34c811714dd925d", func := "satchel/satchellaw09.ManifestReads", spec := "manifestReads", inPlace := ["internal/bytealg.IndexByteString", "internal/bytealg.IndexString", "internal/bytealg.abigen_runtime_cmpstring"], unfollowed := true, recurses := true, named := ["internal/bytealg.MaxLen", "satchel/digest.added"], plainKeys := false, apart := false, laid := [("satchel/digest.added", laid_satchel_digest_added)], narrowed := true }
def ManifestReadsUptoSaid : Prop := manifestReadsUptoRow.holds Tryz.pinned (OpenSpec.upto manifestReadsSpec)

/-- 'satchellaw09.ManifestBuilds', WHERE WHAT IT READS IS OF BULK AT MOST 1048576: true; the input reads as it did. -/
def manifestBuildsUptoRow : OpenClaim := { program := "ytledicihogknjaagreatdoor", sum := "d1b0f1d14157a57ec41a36b8e2e210df6ea91e70500345a1a34c811714dd925d", func := "satchel/satchellaw09.ManifestBuilds", spec := "manifestBuilds", inPlace := ["internal/bytealg.IndexByteString", "internal/bytealg.IndexString", "internal/bytealg.abigen_runtime_cmpstring"], unfollowed := true, recurses := true, named := ["internal/bytealg.MaxLen", "satchel/digest.added"], plainKeys := false, apart := false, laid := [("satchel/digest.added", laid_satchel_digest_added)], narrowed := true }
def ManifestBuildsUptoSaid : Prop := manifestBuildsUptoRow.holds Tryz.pinned (OpenSpec.upto manifestBuildsSpec)

/-- 'satchellaw09.ManifestKnown', WHERE WHAT IT READS IS OF BULK AT MOST 1048576: true; the input reads as it did. -/
def manifestKnownUptoRow : OpenClaim := { program := "ytledicihogknjaagreatdoor", sum := "d1b0f1d14157a57ec41a36b8e2e210df6ea91e70500345a1a34c811714dd925d", func := "satchel/satchellaw09.ManifestKnown", spec := "manifestKnown", inPlace := ["internal/bytealg.IndexByteString", "internal/bytealg.IndexString", "internal/bytealg.abigen_runtime_cmpstring"], unfollowed := true, recurses := true, named := ["internal/bytealg.MaxLen", "satchel/digest.added"], plainKeys := false, apart := false, laid := [("satchel/digest.added", laid_satchel_digest_added)], narrowed := true }
def ManifestKnownUptoSaid : Prop := manifestKnownUptoRow.holds Tryz.pinned (OpenSpec.upto manifestKnownSpec)

/-- 'satchellaw09.ManifestBack', WHERE WHAT IT READS IS OF BULK AT MOST 1048576: true; the input reads as it did. -/
def manifestBackUptoRow : OpenClaim := { program := "ytledicihogknjaagreatdoor", sum := "d1b0f1d14157a57ec41a36b8e2e210df6ea91e70500345a1a34c811714dd925d", func := "satchel/satchellaw09.ManifestBack", spec := "manifestBack", inPlace := ["internal/bytealg.IndexByteString", "internal/bytealg.IndexString", "internal/bytealg.abigen_runtime_cmpstring"], unfollowed := true, recurses := true, named := ["internal/bytealg.MaxLen", "satchel/digest.added"], plainKeys := false, apart := false, laid := [("satchel/digest.added", laid_satchel_digest_added)], narrowed := true }
def ManifestBackUptoSaid : Prop := manifestBackUptoRow.holds Tryz.pinned (OpenSpec.upto manifestBackSpec)

/-- 'satchellaw09.ManifestHolds', WHERE WHAT IT READS IS OF BULK AT MOST 1048576: true; the input reads as it did. -/
def manifestHoldsUptoRow : OpenClaim := { program := "ytledicihogknjaagreatdoor", sum := "d1b0f1d14157a57ec41a36b8e2e210df6ea91e70500345a1a34c811714dd925d", func := "satchel/satchellaw09.ManifestHolds", spec := "manifestHolds", inPlace := ["internal/bytealg.IndexByteString", "internal/bytealg.IndexString", "internal/bytealg.abigen_runtime_cmpstring"], unfollowed := true, recurses := true, named := ["internal/bytealg.MaxLen", "satchel/digest.added"], plainKeys := false, apart := false, laid := [("satchel/digest.added", laid_satchel_digest_added)], narrowed := true }
def ManifestHoldsUptoSaid : Prop := manifestHoldsUptoRow.holds Tryz.pinned (OpenSpec.upto manifestHoldsSpec)

end Rows
end Go.Proofs.YtledicihogknjaaGreatDoor
