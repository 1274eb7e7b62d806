/-
  No cell of these rows narrows 'for every input' (looked for: loops, veiled, ifaces, maps, wideKeys, modest, calm, conditions, laid).
  DERIVED. THE GIVEN ROWS OF THIS SEAT. 6 by the template 'for every input the law returns true; each argument reads behind the call as it read before'; 0 by the template 'total and deterministic' (their statements: YtlncnfagamajiaaTotals.lean).
  GIVEN WITH THE SEED: the statements are not yours to turn. If you find one false, say at which input.
  Laid BY PROGRAM, IN A SANDBOX (cutbox-rows.mjs): the forced cells as the released guide's own fill.sh prints them over the translation d044af06eb40935d… (all of the seat's roots in one cut). By AI agents, Wed Nov 11 2026. No macro, syntax, notation, axiom, sorry.
-/
import Derived.Test.YtlncnfagamajiaaChecked
import GoSem.Claim
import GoSem.ClaimJoined
import GoSem.ClaimMapViews
import Derived.JoinedTies
import Derived.KernelRfl
namespace Go.Proofs.Ytlncnfagamajiaa
/- THE CELL 'sum', in the pinned program and in every row, IS THE sha256 OF THE DUMP (.gsa) THAT YtlncnfagamajiaaProg.lean LOADS. Nothing in Lean hashes anything: it is a label: what it is worth is what the hold of that sum in a sandbox is worth. -/
noncomputable def Try.pinned : Pinned := { name := "ytlncnfagamajiaa", sum := "d044af06eb40935dc6ee95b38ca573cda904716c3b271f08be70597999d64fba", checked := Try.checked }
namespace Rows
def none {H : Type} : Left H := { results := [], args := [] }

/-- 'laws.FnEnvelopes': WHATEVER THE INPUT: true; the input reads as it did. -/
def fnEnvelopesSpec : ChangeSpec := { name := "fnEnvelopes", fn := fun _ => fun
  | [d] => { results := [.lit (.bool true)], args := [d] }
  | _ => none }
def fnEnvelopesRow : OpenClaim := { program := "ytlncnfagamajiaa", sum := "d044af06eb40935dc6ee95b38ca573cda904716c3b271f08be70597999d64fba", func := "loop.example/g00155/laws.FnEnvelopes", spec := "fnEnvelopes", unfollowed := true, recurses := true, apart := false }
def FnEnvelopesSaid : Prop := fnEnvelopesRow.holds Try.pinned (OpenSpec.ofChange fnEnvelopesSpec)

/-- ITS FALSE NEIGHBOUR: 'it returns false'. Refute it at one input. -/
def fnEnvelopesWrong : ChangeSpec := { name := "fnEnvelopes", fn := fun _ => fun
  | [d] => { results := [.lit (.bool false)], args := [d] }
  | _ => none }
def FnEnvelopesWrongFalsely : Prop := fnEnvelopesRow.holds Try.pinned (OpenSpec.ofChange fnEnvelopesWrong)

/-- 'laws.FnDoors': WHATEVER THE INPUT: true; the input reads as it did. -/
def fnDoorsSpec : ChangeSpec := { name := "fnDoors", fn := fun _ => fun
  | [d] => { results := [.lit (.bool true)], args := [d] }
  | _ => none }
def fnDoorsRow : OpenClaim := { program := "ytlncnfagamajiaa", sum := "d044af06eb40935dc6ee95b38ca573cda904716c3b271f08be70597999d64fba", func := "loop.example/g00155/laws.FnDoors", spec := "fnDoors", apart := false }
def FnDoorsSaid : Prop := fnDoorsRow.holds Try.pinned (OpenSpec.ofChange fnDoorsSpec)

/-- ITS FALSE NEIGHBOUR: 'it returns false'. Refute it at one input. -/
def fnDoorsWrong : ChangeSpec := { name := "fnDoors", fn := fun _ => fun
  | [d] => { results := [.lit (.bool false)], args := [d] }
  | _ => none }
def FnDoorsWrongFalsely : Prop := fnDoorsRow.holds Try.pinned (OpenSpec.ofChange fnDoorsWrong)

/-- 'laws.FnExactCarFault': WHATEVER THE INPUT: true; the input reads as it did. -/
def fnExactCarFaultSpec : ChangeSpec := { name := "fnExactCarFault", fn := fun _ => fun
  | [d1, d2] => { results := [.lit (.bool true)], args := [d1, d2] }
  | _ => none }
def fnExactCarFaultRow : OpenClaim := { program := "ytlncnfagamajiaa", sum := "d044af06eb40935dc6ee95b38ca573cda904716c3b271f08be70597999d64fba", func := "loop.example/g00155/laws.FnExactCarFault", spec := "fnExactCarFault", apart := false }
def FnExactCarFaultSaid : Prop := fnExactCarFaultRow.holds Try.pinned (OpenSpec.ofChange fnExactCarFaultSpec)

/-- ITS FALSE NEIGHBOUR: 'it returns false'. Refute it at one input. -/
def fnExactCarFaultWrong : ChangeSpec := { name := "fnExactCarFault", fn := fun _ => fun
  | [d1, d2] => { results := [.lit (.bool false)], args := [d1, d2] }
  | _ => none }
def FnExactCarFaultWrongFalsely : Prop := fnExactCarFaultRow.holds Try.pinned (OpenSpec.ofChange fnExactCarFaultWrong)

/-- 'laws.FnExactCommandFault': WHATEVER THE INPUT: true; the input reads as it did. -/
def fnExactCommandFaultSpec : ChangeSpec := { name := "fnExactCommandFault", fn := fun _ => fun
  | [d1, d2] => { results := [.lit (.bool true)], args := [d1, d2] }
  | _ => none }
def fnExactCommandFaultRow : OpenClaim := { program := "ytlncnfagamajiaa", sum := "d044af06eb40935dc6ee95b38ca573cda904716c3b271f08be70597999d64fba", func := "loop.example/g00155/laws.FnExactCommandFault", spec := "fnExactCommandFault", apart := false }
def FnExactCommandFaultSaid : Prop := fnExactCommandFaultRow.holds Try.pinned (OpenSpec.ofChange fnExactCommandFaultSpec)

/-- ITS FALSE NEIGHBOUR: 'it returns false'. Refute it at one input. -/
def fnExactCommandFaultWrong : ChangeSpec := { name := "fnExactCommandFault", fn := fun _ => fun
  | [d1, d2] => { results := [.lit (.bool false)], args := [d1, d2] }
  | _ => none }
def FnExactCommandFaultWrongFalsely : Prop := fnExactCommandFaultRow.holds Try.pinned (OpenSpec.ofChange fnExactCommandFaultWrong)

/-- 'laws.FnExactHighOf': WHATEVER THE INPUT: true; the input reads as it did. -/
def fnExactHighOfSpec : ChangeSpec := { name := "fnExactHighOf", fn := fun _ => fun
  | [d1, d2] => { results := [.lit (.bool true)], args := [d1, d2] }
  | _ => none }
def fnExactHighOfRow : OpenClaim := { program := "ytlncnfagamajiaa", sum := "d044af06eb40935dc6ee95b38ca573cda904716c3b271f08be70597999d64fba", func := "loop.example/g00155/laws.FnExactHighOf", spec := "fnExactHighOf", unfollowed := true, recurses := true, apart := false }
def FnExactHighOfSaid : Prop := fnExactHighOfRow.holds Try.pinned (OpenSpec.ofChange fnExactHighOfSpec)

/-- ITS FALSE NEIGHBOUR: 'it returns false'. Refute it at one input. -/
def fnExactHighOfWrong : ChangeSpec := { name := "fnExactHighOf", fn := fun _ => fun
  | [d1, d2] => { results := [.lit (.bool false)], args := [d1, d2] }
  | _ => none }
def FnExactHighOfWrongFalsely : Prop := fnExactHighOfRow.holds Try.pinned (OpenSpec.ofChange fnExactHighOfWrong)

/-- 'laws.FnExactLowOf': WHATEVER THE INPUT: true; the input reads as it did. -/
def fnExactLowOfSpec : ChangeSpec := { name := "fnExactLowOf", fn := fun _ => fun
  | [d1, d2] => { results := [.lit (.bool true)], args := [d1, d2] }
  | _ => none }
def fnExactLowOfRow : OpenClaim := { program := "ytlncnfagamajiaa", sum := "d044af06eb40935dc6ee95b38ca573cda904716c3b271f08be70597999d64fba", func := "loop.example/g00155/laws.FnExactLowOf", spec := "fnExactLowOf", unfollowed := true, recurses := true, apart := false }
def FnExactLowOfSaid : Prop := fnExactLowOfRow.holds Try.pinned (OpenSpec.ofChange fnExactLowOfSpec)

/-- ITS FALSE NEIGHBOUR: 'it returns false'. Refute it at one input. -/
def fnExactLowOfWrong : ChangeSpec := { name := "fnExactLowOf", fn := fun _ => fun
  | [d1, d2] => { results := [.lit (.bool false)], args := [d1, d2] }
  | _ => none }
def FnExactLowOfWrongFalsely : Prop := fnExactLowOfRow.holds Try.pinned (OpenSpec.ofChange fnExactLowOfWrong)

/- THE SECOND FORM. 'bulk': how many values and letters a reading holds, each counted each time it is reached (what is shared counts as often as it is met; a slice's spare places count too). A statement '..UptoSaid' is the law's where the arguments, and the package variables that the reading takes, are together of bulk at most 1048576: NARROWER than '..Said'. Prove '..Said' where nothing that the law and all that it calls make is longer than what came in: it says more and counts as full. Else prove '..UptoSaid'. A law counts once. -/
mutual
def uptoBulk {H : Type} : DataW H → Nat
  | .lit (.string bytes) => bytes.length + 1
  | .lit _ => 1
  | .nil => 1
  | .ptr d => uptoBulk d + 1
  | .slice elems spare => uptoBulkAll elems + uptoBulkAll spare + 1
  | .agg parts => uptoBulkAll parts + 1
  | .iface _ d => uptoBulk d + 1
  | .map entries => uptoBulkEntries entries + 1
  | .held _ => 1
def uptoBulkAll {H : Type} : List (DataW H) → Nat
  | [] => 0
  | d :: r => uptoBulk d + uptoBulkAll r
def uptoBulkEntries {H : Type} : List (Lit × DataW H) → Nat
  | [] => 0
  | x :: r => uptoBulkEntry x + uptoBulkEntries r
def uptoBulkEntry {H : Type} : Lit × DataW H → Nat
  | (.string bytes, d) => bytes.length + uptoBulk d + 1
  | (_, d) => uptoBulk d + 1
 end
def uptoSmall : (H : Type) → List (DataW H) → Bool := fun _ ds => decide (uptoBulkAll ds ≤ 1048576)
def OpenSpec.upto (s : _root_.Go.ChangeSpec) : _root_.Go.OpenSpec := { _root_.Go.OpenSpec.ofChange s with cond := some uptoSmall }

/-- 'laws.FnEnvelopes', WHERE WHAT IT READS IS OF BULK AT MOST 1048576: true; the input reads as it did. -/
def fnEnvelopesUptoRow : OpenClaim := { program := "ytlncnfagamajiaa", sum := "d044af06eb40935dc6ee95b38ca573cda904716c3b271f08be70597999d64fba", func := "loop.example/g00155/laws.FnEnvelopes", spec := "fnEnvelopes", unfollowed := true, recurses := true, apart := false, narrowed := true }
def FnEnvelopesUptoSaid : Prop := fnEnvelopesUptoRow.holds Try.pinned (OpenSpec.upto fnEnvelopesSpec)

/-- 'laws.FnDoors', WHERE WHAT IT READS IS OF BULK AT MOST 1048576: true; the input reads as it did. -/
def fnDoorsUptoRow : OpenClaim := { program := "ytlncnfagamajiaa", sum := "d044af06eb40935dc6ee95b38ca573cda904716c3b271f08be70597999d64fba", func := "loop.example/g00155/laws.FnDoors", spec := "fnDoors", apart := false, narrowed := true }
def FnDoorsUptoSaid : Prop := fnDoorsUptoRow.holds Try.pinned (OpenSpec.upto fnDoorsSpec)

/-- 'laws.FnExactCarFault', WHERE WHAT IT READS IS OF BULK AT MOST 1048576: true; the input reads as it did. -/
def fnExactCarFaultUptoRow : OpenClaim := { program := "ytlncnfagamajiaa", sum := "d044af06eb40935dc6ee95b38ca573cda904716c3b271f08be70597999d64fba", func := "loop.example/g00155/laws.FnExactCarFault", spec := "fnExactCarFault", apart := false, narrowed := true }
def FnExactCarFaultUptoSaid : Prop := fnExactCarFaultUptoRow.holds Try.pinned (OpenSpec.upto fnExactCarFaultSpec)

/-- 'laws.FnExactCommandFault', WHERE WHAT IT READS IS OF BULK AT MOST 1048576: true; the input reads as it did. -/
def fnExactCommandFaultUptoRow : OpenClaim := { program := "ytlncnfagamajiaa", sum := "d044af06eb40935dc6ee95b38ca573cda904716c3b271f08be70597999d64fba", func := "loop.example/g00155/laws.FnExactCommandFault", spec := "fnExactCommandFault", apart := false, narrowed := true }
def FnExactCommandFaultUptoSaid : Prop := fnExactCommandFaultUptoRow.holds Try.pinned (OpenSpec.upto fnExactCommandFaultSpec)

/-- 'laws.FnExactHighOf', WHERE WHAT IT READS IS OF BULK AT MOST 1048576: true; the input reads as it did. -/
def fnExactHighOfUptoRow : OpenClaim := { program := "ytlncnfagamajiaa", sum := "d044af06eb40935dc6ee95b38ca573cda904716c3b271f08be70597999d64fba", func := "loop.example/g00155/laws.FnExactHighOf", spec := "fnExactHighOf", unfollowed := true, recurses := true, apart := false, narrowed := true }
def FnExactHighOfUptoSaid : Prop := fnExactHighOfUptoRow.holds Try.pinned (OpenSpec.upto fnExactHighOfSpec)

/-- 'laws.FnExactLowOf', WHERE WHAT IT READS IS OF BULK AT MOST 1048576: true; the input reads as it did. -/
def fnExactLowOfUptoRow : OpenClaim := { program := "ytlncnfagamajiaa", sum := "d044af06eb40935dc6ee95b38ca573cda904716c3b271f08be70597999d64fba", func := "loop.example/g00155/laws.FnExactLowOf", spec := "fnExactLowOf", unfollowed := true, recurses := true, apart := false, narrowed := true }
def FnExactLowOfUptoSaid : Prop := fnExactLowOfUptoRow.holds Try.pinned (OpenSpec.upto fnExactLowOfSpec)

end Rows
end Go.Proofs.Ytlncnfagamajiaa
