/-
  No cell of these rows narrows 'for every input' (looked for: loops, veiled, ifaces, maps, wideKeys, modest, calm, conditions, laid).
  DERIVED. THE GIVEN ROWS OF THIS SEAT. 6 by the template 'for every input the law returns true; each argument reads behind the call as it read before'; 0 by the template 'total and deterministic' (their statements: YthnpagnjdioagaaTotals.lean).
  GIVEN WITH THE SEED: the statements are not yours to turn. If you find one false, say at which input.
  Laid BY PROGRAM, IN A SANDBOX (cutbox-rows.mjs): the forced cells as the released guide's own fill.sh prints them over the translation 20f8413ac639cc2e… (all of the seat's roots in one cut). By AI agents, Wed Nov 11 2026. No macro, syntax, notation, axiom, sorry.
-/
import Derived.Test.YthnpagnjdioagaaChecked
import GoSem.Claim
import GoSem.ClaimJoined
import GoSem.ClaimMapViews
import Derived.JoinedTies
import Derived.KernelRfl
namespace Go.Proofs.Ythnpagnjdioagaa
/- THE CELL 'sum', in the pinned program and in every row, IS THE sha256 OF THE DUMP (.gsa) THAT YthnpagnjdioagaaProg.lean LOADS. Nothing in Lean hashes anything: it is a label: what it is worth is what the hold of that sum in a sandbox is worth. -/
noncomputable def Try.pinned : Pinned := { name := "ythnpagnjdioagaa", sum := "20f8413ac639cc2ebd00d76bd73a149600627f7fee526a89985b7fb9c94a6b1f", checked := Try.checked }
namespace Rows
def none {H : Type} : Left H := { results := [], args := [] }

/-- 'laws.FnGoals': WHATEVER THE INPUT: true; the input reads as it did. -/
def fnGoalsSpec : ChangeSpec := { name := "fnGoals", fn := fun _ => fun
  | [d] => { results := [.lit (.bool true)], args := [d] }
  | _ => none }
def fnGoalsRow : OpenClaim := { program := "ythnpagnjdioagaa", sum := "20f8413ac639cc2ebd00d76bd73a149600627f7fee526a89985b7fb9c94a6b1f", func := "loop.example/g00155/laws.FnGoals", spec := "fnGoals", apart := false }
def FnGoalsSaid : Prop := fnGoalsRow.holds Try.pinned (OpenSpec.ofChange fnGoalsSpec)

/-- ITS FALSE NEIGHBOUR: 'it returns false'. Refute it at one input. -/
def fnGoalsWrong : ChangeSpec := { name := "fnGoals", fn := fun _ => fun
  | [d] => { results := [.lit (.bool false)], args := [d] }
  | _ => none }
def FnGoalsWrongFalsely : Prop := fnGoalsRow.holds Try.pinned (OpenSpec.ofChange fnGoalsWrong)

/-- 'laws.FnExactSpansFault': WHATEVER THE INPUT: true; the input reads as it did. -/
def fnExactSpansFaultSpec : ChangeSpec := { name := "fnExactSpansFault", fn := fun _ => fun
  | [d1, d2] => { results := [.lit (.bool true)], args := [d1, d2] }
  | _ => none }
def fnExactSpansFaultRow : OpenClaim := { program := "ythnpagnjdioagaa", sum := "20f8413ac639cc2ebd00d76bd73a149600627f7fee526a89985b7fb9c94a6b1f", func := "loop.example/g00155/laws.FnExactSpansFault", spec := "fnExactSpansFault", apart := false }
def FnExactSpansFaultSaid : Prop := fnExactSpansFaultRow.holds Try.pinned (OpenSpec.ofChange fnExactSpansFaultSpec)

/-- ITS FALSE NEIGHBOUR: 'it returns false'. Refute it at one input. -/
def fnExactSpansFaultWrong : ChangeSpec := { name := "fnExactSpansFault", fn := fun _ => fun
  | [d1, d2] => { results := [.lit (.bool false)], args := [d1, d2] }
  | _ => none }
def FnExactSpansFaultWrongFalsely : Prop := fnExactSpansFaultRow.holds Try.pinned (OpenSpec.ofChange fnExactSpansFaultWrong)

/-- 'laws.FnExactCoverOf': WHATEVER THE INPUT: true; the input reads as it did. -/
def fnExactCoverOfSpec : ChangeSpec := { name := "fnExactCoverOf", fn := fun _ => fun
  | [d1, d2] => { results := [.lit (.bool true)], args := [d1, d2] }
  | _ => none }
def fnExactCoverOfRow : OpenClaim := { program := "ythnpagnjdioagaa", sum := "20f8413ac639cc2ebd00d76bd73a149600627f7fee526a89985b7fb9c94a6b1f", func := "loop.example/g00155/laws.FnExactCoverOf", spec := "fnExactCoverOf", apart := false }
def FnExactCoverOfSaid : Prop := fnExactCoverOfRow.holds Try.pinned (OpenSpec.ofChange fnExactCoverOfSpec)

/-- ITS FALSE NEIGHBOUR: 'it returns false'. Refute it at one input. -/
def fnExactCoverOfWrong : ChangeSpec := { name := "fnExactCoverOf", fn := fun _ => fun
  | [d1, d2] => { results := [.lit (.bool false)], args := [d1, d2] }
  | _ => none }
def FnExactCoverOfWrongFalsely : Prop := fnExactCoverOfRow.holds Try.pinned (OpenSpec.ofChange fnExactCoverOfWrong)

/-- 'laws.FnExactSensedSpans': WHATEVER THE INPUT: true; the input reads as it did. -/
def fnExactSensedSpansSpec : ChangeSpec := { name := "fnExactSensedSpans", fn := fun _ => fun
  | [d1, d2] => { results := [.lit (.bool true)], args := [d1, d2] }
  | _ => none }
def fnExactSensedSpansRow : OpenClaim := { program := "ythnpagnjdioagaa", sum := "20f8413ac639cc2ebd00d76bd73a149600627f7fee526a89985b7fb9c94a6b1f", func := "loop.example/g00155/laws.FnExactSensedSpans", spec := "fnExactSensedSpans", apart := false }
def FnExactSensedSpansSaid : Prop := fnExactSensedSpansRow.holds Try.pinned (OpenSpec.ofChange fnExactSensedSpansSpec)

/-- ITS FALSE NEIGHBOUR: 'it returns false'. Refute it at one input. -/
def fnExactSensedSpansWrong : ChangeSpec := { name := "fnExactSensedSpans", fn := fun _ => fun
  | [d1, d2] => { results := [.lit (.bool false)], args := [d1, d2] }
  | _ => none }
def FnExactSensedSpansWrongFalsely : Prop := fnExactSensedSpansRow.holds Try.pinned (OpenSpec.ofChange fnExactSensedSpansWrong)

/-- 'laws.FnExactGoalsFor': WHATEVER THE INPUT: true; the input reads as it did. -/
def fnExactGoalsForSpec : ChangeSpec := { name := "fnExactGoalsFor", fn := fun _ => fun
  | [d1, d2, d3, d4, d5] => { results := [.lit (.bool true)], args := [d1, d2, d3, d4, d5] }
  | _ => none }
def fnExactGoalsForRow : OpenClaim := { program := "ythnpagnjdioagaa", sum := "20f8413ac639cc2ebd00d76bd73a149600627f7fee526a89985b7fb9c94a6b1f", func := "loop.example/g00155/laws.FnExactGoalsFor", spec := "fnExactGoalsFor", apart := false }
def FnExactGoalsForSaid : Prop := fnExactGoalsForRow.holds Try.pinned (OpenSpec.ofChange fnExactGoalsForSpec)

/-- ITS FALSE NEIGHBOUR: 'it returns false'. Refute it at one input. -/
def fnExactGoalsForWrong : ChangeSpec := { name := "fnExactGoalsFor", fn := fun _ => fun
  | [d1, d2, d3, d4, d5] => { results := [.lit (.bool false)], args := [d1, d2, d3, d4, d5] }
  | _ => none }
def FnExactGoalsForWrongFalsely : Prop := fnExactGoalsForRow.holds Try.pinned (OpenSpec.ofChange fnExactGoalsForWrong)

/-- 'laws.FnExactExtendSpans': WHATEVER THE INPUT: true; the input reads as it did. -/
def fnExactExtendSpansSpec : ChangeSpec := { name := "fnExactExtendSpans", fn := fun _ => fun
  | [d1, d2, d3, d4] => { results := [.lit (.bool true)], args := [d1, d2, d3, d4] }
  | _ => none }
def fnExactExtendSpansRow : OpenClaim := { program := "ythnpagnjdioagaa", sum := "20f8413ac639cc2ebd00d76bd73a149600627f7fee526a89985b7fb9c94a6b1f", func := "loop.example/g00155/laws.FnExactExtendSpans", spec := "fnExactExtendSpans", apart := false }
def FnExactExtendSpansSaid : Prop := fnExactExtendSpansRow.holds Try.pinned (OpenSpec.ofChange fnExactExtendSpansSpec)

/-- ITS FALSE NEIGHBOUR: 'it returns false'. Refute it at one input. -/
def fnExactExtendSpansWrong : ChangeSpec := { name := "fnExactExtendSpans", fn := fun _ => fun
  | [d1, d2, d3, d4] => { results := [.lit (.bool false)], args := [d1, d2, d3, d4] }
  | _ => none }
def FnExactExtendSpansWrongFalsely : Prop := fnExactExtendSpansRow.holds Try.pinned (OpenSpec.ofChange fnExactExtendSpansWrong)

/- THE SECOND FORM. 'bulk': how many values and letters a reading holds, each counted each time it is reached (what is shared counts as often as it is met; a slice's spare places count too). A statement '..UptoSaid' is the law's where the arguments, and the package variables that the reading takes, are together of bulk at most 1048576: NARROWER than '..Said'. Prove '..Said' where nothing that the law and all that it calls make is longer than what came in: it says more and counts as full. Else prove '..UptoSaid'. A law counts once. -/
mutual
def uptoBulk {H : Type} : DataW H → Nat
  | .lit (.string bytes) => bytes.length + 1
  | .lit _ => 1
  | .nil => 1
  | .ptr d => uptoBulk d + 1
  | .slice elems spare => uptoBulkAll elems + uptoBulkAll spare + 1
  | .agg parts => uptoBulkAll parts + 1
  | .iface _ d => uptoBulk d + 1
  | .map entries => uptoBulkEntries entries + 1
  | .held _ => 1
def uptoBulkAll {H : Type} : List (DataW H) → Nat
  | [] => 0
  | d :: r => uptoBulk d + uptoBulkAll r
def uptoBulkEntries {H : Type} : List (Lit × DataW H) → Nat
  | [] => 0
  | x :: r => uptoBulkEntry x + uptoBulkEntries r
def uptoBulkEntry {H : Type} : Lit × DataW H → Nat
  | (.string bytes, d) => bytes.length + uptoBulk d + 1
  | (_, d) => uptoBulk d + 1
 end
def uptoSmall : (H : Type) → List (DataW H) → Bool := fun _ ds => decide (uptoBulkAll ds ≤ 1048576)
def OpenSpec.upto (s : _root_.Go.ChangeSpec) : _root_.Go.OpenSpec := { _root_.Go.OpenSpec.ofChange s with cond := some uptoSmall }

/-- 'laws.FnGoals', WHERE WHAT IT READS IS OF BULK AT MOST 1048576: true; the input reads as it did. -/
def fnGoalsUptoRow : OpenClaim := { program := "ythnpagnjdioagaa", sum := "20f8413ac639cc2ebd00d76bd73a149600627f7fee526a89985b7fb9c94a6b1f", func := "loop.example/g00155/laws.FnGoals", spec := "fnGoals", apart := false, narrowed := true }
def FnGoalsUptoSaid : Prop := fnGoalsUptoRow.holds Try.pinned (OpenSpec.upto fnGoalsSpec)

/-- 'laws.FnExactSpansFault', WHERE WHAT IT READS IS OF BULK AT MOST 1048576: true; the input reads as it did. -/
def fnExactSpansFaultUptoRow : OpenClaim := { program := "ythnpagnjdioagaa", sum := "20f8413ac639cc2ebd00d76bd73a149600627f7fee526a89985b7fb9c94a6b1f", func := "loop.example/g00155/laws.FnExactSpansFault", spec := "fnExactSpansFault", apart := false, narrowed := true }
def FnExactSpansFaultUptoSaid : Prop := fnExactSpansFaultUptoRow.holds Try.pinned (OpenSpec.upto fnExactSpansFaultSpec)

/-- 'laws.FnExactCoverOf', WHERE WHAT IT READS IS OF BULK AT MOST 1048576: true; the input reads as it did. -/
def fnExactCoverOfUptoRow : OpenClaim := { program := "ythnpagnjdioagaa", sum := "20f8413ac639cc2ebd00d76bd73a149600627f7fee526a89985b7fb9c94a6b1f", func := "loop.example/g00155/laws.FnExactCoverOf", spec := "fnExactCoverOf", apart := false, narrowed := true }
def FnExactCoverOfUptoSaid : Prop := fnExactCoverOfUptoRow.holds Try.pinned (OpenSpec.upto fnExactCoverOfSpec)

/-- 'laws.FnExactSensedSpans', WHERE WHAT IT READS IS OF BULK AT MOST 1048576: true; the input reads as it did. -/
def fnExactSensedSpansUptoRow : OpenClaim := { program := "ythnpagnjdioagaa", sum := "20f8413ac639cc2ebd00d76bd73a149600627f7fee526a89985b7fb9c94a6b1f", func := "loop.example/g00155/laws.FnExactSensedSpans", spec := "fnExactSensedSpans", apart := false, narrowed := true }
def FnExactSensedSpansUptoSaid : Prop := fnExactSensedSpansUptoRow.holds Try.pinned (OpenSpec.upto fnExactSensedSpansSpec)

/-- 'laws.FnExactGoalsFor', WHERE WHAT IT READS IS OF BULK AT MOST 1048576: true; the input reads as it did. -/
def fnExactGoalsForUptoRow : OpenClaim := { program := "ythnpagnjdioagaa", sum := "20f8413ac639cc2ebd00d76bd73a149600627f7fee526a89985b7fb9c94a6b1f", func := "loop.example/g00155/laws.FnExactGoalsFor", spec := "fnExactGoalsFor", apart := false, narrowed := true }
def FnExactGoalsForUptoSaid : Prop := fnExactGoalsForUptoRow.holds Try.pinned (OpenSpec.upto fnExactGoalsForSpec)

/-- 'laws.FnExactExtendSpans', WHERE WHAT IT READS IS OF BULK AT MOST 1048576: true; the input reads as it did. -/
def fnExactExtendSpansUptoRow : OpenClaim := { program := "ythnpagnjdioagaa", sum := "20f8413ac639cc2ebd00d76bd73a149600627f7fee526a89985b7fb9c94a6b1f", func := "loop.example/g00155/laws.FnExactExtendSpans", spec := "fnExactExtendSpans", apart := false, narrowed := true }
def FnExactExtendSpansUptoSaid : Prop := fnExactExtendSpansUptoRow.holds Try.pinned (OpenSpec.upto fnExactExtendSpansSpec)

end Rows
end Go.Proofs.Ythnpagnjdioagaa
