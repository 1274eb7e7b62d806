/-
  No cell of these rows narrows 'for every input' (looked for: loops, veiled, ifaces, maps, wideKeys, modest, calm, conditions, laid).
  DERIVED. THE GIVEN ROWS OF THIS SEAT. 6 by the template 'for every input the law returns true; each argument reads behind the call as it read before'; 0 by the template 'total and deterministic' (their statements: YtkiohienbchffaaTotals.lean).
  GIVEN WITH THE SEED: the statements are not yours to turn. If you find one false, say at which input.
  Laid BY PROGRAM, IN A SANDBOX (cutbox-rows.mjs): the forced cells as the released guide's own fill.sh prints them over the translation afc39e11b39e963c… (all of the seat's roots in one cut). By AI agents, Wed Nov 11 2026. No macro, syntax, notation, axiom, sorry.
-/
import Derived.Test.YtkiohienbchffaaChecked
import GoSem.Claim
import GoSem.ClaimJoined
import GoSem.ClaimMapViews
import Derived.JoinedTies
import Derived.KernelRfl
namespace Go.Proofs.Ytkiohienbchffaa
/- THE CELL 'sum', in the pinned program and in every row, IS THE sha256 OF THE DUMP (.gsa) THAT YtkiohienbchffaaProg.lean LOADS. Nothing in Lean hashes anything: it is a label: what it is worth is what the hold of that sum in a sandbox is worth. -/
noncomputable def Try.pinned : Pinned := { name := "ytkiohienbchffaa", sum := "afc39e11b39e963ca37eb064a5e99d83df6fae87b8f428bca9e4496a054f2592", checked := Try.checked }
namespace Rows
def none {H : Type} : Left H := { results := [], args := [] }

/-- 'laws.FnGuarded': WHATEVER THE INPUT: true; the input reads as it did. -/
def fnGuardedSpec : ChangeSpec := { name := "fnGuarded", fn := fun _ => fun
  | [d] => { results := [.lit (.bool true)], args := [d] }
  | _ => none }
def fnGuardedRow : OpenClaim := { program := "ytkiohienbchffaa", sum := "afc39e11b39e963ca37eb064a5e99d83df6fae87b8f428bca9e4496a054f2592", func := "loop.example/g00155/laws.FnGuarded", spec := "fnGuarded", apart := false }
def FnGuardedSaid : Prop := fnGuardedRow.holds Try.pinned (OpenSpec.ofChange fnGuardedSpec)

/-- ITS FALSE NEIGHBOUR: 'it returns false'. Refute it at one input. -/
def fnGuardedWrong : ChangeSpec := { name := "fnGuarded", fn := fun _ => fun
  | [d] => { results := [.lit (.bool false)], args := [d] }
  | _ => none }
def FnGuardedWrongFalsely : Prop := fnGuardedRow.holds Try.pinned (OpenSpec.ofChange fnGuardedWrong)

/-- 'laws.FnExactWorstHigh': WHATEVER THE INPUT: true; the input reads as it did. -/
def fnExactWorstHighSpec : ChangeSpec := { name := "fnExactWorstHigh", fn := fun _ => fun
  | [d1, d2, d3] => { results := [.lit (.bool true)], args := [d1, d2, d3] }
  | _ => none }
def fnExactWorstHighRow : OpenClaim := { program := "ytkiohienbchffaa", sum := "afc39e11b39e963ca37eb064a5e99d83df6fae87b8f428bca9e4496a054f2592", func := "loop.example/g00155/laws.FnExactWorstHigh", spec := "fnExactWorstHigh", unfollowed := true, recurses := true, apart := false }
def FnExactWorstHighSaid : Prop := fnExactWorstHighRow.holds Try.pinned (OpenSpec.ofChange fnExactWorstHighSpec)

/-- ITS FALSE NEIGHBOUR: 'it returns false'. Refute it at one input. -/
def fnExactWorstHighWrong : ChangeSpec := { name := "fnExactWorstHigh", fn := fun _ => fun
  | [d1, d2, d3] => { results := [.lit (.bool false)], args := [d1, d2, d3] }
  | _ => none }
def FnExactWorstHighWrongFalsely : Prop := fnExactWorstHighRow.holds Try.pinned (OpenSpec.ofChange fnExactWorstHighWrong)

/-- 'laws.FnExactWorstLow': WHATEVER THE INPUT: true; the input reads as it did. -/
def fnExactWorstLowSpec : ChangeSpec := { name := "fnExactWorstLow", fn := fun _ => fun
  | [d1, d2, d3] => { results := [.lit (.bool true)], args := [d1, d2, d3] }
  | _ => none }
def fnExactWorstLowRow : OpenClaim := { program := "ytkiohienbchffaa", sum := "afc39e11b39e963ca37eb064a5e99d83df6fae87b8f428bca9e4496a054f2592", func := "loop.example/g00155/laws.FnExactWorstLow", spec := "fnExactWorstLow", unfollowed := true, recurses := true, apart := false }
def FnExactWorstLowSaid : Prop := fnExactWorstLowRow.holds Try.pinned (OpenSpec.ofChange fnExactWorstLowSpec)

/-- ITS FALSE NEIGHBOUR: 'it returns false'. Refute it at one input. -/
def fnExactWorstLowWrong : ChangeSpec := { name := "fnExactWorstLow", fn := fun _ => fun
  | [d1, d2, d3] => { results := [.lit (.bool false)], args := [d1, d2, d3] }
  | _ => none }
def FnExactWorstLowWrongFalsely : Prop := fnExactWorstLowRow.holds Try.pinned (OpenSpec.ofChange fnExactWorstLowWrong)

/-- 'laws.FnExactMayGo': WHATEVER THE INPUT: true; the input reads as it did. -/
def fnExactMayGoSpec : ChangeSpec := { name := "fnExactMayGo", fn := fun _ => fun
  | [d1, d2, d3, d4] => { results := [.lit (.bool true)], args := [d1, d2, d3, d4] }
  | _ => none }
def fnExactMayGoRow : OpenClaim := { program := "ytkiohienbchffaa", sum := "afc39e11b39e963ca37eb064a5e99d83df6fae87b8f428bca9e4496a054f2592", func := "loop.example/g00155/laws.FnExactMayGo", spec := "fnExactMayGo", apart := false }
def FnExactMayGoSaid : Prop := fnExactMayGoRow.holds Try.pinned (OpenSpec.ofChange fnExactMayGoSpec)

/-- ITS FALSE NEIGHBOUR: 'it returns false'. Refute it at one input. -/
def fnExactMayGoWrong : ChangeSpec := { name := "fnExactMayGo", fn := fun _ => fun
  | [d1, d2, d3, d4] => { results := [.lit (.bool false)], args := [d1, d2, d3, d4] }
  | _ => none }
def FnExactMayGoWrongFalsely : Prop := fnExactMayGoRow.holds Try.pinned (OpenSpec.ofChange fnExactMayGoWrong)

/-- 'laws.FnExactGuardPair': WHATEVER THE INPUT: true; the input reads as it did. -/
def fnExactGuardPairSpec : ChangeSpec := { name := "fnExactGuardPair", fn := fun _ => fun
  | [d1, d2, d3, d4] => { results := [.lit (.bool true)], args := [d1, d2, d3, d4] }
  | _ => none }
def fnExactGuardPairRow : OpenClaim := { program := "ytkiohienbchffaa", sum := "afc39e11b39e963ca37eb064a5e99d83df6fae87b8f428bca9e4496a054f2592", func := "loop.example/g00155/laws.FnExactGuardPair", spec := "fnExactGuardPair", apart := false }
def FnExactGuardPairSaid : Prop := fnExactGuardPairRow.holds Try.pinned (OpenSpec.ofChange fnExactGuardPairSpec)

/-- ITS FALSE NEIGHBOUR: 'it returns false'. Refute it at one input. -/
def fnExactGuardPairWrong : ChangeSpec := { name := "fnExactGuardPair", fn := fun _ => fun
  | [d1, d2, d3, d4] => { results := [.lit (.bool false)], args := [d1, d2, d3, d4] }
  | _ => none }
def FnExactGuardPairWrongFalsely : Prop := fnExactGuardPairRow.holds Try.pinned (OpenSpec.ofChange fnExactGuardPairWrong)

/-- 'laws.FnExactStepShaft': WHATEVER THE INPUT: true; the input reads as it did. -/
def fnExactStepShaftSpec : ChangeSpec := { name := "fnExactStepShaft", fn := fun _ => fun
  | [d1, d2, d3, d4, d5, d6] => { results := [.lit (.bool true)], args := [d1, d2, d3, d4, d5, d6] }
  | _ => none }
def fnExactStepShaftRow : OpenClaim := { program := "ytkiohienbchffaa", sum := "afc39e11b39e963ca37eb064a5e99d83df6fae87b8f428bca9e4496a054f2592", func := "loop.example/g00155/laws.FnExactStepShaft", spec := "fnExactStepShaft", apart := false }
def FnExactStepShaftSaid : Prop := fnExactStepShaftRow.holds Try.pinned (OpenSpec.ofChange fnExactStepShaftSpec)

/-- ITS FALSE NEIGHBOUR: 'it returns false'. Refute it at one input. -/
def fnExactStepShaftWrong : ChangeSpec := { name := "fnExactStepShaft", fn := fun _ => fun
  | [d1, d2, d3, d4, d5, d6] => { results := [.lit (.bool false)], args := [d1, d2, d3, d4, d5, d6] }
  | _ => none }
def FnExactStepShaftWrongFalsely : Prop := fnExactStepShaftRow.holds Try.pinned (OpenSpec.ofChange fnExactStepShaftWrong)

/- THE SECOND FORM. 'bulk': how many values and letters a reading holds, each counted each time it is reached (what is shared counts as often as it is met; a slice's spare places count too). A statement '..UptoSaid' is the law's where the arguments, and the package variables that the reading takes, are together of bulk at most 1048576: NARROWER than '..Said'. Prove '..Said' where nothing that the law and all that it calls make is longer than what came in: it says more and counts as full. Else prove '..UptoSaid'. A law counts once. -/
mutual
def uptoBulk {H : Type} : DataW H → Nat
  | .lit (.string bytes) => bytes.length + 1
  | .lit _ => 1
  | .nil => 1
  | .ptr d => uptoBulk d + 1
  | .slice elems spare => uptoBulkAll elems + uptoBulkAll spare + 1
  | .agg parts => uptoBulkAll parts + 1
  | .iface _ d => uptoBulk d + 1
  | .map entries => uptoBulkEntries entries + 1
  | .held _ => 1
def uptoBulkAll {H : Type} : List (DataW H) → Nat
  | [] => 0
  | d :: r => uptoBulk d + uptoBulkAll r
def uptoBulkEntries {H : Type} : List (Lit × DataW H) → Nat
  | [] => 0
  | x :: r => uptoBulkEntry x + uptoBulkEntries r
def uptoBulkEntry {H : Type} : Lit × DataW H → Nat
  | (.string bytes, d) => bytes.length + uptoBulk d + 1
  | (_, d) => uptoBulk d + 1
 end
def uptoSmall : (H : Type) → List (DataW H) → Bool := fun _ ds => decide (uptoBulkAll ds ≤ 1048576)
def OpenSpec.upto (s : _root_.Go.ChangeSpec) : _root_.Go.OpenSpec := { _root_.Go.OpenSpec.ofChange s with cond := some uptoSmall }

/-- 'laws.FnGuarded', WHERE WHAT IT READS IS OF BULK AT MOST 1048576: true; the input reads as it did. -/
def fnGuardedUptoRow : OpenClaim := { program := "ytkiohienbchffaa", sum := "afc39e11b39e963ca37eb064a5e99d83df6fae87b8f428bca9e4496a054f2592", func := "loop.example/g00155/laws.FnGuarded", spec := "fnGuarded", apart := false, narrowed := true }
def FnGuardedUptoSaid : Prop := fnGuardedUptoRow.holds Try.pinned (OpenSpec.upto fnGuardedSpec)

/-- 'laws.FnExactWorstHigh', WHERE WHAT IT READS IS OF BULK AT MOST 1048576: true; the input reads as it did. -/
def fnExactWorstHighUptoRow : OpenClaim := { program := "ytkiohienbchffaa", sum := "afc39e11b39e963ca37eb064a5e99d83df6fae87b8f428bca9e4496a054f2592", func := "loop.example/g00155/laws.FnExactWorstHigh", spec := "fnExactWorstHigh", unfollowed := true, recurses := true, apart := false, narrowed := true }
def FnExactWorstHighUptoSaid : Prop := fnExactWorstHighUptoRow.holds Try.pinned (OpenSpec.upto fnExactWorstHighSpec)

/-- 'laws.FnExactWorstLow', WHERE WHAT IT READS IS OF BULK AT MOST 1048576: true; the input reads as it did. -/
def fnExactWorstLowUptoRow : OpenClaim := { program := "ytkiohienbchffaa", sum := "afc39e11b39e963ca37eb064a5e99d83df6fae87b8f428bca9e4496a054f2592", func := "loop.example/g00155/laws.FnExactWorstLow", spec := "fnExactWorstLow", unfollowed := true, recurses := true, apart := false, narrowed := true }
def FnExactWorstLowUptoSaid : Prop := fnExactWorstLowUptoRow.holds Try.pinned (OpenSpec.upto fnExactWorstLowSpec)

/-- 'laws.FnExactMayGo', WHERE WHAT IT READS IS OF BULK AT MOST 1048576: true; the input reads as it did. -/
def fnExactMayGoUptoRow : OpenClaim := { program := "ytkiohienbchffaa", sum := "afc39e11b39e963ca37eb064a5e99d83df6fae87b8f428bca9e4496a054f2592", func := "loop.example/g00155/laws.FnExactMayGo", spec := "fnExactMayGo", apart := false, narrowed := true }
def FnExactMayGoUptoSaid : Prop := fnExactMayGoUptoRow.holds Try.pinned (OpenSpec.upto fnExactMayGoSpec)

/-- 'laws.FnExactGuardPair', WHERE WHAT IT READS IS OF BULK AT MOST 1048576: true; the input reads as it did. -/
def fnExactGuardPairUptoRow : OpenClaim := { program := "ytkiohienbchffaa", sum := "afc39e11b39e963ca37eb064a5e99d83df6fae87b8f428bca9e4496a054f2592", func := "loop.example/g00155/laws.FnExactGuardPair", spec := "fnExactGuardPair", apart := false, narrowed := true }
def FnExactGuardPairUptoSaid : Prop := fnExactGuardPairUptoRow.holds Try.pinned (OpenSpec.upto fnExactGuardPairSpec)

/-- 'laws.FnExactStepShaft', WHERE WHAT IT READS IS OF BULK AT MOST 1048576: true; the input reads as it did. -/
def fnExactStepShaftUptoRow : OpenClaim := { program := "ytkiohienbchffaa", sum := "afc39e11b39e963ca37eb064a5e99d83df6fae87b8f428bca9e4496a054f2592", func := "loop.example/g00155/laws.FnExactStepShaft", spec := "fnExactStepShaft", apart := false, narrowed := true }
def FnExactStepShaftUptoSaid : Prop := fnExactStepShaftUptoRow.holds Try.pinned (OpenSpec.upto fnExactStepShaftSpec)

end Rows
end Go.Proofs.Ytkiohienbchffaa
