/-
  No cell of these rows narrows 'for every input' (looked for: loops, veiled, ifaces, maps, wideKeys, modest, calm, conditions, laid).
  DERIVED. THE GIVEN ROWS OF THIS SEAT. 6 by the template 'for every input the law returns true; each argument reads behind the call as it read before'; 0 by the template 'total and deterministic' (their statements: YtkpcolfbnkopkabTotals.lean).
  GIVEN WITH THE SEED: the statements are not yours to turn. If you find one false, say at which input.
  Laid BY PROGRAM, IN A SANDBOX (cutbox-rows.mjs): the forced cells as the released guide's own fill.sh prints them over the translation 96978f61af50f9c7… (all of the seat's roots in one cut). By AI agents, Wed Nov 11 2026. No macro, syntax, notation, axiom, sorry.
-/
import Derived.Test.YtkpcolfbnkopkabChecked
import GoSem.Claim
import GoSem.ClaimJoined
import GoSem.ClaimMapViews
import Derived.JoinedTies
import Derived.KernelRfl
namespace Go.Proofs.Ytkpcolfbnkopkab
/- THE CELL 'sum', in the pinned program and in every row, IS THE sha256 OF THE DUMP (.gsa) THAT YtkpcolfbnkopkabProg.lean LOADS. Nothing in Lean hashes anything: it is a label: what it is worth is what the hold of that sum in a sandbox is worth. -/
noncomputable def Try.pinned : Pinned := { name := "ytkpcolfbnkopkab", sum := "96978f61af50f9c7b0a51cbe4f435133d44a6100eb98a9b2e8da1404e609513a", checked := Try.checked }
namespace Rows
def none {H : Type} : Left H := { results := [], args := [] }

/-- 'laws.FnExactTurnDelta': WHATEVER THE INPUT: true; the input reads as it did. -/
def fnExactTurnDeltaSpec : ChangeSpec := { name := "fnExactTurnDelta", fn := fun _ => fun
  | [d1, d2] => { results := [.lit (.bool true)], args := [d1, d2] }
  | _ => none }
def fnExactTurnDeltaRow : OpenClaim := { program := "ytkpcolfbnkopkab", sum := "96978f61af50f9c7b0a51cbe4f435133d44a6100eb98a9b2e8da1404e609513a", func := "loop.example/g00155/laws.FnExactTurnDelta", spec := "fnExactTurnDelta", apart := false }
def FnExactTurnDeltaSaid : Prop := fnExactTurnDeltaRow.holds Try.pinned (OpenSpec.ofChange fnExactTurnDeltaSpec)

/-- ITS FALSE NEIGHBOUR: 'it returns false'. Refute it at one input. -/
def fnExactTurnDeltaWrong : ChangeSpec := { name := "fnExactTurnDelta", fn := fun _ => fun
  | [d1, d2] => { results := [.lit (.bool false)], args := [d1, d2] }
  | _ => none }
def FnExactTurnDeltaWrongFalsely : Prop := fnExactTurnDeltaRow.holds Try.pinned (OpenSpec.ofChange fnExactTurnDeltaWrong)

/-- 'laws.FnExactPathOf': WHATEVER THE INPUT: true; the input reads as it did. -/
def fnExactPathOfSpec : ChangeSpec := { name := "fnExactPathOf", fn := fun _ => fun
  | [d1, d2] => { results := [.lit (.bool true)], args := [d1, d2] }
  | _ => none }
def fnExactPathOfRow : OpenClaim := { program := "ytkpcolfbnkopkab", sum := "96978f61af50f9c7b0a51cbe4f435133d44a6100eb98a9b2e8da1404e609513a", func := "loop.example/g00155/laws.FnExactPathOf", spec := "fnExactPathOf", apart := false }
def FnExactPathOfSaid : Prop := fnExactPathOfRow.holds Try.pinned (OpenSpec.ofChange fnExactPathOfSpec)

/-- ITS FALSE NEIGHBOUR: 'it returns false'. Refute it at one input. -/
def fnExactPathOfWrong : ChangeSpec := { name := "fnExactPathOf", fn := fun _ => fun
  | [d1, d2] => { results := [.lit (.bool false)], args := [d1, d2] }
  | _ => none }
def FnExactPathOfWrongFalsely : Prop := fnExactPathOfRow.holds Try.pinned (OpenSpec.ofChange fnExactPathOfWrong)

/-- 'laws.FnExactVoteThree': WHATEVER THE INPUT: true; the input reads as it did. -/
def fnExactVoteThreeSpec : ChangeSpec := { name := "fnExactVoteThree", fn := fun _ => fun
  | [d1, d2, d3, d4] => { results := [.lit (.bool true)], args := [d1, d2, d3, d4] }
  | _ => none }
def fnExactVoteThreeRow : OpenClaim := { program := "ytkpcolfbnkopkab", sum := "96978f61af50f9c7b0a51cbe4f435133d44a6100eb98a9b2e8da1404e609513a", func := "loop.example/g00155/laws.FnExactVoteThree", spec := "fnExactVoteThree", recurses := true, apart := false }
def FnExactVoteThreeSaid : Prop := fnExactVoteThreeRow.holds Try.pinned (OpenSpec.ofChange fnExactVoteThreeSpec)

/-- ITS FALSE NEIGHBOUR: 'it returns false'. Refute it at one input. -/
def fnExactVoteThreeWrong : ChangeSpec := { name := "fnExactVoteThree", fn := fun _ => fun
  | [d1, d2, d3, d4] => { results := [.lit (.bool false)], args := [d1, d2, d3, d4] }
  | _ => none }
def FnExactVoteThreeWrongFalsely : Prop := fnExactVoteThreeRow.holds Try.pinned (OpenSpec.ofChange fnExactVoteThreeWrong)

/-- 'laws.FnExactPackReading': WHATEVER THE INPUT: true; the input reads as it did. -/
def fnExactPackReadingSpec : ChangeSpec := { name := "fnExactPackReading", fn := fun _ => fun
  | [d] => { results := [.lit (.bool true)], args := [d] }
  | _ => none }
def fnExactPackReadingRow : OpenClaim := { program := "ytkpcolfbnkopkab", sum := "96978f61af50f9c7b0a51cbe4f435133d44a6100eb98a9b2e8da1404e609513a", func := "loop.example/g00155/laws.FnExactPackReading", spec := "fnExactPackReading", apart := false }
def FnExactPackReadingSaid : Prop := fnExactPackReadingRow.holds Try.pinned (OpenSpec.ofChange fnExactPackReadingSpec)

/-- ITS FALSE NEIGHBOUR: 'it returns false'. Refute it at one input. -/
def fnExactPackReadingWrong : ChangeSpec := { name := "fnExactPackReading", fn := fun _ => fun
  | [d] => { results := [.lit (.bool false)], args := [d] }
  | _ => none }
def FnExactPackReadingWrongFalsely : Prop := fnExactPackReadingRow.holds Try.pinned (OpenSpec.ofChange fnExactPackReadingWrong)

/-- 'laws.FnExactUnpackReading': WHATEVER THE INPUT: true; the input reads as it did. -/
def fnExactUnpackReadingSpec : ChangeSpec := { name := "fnExactUnpackReading", fn := fun _ => fun
  | [d] => { results := [.lit (.bool true)], args := [d] }
  | _ => none }
def fnExactUnpackReadingRow : OpenClaim := { program := "ytkpcolfbnkopkab", sum := "96978f61af50f9c7b0a51cbe4f435133d44a6100eb98a9b2e8da1404e609513a", func := "loop.example/g00155/laws.FnExactUnpackReading", spec := "fnExactUnpackReading", apart := false }
def FnExactUnpackReadingSaid : Prop := fnExactUnpackReadingRow.holds Try.pinned (OpenSpec.ofChange fnExactUnpackReadingSpec)

/-- ITS FALSE NEIGHBOUR: 'it returns false'. Refute it at one input. -/
def fnExactUnpackReadingWrong : ChangeSpec := { name := "fnExactUnpackReading", fn := fun _ => fun
  | [d] => { results := [.lit (.bool false)], args := [d] }
  | _ => none }
def FnExactUnpackReadingWrongFalsely : Prop := fnExactUnpackReadingRow.holds Try.pinned (OpenSpec.ofChange fnExactUnpackReadingWrong)

/-- 'laws.FnExactBitsOf': WHATEVER THE INPUT: true; the input reads as it did. -/
def fnExactBitsOfSpec : ChangeSpec := { name := "fnExactBitsOf", fn := fun _ => fun
  | [d] => { results := [.lit (.bool true)], args := [d] }
  | _ => none }
def fnExactBitsOfRow : OpenClaim := { program := "ytkpcolfbnkopkab", sum := "96978f61af50f9c7b0a51cbe4f435133d44a6100eb98a9b2e8da1404e609513a", func := "loop.example/g00155/laws.FnExactBitsOf", spec := "fnExactBitsOf", apart := false }
def FnExactBitsOfSaid : Prop := fnExactBitsOfRow.holds Try.pinned (OpenSpec.ofChange fnExactBitsOfSpec)

/-- ITS FALSE NEIGHBOUR: 'it returns false'. Refute it at one input. -/
def fnExactBitsOfWrong : ChangeSpec := { name := "fnExactBitsOf", fn := fun _ => fun
  | [d] => { results := [.lit (.bool false)], args := [d] }
  | _ => none }
def FnExactBitsOfWrongFalsely : Prop := fnExactBitsOfRow.holds Try.pinned (OpenSpec.ofChange fnExactBitsOfWrong)

/- THE SECOND FORM. 'bulk': how many values and letters a reading holds, each counted each time it is reached (what is shared counts as often as it is met; a slice's spare places count too). A statement '..UptoSaid' is the law's where the arguments, and the package variables that the reading takes, are together of bulk at most 1048576: NARROWER than '..Said'. Prove '..Said' where nothing that the law and all that it calls make is longer than what came in: it says more and counts as full. Else prove '..UptoSaid'. A law counts once. -/
mutual
def uptoBulk {H : Type} : DataW H → Nat
  | .lit (.string bytes) => bytes.length + 1
  | .lit _ => 1
  | .nil => 1
  | .ptr d => uptoBulk d + 1
  | .slice elems spare => uptoBulkAll elems + uptoBulkAll spare + 1
  | .agg parts => uptoBulkAll parts + 1
  | .iface _ d => uptoBulk d + 1
  | .map entries => uptoBulkEntries entries + 1
  | .held _ => 1
def uptoBulkAll {H : Type} : List (DataW H) → Nat
  | [] => 0
  | d :: r => uptoBulk d + uptoBulkAll r
def uptoBulkEntries {H : Type} : List (Lit × DataW H) → Nat
  | [] => 0
  | x :: r => uptoBulkEntry x + uptoBulkEntries r
def uptoBulkEntry {H : Type} : Lit × DataW H → Nat
  | (.string bytes, d) => bytes.length + uptoBulk d + 1
  | (_, d) => uptoBulk d + 1
 end
def uptoSmall : (H : Type) → List (DataW H) → Bool := fun _ ds => decide (uptoBulkAll ds ≤ 1048576)
def OpenSpec.upto (s : _root_.Go.ChangeSpec) : _root_.Go.OpenSpec := { _root_.Go.OpenSpec.ofChange s with cond := some uptoSmall }

/-- 'laws.FnExactTurnDelta', WHERE WHAT IT READS IS OF BULK AT MOST 1048576: true; the input reads as it did. -/
def fnExactTurnDeltaUptoRow : OpenClaim := { program := "ytkpcolfbnkopkab", sum := "96978f61af50f9c7b0a51cbe4f435133d44a6100eb98a9b2e8da1404e609513a", func := "loop.example/g00155/laws.FnExactTurnDelta", spec := "fnExactTurnDelta", apart := false, narrowed := true }
def FnExactTurnDeltaUptoSaid : Prop := fnExactTurnDeltaUptoRow.holds Try.pinned (OpenSpec.upto fnExactTurnDeltaSpec)

/-- 'laws.FnExactPathOf', WHERE WHAT IT READS IS OF BULK AT MOST 1048576: true; the input reads as it did. -/
def fnExactPathOfUptoRow : OpenClaim := { program := "ytkpcolfbnkopkab", sum := "96978f61af50f9c7b0a51cbe4f435133d44a6100eb98a9b2e8da1404e609513a", func := "loop.example/g00155/laws.FnExactPathOf", spec := "fnExactPathOf", apart := false, narrowed := true }
def FnExactPathOfUptoSaid : Prop := fnExactPathOfUptoRow.holds Try.pinned (OpenSpec.upto fnExactPathOfSpec)

/-- 'laws.FnExactVoteThree', WHERE WHAT IT READS IS OF BULK AT MOST 1048576: true; the input reads as it did. -/
def fnExactVoteThreeUptoRow : OpenClaim := { program := "ytkpcolfbnkopkab", sum := "96978f61af50f9c7b0a51cbe4f435133d44a6100eb98a9b2e8da1404e609513a", func := "loop.example/g00155/laws.FnExactVoteThree", spec := "fnExactVoteThree", recurses := true, apart := false, narrowed := true }
def FnExactVoteThreeUptoSaid : Prop := fnExactVoteThreeUptoRow.holds Try.pinned (OpenSpec.upto fnExactVoteThreeSpec)

/-- 'laws.FnExactPackReading', WHERE WHAT IT READS IS OF BULK AT MOST 1048576: true; the input reads as it did. -/
def fnExactPackReadingUptoRow : OpenClaim := { program := "ytkpcolfbnkopkab", sum := "96978f61af50f9c7b0a51cbe4f435133d44a6100eb98a9b2e8da1404e609513a", func := "loop.example/g00155/laws.FnExactPackReading", spec := "fnExactPackReading", apart := false, narrowed := true }
def FnExactPackReadingUptoSaid : Prop := fnExactPackReadingUptoRow.holds Try.pinned (OpenSpec.upto fnExactPackReadingSpec)

/-- 'laws.FnExactUnpackReading', WHERE WHAT IT READS IS OF BULK AT MOST 1048576: true; the input reads as it did. -/
def fnExactUnpackReadingUptoRow : OpenClaim := { program := "ytkpcolfbnkopkab", sum := "96978f61af50f9c7b0a51cbe4f435133d44a6100eb98a9b2e8da1404e609513a", func := "loop.example/g00155/laws.FnExactUnpackReading", spec := "fnExactUnpackReading", apart := false, narrowed := true }
def FnExactUnpackReadingUptoSaid : Prop := fnExactUnpackReadingUptoRow.holds Try.pinned (OpenSpec.upto fnExactUnpackReadingSpec)

/-- 'laws.FnExactBitsOf', WHERE WHAT IT READS IS OF BULK AT MOST 1048576: true; the input reads as it did. -/
def fnExactBitsOfUptoRow : OpenClaim := { program := "ytkpcolfbnkopkab", sum := "96978f61af50f9c7b0a51cbe4f435133d44a6100eb98a9b2e8da1404e609513a", func := "loop.example/g00155/laws.FnExactBitsOf", spec := "fnExactBitsOf", apart := false, narrowed := true }
def FnExactBitsOfUptoSaid : Prop := fnExactBitsOfUptoRow.holds Try.pinned (OpenSpec.upto fnExactBitsOfSpec)

end Rows
end Go.Proofs.Ytkpcolfbnkopkab
