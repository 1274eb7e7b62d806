/-
  No cell of these rows narrows 'for every input' (looked for: loops, veiled, ifaces, maps, wideKeys, modest, calm, conditions, laid).
  DERIVED. THE GIVEN ROWS OF THIS SEAT. 5 by the template 'for every input the law returns true; each argument reads behind the call as it read before'; 0 by the template 'total and deterministic' (their statements: YthfnphbgjfcdaaaTotals.lean).
  GIVEN WITH THE SEED: the statements are not yours to turn. If you find one false, say at which input.
  Laid BY PROGRAM, IN A SANDBOX (cutbox-rows.mjs): the forced cells as the released guide's own fill.sh prints them over the translation 816f91010fc12748… (all of the seat's roots in one cut). By AI agents, Wed Nov 11 2026. No macro, syntax, notation, axiom, sorry.
-/
import Derived.Test.YthfnphbgjfcdaaaChecked
import GoSem.Claim
import GoSem.ClaimJoined
import GoSem.ClaimMapViews
import Derived.JoinedTies
import Derived.KernelRfl
namespace Go.Proofs.Ythfnphbgjfcdaaa
/- THE CELL 'sum', in the pinned program and in every row, IS THE sha256 OF THE DUMP (.gsa) THAT YthfnphbgjfcdaaaProg.lean LOADS. Nothing in Lean hashes anything: it is a label: what it is worth is what the hold of that sum in a sandbox is worth. -/
noncomputable def Try.pinned : Pinned := { name := "ythfnphbgjfcdaaa", sum := "816f91010fc12748cc16609f9406574d526b785d0af6429aeb94ac2434587d1d", checked := Try.checked }
namespace Rows
def none {H : Type} : Left H := { results := [], args := [] }

/-- 'laws.FnExactFlightTicks': WHATEVER THE INPUT: true; the input reads as it did. -/
def fnExactFlightTicksSpec : ChangeSpec := { name := "fnExactFlightTicks", fn := fun _ => fun
  | [d1, d2, d3] => { results := [.lit (.bool true)], args := [d1, d2, d3] }
  | _ => none }
def fnExactFlightTicksRow : OpenClaim := { program := "ythfnphbgjfcdaaa", sum := "816f91010fc12748cc16609f9406574d526b785d0af6429aeb94ac2434587d1d", func := "loop.example/g00155/laws.FnExactFlightTicks", spec := "fnExactFlightTicks", unfollowed := true, recurses := true, apart := false }
def FnExactFlightTicksSaid : Prop := fnExactFlightTicksRow.holds Try.pinned (OpenSpec.ofChange fnExactFlightTicksSpec)

/-- ITS FALSE NEIGHBOUR: 'it returns false'. Refute it at one input. -/
def fnExactFlightTicksWrong : ChangeSpec := { name := "fnExactFlightTicks", fn := fun _ => fun
  | [d1, d2, d3] => { results := [.lit (.bool false)], args := [d1, d2, d3] }
  | _ => none }
def FnExactFlightTicksWrongFalsely : Prop := fnExactFlightTicksRow.holds Try.pinned (OpenSpec.ofChange fnExactFlightTicksWrong)

/-- 'laws.FnExactTripTicks': WHATEVER THE INPUT: true; the input reads as it did. -/
def fnExactTripTicksSpec : ChangeSpec := { name := "fnExactTripTicks", fn := fun _ => fun
  | [d1, d2] => { results := [.lit (.bool true)], args := [d1, d2] }
  | _ => none }
def fnExactTripTicksRow : OpenClaim := { program := "ythfnphbgjfcdaaa", sum := "816f91010fc12748cc16609f9406574d526b785d0af6429aeb94ac2434587d1d", func := "loop.example/g00155/laws.FnExactTripTicks", spec := "fnExactTripTicks", unfollowed := true, recurses := true, apart := false }
def FnExactTripTicksSaid : Prop := fnExactTripTicksRow.holds Try.pinned (OpenSpec.ofChange fnExactTripTicksSpec)

/-- ITS FALSE NEIGHBOUR: 'it returns false'. Refute it at one input. -/
def fnExactTripTicksWrong : ChangeSpec := { name := "fnExactTripTicks", fn := fun _ => fun
  | [d1, d2] => { results := [.lit (.bool false)], args := [d1, d2] }
  | _ => none }
def FnExactTripTicksWrongFalsely : Prop := fnExactTripTicksRow.holds Try.pinned (OpenSpec.ofChange fnExactTripTicksWrong)

/-- 'laws.FnExactHandledIn': WHATEVER THE INPUT: true; the input reads as it did. -/
def fnExactHandledInSpec : ChangeSpec := { name := "fnExactHandledIn", fn := fun _ => fun
  | [d1, d2] => { results := [.lit (.bool true)], args := [d1, d2] }
  | _ => none }
def fnExactHandledInRow : OpenClaim := { program := "ythfnphbgjfcdaaa", sum := "816f91010fc12748cc16609f9406574d526b785d0af6429aeb94ac2434587d1d", func := "loop.example/g00155/laws.FnExactHandledIn", spec := "fnExactHandledIn", unfollowed := true, recurses := true, apart := false }
def FnExactHandledInSaid : Prop := fnExactHandledInRow.holds Try.pinned (OpenSpec.ofChange fnExactHandledInSpec)

/-- ITS FALSE NEIGHBOUR: 'it returns false'. Refute it at one input. -/
def fnExactHandledInWrong : ChangeSpec := { name := "fnExactHandledIn", fn := fun _ => fun
  | [d1, d2] => { results := [.lit (.bool false)], args := [d1, d2] }
  | _ => none }
def FnExactHandledInWrongFalsely : Prop := fnExactHandledInRow.holds Try.pinned (OpenSpec.ofChange fnExactHandledInWrong)

/-- 'laws.FnExactMeanUp': WHATEVER THE INPUT: true; the input reads as it did. -/
def fnExactMeanUpSpec : ChangeSpec := { name := "fnExactMeanUp", fn := fun _ => fun
  | [d] => { results := [.lit (.bool true)], args := [d] }
  | _ => none }
def fnExactMeanUpRow : OpenClaim := { program := "ythfnphbgjfcdaaa", sum := "816f91010fc12748cc16609f9406574d526b785d0af6429aeb94ac2434587d1d", func := "loop.example/g00155/laws.FnExactMeanUp", spec := "fnExactMeanUp", apart := false }
def FnExactMeanUpSaid : Prop := fnExactMeanUpRow.holds Try.pinned (OpenSpec.ofChange fnExactMeanUpSpec)

/-- ITS FALSE NEIGHBOUR: 'it returns false'. Refute it at one input. -/
def fnExactMeanUpWrong : ChangeSpec := { name := "fnExactMeanUp", fn := fun _ => fun
  | [d] => { results := [.lit (.bool false)], args := [d] }
  | _ => none }
def FnExactMeanUpWrongFalsely : Prop := fnExactMeanUpRow.holds Try.pinned (OpenSpec.ofChange fnExactMeanUpWrong)

/-- 'laws.FnExactUpPeak': WHATEVER THE INPUT: true; the input reads as it did. -/
def fnExactUpPeakSpec : ChangeSpec := { name := "fnExactUpPeak", fn := fun _ => fun
  | [d1, d2] => { results := [.lit (.bool true)], args := [d1, d2] }
  | _ => none }
def fnExactUpPeakRow : OpenClaim := { program := "ythfnphbgjfcdaaa", sum := "816f91010fc12748cc16609f9406574d526b785d0af6429aeb94ac2434587d1d", func := "loop.example/g00155/laws.FnExactUpPeak", spec := "fnExactUpPeak", unfollowed := true, recurses := true, apart := false }
def FnExactUpPeakSaid : Prop := fnExactUpPeakRow.holds Try.pinned (OpenSpec.ofChange fnExactUpPeakSpec)

/-- ITS FALSE NEIGHBOUR: 'it returns false'. Refute it at one input. -/
def fnExactUpPeakWrong : ChangeSpec := { name := "fnExactUpPeak", fn := fun _ => fun
  | [d1, d2] => { results := [.lit (.bool false)], args := [d1, d2] }
  | _ => none }
def FnExactUpPeakWrongFalsely : Prop := fnExactUpPeakRow.holds Try.pinned (OpenSpec.ofChange fnExactUpPeakWrong)

/- THE SECOND FORM. 'bulk': how many values and letters a reading holds, each counted each time it is reached (what is shared counts as often as it is met; a slice's spare places count too). A statement '..UptoSaid' is the law's where the arguments, and the package variables that the reading takes, are together of bulk at most 1048576: NARROWER than '..Said'. Prove '..Said' where nothing that the law and all that it calls make is longer than what came in: it says more and counts as full. Else prove '..UptoSaid'. A law counts once. -/
mutual
def uptoBulk {H : Type} : DataW H → Nat
  | .lit (.string bytes) => bytes.length + 1
  | .lit _ => 1
  | .nil => 1
  | .ptr d => uptoBulk d + 1
  | .slice elems spare => uptoBulkAll elems + uptoBulkAll spare + 1
  | .agg parts => uptoBulkAll parts + 1
  | .iface _ d => uptoBulk d + 1
  | .map entries => uptoBulkEntries entries + 1
  | .held _ => 1
def uptoBulkAll {H : Type} : List (DataW H) → Nat
  | [] => 0
  | d :: r => uptoBulk d + uptoBulkAll r
def uptoBulkEntries {H : Type} : List (Lit × DataW H) → Nat
  | [] => 0
  | x :: r => uptoBulkEntry x + uptoBulkEntries r
def uptoBulkEntry {H : Type} : Lit × DataW H → Nat
  | (.string bytes, d) => bytes.length + uptoBulk d + 1
  | (_, d) => uptoBulk d + 1
 end
def uptoSmall : (H : Type) → List (DataW H) → Bool := fun _ ds => decide (uptoBulkAll ds ≤ 1048576)
def OpenSpec.upto (s : _root_.Go.ChangeSpec) : _root_.Go.OpenSpec := { _root_.Go.OpenSpec.ofChange s with cond := some uptoSmall }

/-- 'laws.FnExactFlightTicks', WHERE WHAT IT READS IS OF BULK AT MOST 1048576: true; the input reads as it did. -/
def fnExactFlightTicksUptoRow : OpenClaim := { program := "ythfnphbgjfcdaaa", sum := "816f91010fc12748cc16609f9406574d526b785d0af6429aeb94ac2434587d1d", func := "loop.example/g00155/laws.FnExactFlightTicks", spec := "fnExactFlightTicks", unfollowed := true, recurses := true, apart := false, narrowed := true }
def FnExactFlightTicksUptoSaid : Prop := fnExactFlightTicksUptoRow.holds Try.pinned (OpenSpec.upto fnExactFlightTicksSpec)

/-- 'laws.FnExactTripTicks', WHERE WHAT IT READS IS OF BULK AT MOST 1048576: true; the input reads as it did. -/
def fnExactTripTicksUptoRow : OpenClaim := { program := "ythfnphbgjfcdaaa", sum := "816f91010fc12748cc16609f9406574d526b785d0af6429aeb94ac2434587d1d", func := "loop.example/g00155/laws.FnExactTripTicks", spec := "fnExactTripTicks", unfollowed := true, recurses := true, apart := false, narrowed := true }
def FnExactTripTicksUptoSaid : Prop := fnExactTripTicksUptoRow.holds Try.pinned (OpenSpec.upto fnExactTripTicksSpec)

/-- 'laws.FnExactHandledIn', WHERE WHAT IT READS IS OF BULK AT MOST 1048576: true; the input reads as it did. -/
def fnExactHandledInUptoRow : OpenClaim := { program := "ythfnphbgjfcdaaa", sum := "816f91010fc12748cc16609f9406574d526b785d0af6429aeb94ac2434587d1d", func := "loop.example/g00155/laws.FnExactHandledIn", spec := "fnExactHandledIn", unfollowed := true, recurses := true, apart := false, narrowed := true }
def FnExactHandledInUptoSaid : Prop := fnExactHandledInUptoRow.holds Try.pinned (OpenSpec.upto fnExactHandledInSpec)

/-- 'laws.FnExactMeanUp', WHERE WHAT IT READS IS OF BULK AT MOST 1048576: true; the input reads as it did. -/
def fnExactMeanUpUptoRow : OpenClaim := { program := "ythfnphbgjfcdaaa", sum := "816f91010fc12748cc16609f9406574d526b785d0af6429aeb94ac2434587d1d", func := "loop.example/g00155/laws.FnExactMeanUp", spec := "fnExactMeanUp", apart := false, narrowed := true }
def FnExactMeanUpUptoSaid : Prop := fnExactMeanUpUptoRow.holds Try.pinned (OpenSpec.upto fnExactMeanUpSpec)

/-- 'laws.FnExactUpPeak', WHERE WHAT IT READS IS OF BULK AT MOST 1048576: true; the input reads as it did. -/
def fnExactUpPeakUptoRow : OpenClaim := { program := "ythfnphbgjfcdaaa", sum := "816f91010fc12748cc16609f9406574d526b785d0af6429aeb94ac2434587d1d", func := "loop.example/g00155/laws.FnExactUpPeak", spec := "fnExactUpPeak", unfollowed := true, recurses := true, apart := false, narrowed := true }
def FnExactUpPeakUptoSaid : Prop := fnExactUpPeakUptoRow.holds Try.pinned (OpenSpec.upto fnExactUpPeakSpec)

end Rows
end Go.Proofs.Ythfnphbgjfcdaaa
