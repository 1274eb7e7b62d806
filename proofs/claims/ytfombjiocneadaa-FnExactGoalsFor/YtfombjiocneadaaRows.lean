/-
  No cell of these rows narrows 'for every input' (looked for: loops, veiled, ifaces, maps, wideKeys, modest, calm, conditions, laid).
  DERIVED. THE GIVEN ROWS OF THIS SEAT. 4 by the template 'for every input the law returns true; each argument reads behind the call as it read before'; 0 by the template 'total and deterministic' (their statements: YtfombjiocneadaaTotals.lean).
  GIVEN WITH THE SEED: the statements are not yours to turn. If you find one false, say at which input.
  Laid BY PROGRAM, IN A SANDBOX (cutbox-rows.mjs): the forced cells as the released guide's own fill.sh prints them over the translation 24a954bedf06f20b… (all of the seat's roots in one cut). By AI agents, Wed Nov 11 2026. No macro, syntax, notation, axiom, sorry.
-/
import Derived.Test.YtfombjiocneadaaChecked
import GoSem.Claim
import GoSem.ClaimJoined
import GoSem.ClaimMapViews
import Derived.JoinedTies
import Derived.KernelRfl
namespace Go.Proofs.Ytfombjiocneadaa
/- THE CELL 'sum', in the pinned program and in every row, IS THE sha256 OF THE DUMP (.gsa) THAT YtfombjiocneadaaProg.lean LOADS. Nothing in Lean hashes anything: it is a label: what it is worth is what the hold of that sum in a sandbox is worth. -/
noncomputable def Try.pinned : Pinned := { name := "ytfombjiocneadaa", sum := "24a954bedf06f20b03f27e3c674615ae6c69dc740d79a2ceae583b028e56e85a", checked := Try.checked }
namespace Rows
def none {H : Type} : Left H := { results := [], args := [] }

/-- 'laws.FnDoors': WHATEVER THE INPUT: true; the input reads as it did. -/
def fnDoorsSpec : ChangeSpec := { name := "fnDoors", fn := fun _ => fun
  | [d] => { results := [.lit (.bool true)], args := [d] }
  | _ => none }
def fnDoorsRow : OpenClaim := { program := "ytfombjiocneadaa", sum := "24a954bedf06f20b03f27e3c674615ae6c69dc740d79a2ceae583b028e56e85a", func := "loop.example/g00155/laws.FnDoors", spec := "fnDoors", apart := false }
def FnDoorsSaid : Prop := fnDoorsRow.holds Try.pinned (OpenSpec.ofChange fnDoorsSpec)

/-- ITS FALSE NEIGHBOUR: 'it returns false'. Refute it at one input. -/
def fnDoorsWrong : ChangeSpec := { name := "fnDoors", fn := fun _ => fun
  | [d] => { results := [.lit (.bool false)], args := [d] }
  | _ => none }
def FnDoorsWrongFalsely : Prop := fnDoorsRow.holds Try.pinned (OpenSpec.ofChange fnDoorsWrong)

/-- 'laws.FnGoals': WHATEVER THE INPUT: true; the input reads as it did. -/
def fnGoalsSpec : ChangeSpec := { name := "fnGoals", fn := fun _ => fun
  | [d] => { results := [.lit (.bool true)], args := [d] }
  | _ => none }
def fnGoalsRow : OpenClaim := { program := "ytfombjiocneadaa", sum := "24a954bedf06f20b03f27e3c674615ae6c69dc740d79a2ceae583b028e56e85a", func := "loop.example/g00155/laws.FnGoals", spec := "fnGoals", apart := false }
def FnGoalsSaid : Prop := fnGoalsRow.holds Try.pinned (OpenSpec.ofChange fnGoalsSpec)

/-- ITS FALSE NEIGHBOUR: 'it returns false'. Refute it at one input. -/
def fnGoalsWrong : ChangeSpec := { name := "fnGoals", fn := fun _ => fun
  | [d] => { results := [.lit (.bool false)], args := [d] }
  | _ => none }
def FnGoalsWrongFalsely : Prop := fnGoalsRow.holds Try.pinned (OpenSpec.ofChange fnGoalsWrong)

/-- 'laws.FnExactStandsAt': WHATEVER THE INPUT: true; the input reads as it did. -/
def fnExactStandsAtSpec : ChangeSpec := { name := "fnExactStandsAt", fn := fun _ => fun
  | [d1, d2, d3] => { results := [.lit (.bool true)], args := [d1, d2, d3] }
  | _ => none }
def fnExactStandsAtRow : OpenClaim := { program := "ytfombjiocneadaa", sum := "24a954bedf06f20b03f27e3c674615ae6c69dc740d79a2ceae583b028e56e85a", func := "loop.example/g00155/laws.FnExactStandsAt", spec := "fnExactStandsAt", apart := false }
def FnExactStandsAtSaid : Prop := fnExactStandsAtRow.holds Try.pinned (OpenSpec.ofChange fnExactStandsAtSpec)

/-- ITS FALSE NEIGHBOUR: 'it returns false'. Refute it at one input. -/
def fnExactStandsAtWrong : ChangeSpec := { name := "fnExactStandsAt", fn := fun _ => fun
  | [d1, d2, d3] => { results := [.lit (.bool false)], args := [d1, d2, d3] }
  | _ => none }
def FnExactStandsAtWrongFalsely : Prop := fnExactStandsAtRow.holds Try.pinned (OpenSpec.ofChange fnExactStandsAtWrong)

/-- 'laws.FnExactGoalsFor': WHATEVER THE INPUT: true; the input reads as it did. -/
def fnExactGoalsForSpec : ChangeSpec := { name := "fnExactGoalsFor", fn := fun _ => fun
  | [d1, d2, d3, d4, d5] => { results := [.lit (.bool true)], args := [d1, d2, d3, d4, d5] }
  | _ => none }
def fnExactGoalsForRow : OpenClaim := { program := "ytfombjiocneadaa", sum := "24a954bedf06f20b03f27e3c674615ae6c69dc740d79a2ceae583b028e56e85a", func := "loop.example/g00155/laws.FnExactGoalsFor", spec := "fnExactGoalsFor", apart := false }
def FnExactGoalsForSaid : Prop := fnExactGoalsForRow.holds Try.pinned (OpenSpec.ofChange fnExactGoalsForSpec)

/-- ITS FALSE NEIGHBOUR: 'it returns false'. Refute it at one input. -/
def fnExactGoalsForWrong : ChangeSpec := { name := "fnExactGoalsFor", fn := fun _ => fun
  | [d1, d2, d3, d4, d5] => { results := [.lit (.bool false)], args := [d1, d2, d3, d4, d5] }
  | _ => none }
def FnExactGoalsForWrongFalsely : Prop := fnExactGoalsForRow.holds Try.pinned (OpenSpec.ofChange fnExactGoalsForWrong)

/- THE SECOND FORM. 'bulk': how many values and letters a reading holds, each counted each time it is reached (what is shared counts as often as it is met; a slice's spare places count too). A statement '..UptoSaid' is the law's where the arguments, and the package variables that the reading takes, are together of bulk at most 1048576: NARROWER than '..Said'. Prove '..Said' where nothing that the law and all that it calls make is longer than what came in: it says more and counts as full. Else prove '..UptoSaid'. A law counts once. -/
mutual
def uptoBulk {H : Type} : DataW H → Nat
  | .lit (.string bytes) => bytes.length + 1
  | .lit _ => 1
  | .nil => 1
  | .ptr d => uptoBulk d + 1
  | .slice elems spare => uptoBulkAll elems + uptoBulkAll spare + 1
  | .agg parts => uptoBulkAll parts + 1
  | .iface _ d => uptoBulk d + 1
  | .map entries => uptoBulkEntries entries + 1
  | .held _ => 1
def uptoBulkAll {H : Type} : List (DataW H) → Nat
  | [] => 0
  | d :: r => uptoBulk d + uptoBulkAll r
def uptoBulkEntries {H : Type} : List (Lit × DataW H) → Nat
  | [] => 0
  | x :: r => uptoBulkEntry x + uptoBulkEntries r
def uptoBulkEntry {H : Type} : Lit × DataW H → Nat
  | (.string bytes, d) => bytes.length + uptoBulk d + 1
  | (_, d) => uptoBulk d + 1
 end
def uptoSmall : (H : Type) → List (DataW H) → Bool := fun _ ds => decide (uptoBulkAll ds ≤ 1048576)
def OpenSpec.upto (s : _root_.Go.ChangeSpec) : _root_.Go.OpenSpec := { _root_.Go.OpenSpec.ofChange s with cond := some uptoSmall }

/-- 'laws.FnDoors', WHERE WHAT IT READS IS OF BULK AT MOST 1048576: true; the input reads as it did. -/
def fnDoorsUptoRow : OpenClaim := { program := "ytfombjiocneadaa", sum := "24a954bedf06f20b03f27e3c674615ae6c69dc740d79a2ceae583b028e56e85a", func := "loop.example/g00155/laws.FnDoors", spec := "fnDoors", apart := false, narrowed := true }
def FnDoorsUptoSaid : Prop := fnDoorsUptoRow.holds Try.pinned (OpenSpec.upto fnDoorsSpec)

/-- 'laws.FnGoals', WHERE WHAT IT READS IS OF BULK AT MOST 1048576: true; the input reads as it did. -/
def fnGoalsUptoRow : OpenClaim := { program := "ytfombjiocneadaa", sum := "24a954bedf06f20b03f27e3c674615ae6c69dc740d79a2ceae583b028e56e85a", func := "loop.example/g00155/laws.FnGoals", spec := "fnGoals", apart := false, narrowed := true }
def FnGoalsUptoSaid : Prop := fnGoalsUptoRow.holds Try.pinned (OpenSpec.upto fnGoalsSpec)

/-- 'laws.FnExactStandsAt', WHERE WHAT IT READS IS OF BULK AT MOST 1048576: true; the input reads as it did. -/
def fnExactStandsAtUptoRow : OpenClaim := { program := "ytfombjiocneadaa", sum := "24a954bedf06f20b03f27e3c674615ae6c69dc740d79a2ceae583b028e56e85a", func := "loop.example/g00155/laws.FnExactStandsAt", spec := "fnExactStandsAt", apart := false, narrowed := true }
def FnExactStandsAtUptoSaid : Prop := fnExactStandsAtUptoRow.holds Try.pinned (OpenSpec.upto fnExactStandsAtSpec)

/-- 'laws.FnExactGoalsFor', WHERE WHAT IT READS IS OF BULK AT MOST 1048576: true; the input reads as it did. -/
def fnExactGoalsForUptoRow : OpenClaim := { program := "ytfombjiocneadaa", sum := "24a954bedf06f20b03f27e3c674615ae6c69dc740d79a2ceae583b028e56e85a", func := "loop.example/g00155/laws.FnExactGoalsFor", spec := "fnExactGoalsFor", apart := false, narrowed := true }
def FnExactGoalsForUptoSaid : Prop := fnExactGoalsForUptoRow.holds Try.pinned (OpenSpec.upto fnExactGoalsForSpec)

end Rows
end Go.Proofs.Ytfombjiocneadaa
