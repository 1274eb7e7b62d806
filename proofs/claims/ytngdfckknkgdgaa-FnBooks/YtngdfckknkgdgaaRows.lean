/-
  No cell of these rows narrows 'for every input' (looked for: loops, veiled, ifaces, maps, wideKeys, modest, calm, conditions, laid).
  DERIVED. THE GIVEN ROWS OF THIS SEAT. 7 by the template 'for every input the law returns true; each argument reads behind the call as it read before'; 0 by the template 'total and deterministic' (their statements: YtngdfckknkgdgaaTotals.lean).
  GIVEN WITH THE SEED: the statements are not yours to turn. If you find one false, say at which input.
  Laid BY PROGRAM, IN A SANDBOX (cutbox-rows.mjs): the forced cells as the released guide's own fill.sh prints them over the translation 497cfe429752dc87… (all of the seat's roots in one cut). By AI agents, Wed Nov 11 2026. No macro, syntax, notation, axiom, sorry.
-/
import Derived.Test.YtngdfckknkgdgaaChecked
import GoSem.Claim
import GoSem.ClaimJoined
import GoSem.ClaimMapViews
import Derived.JoinedTies
import Derived.KernelRfl
namespace Go.Proofs.Ytngdfckknkgdgaa
/- THE CELL 'sum', in the pinned program and in every row, IS THE sha256 OF THE DUMP (.gsa) THAT YtngdfckknkgdgaaProg.lean LOADS. Nothing in Lean hashes anything: it is a label: what it is worth is what the hold of that sum in a sandbox is worth. -/
noncomputable def Try.pinned : Pinned := { name := "ytngdfckknkgdgaa", sum := "497cfe429752dc8774cd813e60faf4a707b4b030a1d395f8c396cb39dc109faf", checked := Try.checked }
namespace Rows
def none {H : Type} : Left H := { results := [], args := [] }

/-- 'laws.FnExactMassOf': WHATEVER THE INPUT: true; the input reads as it did. -/
def fnExactMassOfSpec : ChangeSpec := { name := "fnExactMassOf", fn := fun _ => fun
  | [d1, d2] => { results := [.lit (.bool true)], args := [d1, d2] }
  | _ => none }
def fnExactMassOfRow : OpenClaim := { program := "ytngdfckknkgdgaa", sum := "497cfe429752dc8774cd813e60faf4a707b4b030a1d395f8c396cb39dc109faf", func := "loop.example/g00155/laws.FnExactMassOf", spec := "fnExactMassOf", apart := false }
def FnExactMassOfSaid : Prop := fnExactMassOfRow.holds Try.pinned (OpenSpec.ofChange fnExactMassOfSpec)

/-- ITS FALSE NEIGHBOUR: 'it returns false'. Refute it at one input. -/
def fnExactMassOfWrong : ChangeSpec := { name := "fnExactMassOf", fn := fun _ => fun
  | [d1, d2] => { results := [.lit (.bool false)], args := [d1, d2] }
  | _ => none }
def FnExactMassOfWrongFalsely : Prop := fnExactMassOfRow.holds Try.pinned (OpenSpec.ofChange fnExactMassOfWrong)

/-- 'laws.FnExactMovingOf': WHATEVER THE INPUT: true; the input reads as it did. -/
def fnExactMovingOfSpec : ChangeSpec := { name := "fnExactMovingOf", fn := fun _ => fun
  | [d1, d2, d3] => { results := [.lit (.bool true)], args := [d1, d2, d3] }
  | _ => none }
def fnExactMovingOfRow : OpenClaim := { program := "ytngdfckknkgdgaa", sum := "497cfe429752dc8774cd813e60faf4a707b4b030a1d395f8c396cb39dc109faf", func := "loop.example/g00155/laws.FnExactMovingOf", spec := "fnExactMovingOf", unfollowed := true, recurses := true, apart := false }
def FnExactMovingOfSaid : Prop := fnExactMovingOfRow.holds Try.pinned (OpenSpec.ofChange fnExactMovingOfSpec)

/-- ITS FALSE NEIGHBOUR: 'it returns false'. Refute it at one input. -/
def fnExactMovingOfWrong : ChangeSpec := { name := "fnExactMovingOf", fn := fun _ => fun
  | [d1, d2, d3] => { results := [.lit (.bool false)], args := [d1, d2, d3] }
  | _ => none }
def FnExactMovingOfWrongFalsely : Prop := fnExactMovingOfRow.holds Try.pinned (OpenSpec.ofChange fnExactMovingOfWrong)

/-- 'laws.FnExactRaisedOf': WHATEVER THE INPUT: true; the input reads as it did. -/
def fnExactRaisedOfSpec : ChangeSpec := { name := "fnExactRaisedOf", fn := fun _ => fun
  | [d1, d2, d3] => { results := [.lit (.bool true)], args := [d1, d2, d3] }
  | _ => none }
def fnExactRaisedOfRow : OpenClaim := { program := "ytngdfckknkgdgaa", sum := "497cfe429752dc8774cd813e60faf4a707b4b030a1d395f8c396cb39dc109faf", func := "loop.example/g00155/laws.FnExactRaisedOf", spec := "fnExactRaisedOf", unfollowed := true, recurses := true, apart := false }
def FnExactRaisedOfSaid : Prop := fnExactRaisedOfRow.holds Try.pinned (OpenSpec.ofChange fnExactRaisedOfSpec)

/-- ITS FALSE NEIGHBOUR: 'it returns false'. Refute it at one input. -/
def fnExactRaisedOfWrong : ChangeSpec := { name := "fnExactRaisedOf", fn := fun _ => fun
  | [d1, d2, d3] => { results := [.lit (.bool false)], args := [d1, d2, d3] }
  | _ => none }
def FnExactRaisedOfWrongFalsely : Prop := fnExactRaisedOfRow.holds Try.pinned (OpenSpec.ofChange fnExactRaisedOfWrong)

/-- 'laws.FnExactEnergyOf': WHATEVER THE INPUT: true; the input reads as it did. -/
def fnExactEnergyOfSpec : ChangeSpec := { name := "fnExactEnergyOf", fn := fun _ => fun
  | [d1, d2, d3] => { results := [.lit (.bool true)], args := [d1, d2, d3] }
  | _ => none }
def fnExactEnergyOfRow : OpenClaim := { program := "ytngdfckknkgdgaa", sum := "497cfe429752dc8774cd813e60faf4a707b4b030a1d395f8c396cb39dc109faf", func := "loop.example/g00155/laws.FnExactEnergyOf", spec := "fnExactEnergyOf", unfollowed := true, recurses := true, apart := false }
def FnExactEnergyOfSaid : Prop := fnExactEnergyOfRow.holds Try.pinned (OpenSpec.ofChange fnExactEnergyOfSpec)

/-- ITS FALSE NEIGHBOUR: 'it returns false'. Refute it at one input. -/
def fnExactEnergyOfWrong : ChangeSpec := { name := "fnExactEnergyOf", fn := fun _ => fun
  | [d1, d2, d3] => { results := [.lit (.bool false)], args := [d1, d2, d3] }
  | _ => none }
def FnExactEnergyOfWrongFalsely : Prop := fnExactEnergyOfRow.holds Try.pinned (OpenSpec.ofChange fnExactEnergyOfWrong)

/-- 'laws.FnExactBookStep': WHATEVER THE INPUT: true; the input reads as it did. -/
def fnExactBookStepSpec : ChangeSpec := { name := "fnExactBookStep", fn := fun _ => fun
  | [d1, d2, d3, d4, d5] => { results := [.lit (.bool true)], args := [d1, d2, d3, d4, d5] }
  | _ => none }
def fnExactBookStepRow : OpenClaim := { program := "ytngdfckknkgdgaa", sum := "497cfe429752dc8774cd813e60faf4a707b4b030a1d395f8c396cb39dc109faf", func := "loop.example/g00155/laws.FnExactBookStep", spec := "fnExactBookStep", unfollowed := true, recurses := true, apart := false }
def FnExactBookStepSaid : Prop := fnExactBookStepRow.holds Try.pinned (OpenSpec.ofChange fnExactBookStepSpec)

/-- ITS FALSE NEIGHBOUR: 'it returns false'. Refute it at one input. -/
def fnExactBookStepWrong : ChangeSpec := { name := "fnExactBookStep", fn := fun _ => fun
  | [d1, d2, d3, d4, d5] => { results := [.lit (.bool false)], args := [d1, d2, d3, d4, d5] }
  | _ => none }
def FnExactBookStepWrongFalsely : Prop := fnExactBookStepRow.holds Try.pinned (OpenSpec.ofChange fnExactBookStepWrong)

/-- 'laws.FnExactBookRun': WHATEVER THE INPUT: true; the input reads as it did. -/
def fnExactBookRunSpec : ChangeSpec := { name := "fnExactBookRun", fn := fun _ => fun
  | [d1, d2, d3, d4, d5] => { results := [.lit (.bool true)], args := [d1, d2, d3, d4, d5] }
  | _ => none }
def fnExactBookRunRow : OpenClaim := { program := "ytngdfckknkgdgaa", sum := "497cfe429752dc8774cd813e60faf4a707b4b030a1d395f8c396cb39dc109faf", func := "loop.example/g00155/laws.FnExactBookRun", spec := "fnExactBookRun", unfollowed := true, recurses := true, apart := false }
def FnExactBookRunSaid : Prop := fnExactBookRunRow.holds Try.pinned (OpenSpec.ofChange fnExactBookRunSpec)

/-- ITS FALSE NEIGHBOUR: 'it returns false'. Refute it at one input. -/
def fnExactBookRunWrong : ChangeSpec := { name := "fnExactBookRun", fn := fun _ => fun
  | [d1, d2, d3, d4, d5] => { results := [.lit (.bool false)], args := [d1, d2, d3, d4, d5] }
  | _ => none }
def FnExactBookRunWrongFalsely : Prop := fnExactBookRunRow.holds Try.pinned (OpenSpec.ofChange fnExactBookRunWrong)

/-- 'laws.FnBooks': WHATEVER THE INPUT: true; the input reads as it did. -/
def fnBooksSpec : ChangeSpec := { name := "fnBooks", fn := fun _ => fun
  | [d] => { results := [.lit (.bool true)], args := [d] }
  | _ => none }
def fnBooksRow : OpenClaim := { program := "ytngdfckknkgdgaa", sum := "497cfe429752dc8774cd813e60faf4a707b4b030a1d395f8c396cb39dc109faf", func := "loop.example/g00155/laws.FnBooks", spec := "fnBooks", unfollowed := true, recurses := true, apart := false }
def FnBooksSaid : Prop := fnBooksRow.holds Try.pinned (OpenSpec.ofChange fnBooksSpec)

/-- ITS FALSE NEIGHBOUR: 'it returns false'. Refute it at one input. -/
def fnBooksWrong : ChangeSpec := { name := "fnBooks", fn := fun _ => fun
  | [d] => { results := [.lit (.bool false)], args := [d] }
  | _ => none }
def FnBooksWrongFalsely : Prop := fnBooksRow.holds Try.pinned (OpenSpec.ofChange fnBooksWrong)

/- THE SECOND FORM. 'bulk': how many values and letters a reading holds, each counted each time it is reached (what is shared counts as often as it is met; a slice's spare places count too). A statement '..UptoSaid' is the law's where the arguments, and the package variables that the reading takes, are together of bulk at most 1048576: NARROWER than '..Said'. Prove '..Said' where nothing that the law and all that it calls make is longer than what came in: it says more and counts as full. Else prove '..UptoSaid'. A law counts once. -/
mutual
def uptoBulk {H : Type} : DataW H → Nat
  | .lit (.string bytes) => bytes.length + 1
  | .lit _ => 1
  | .nil => 1
  | .ptr d => uptoBulk d + 1
  | .slice elems spare => uptoBulkAll elems + uptoBulkAll spare + 1
  | .agg parts => uptoBulkAll parts + 1
  | .iface _ d => uptoBulk d + 1
  | .map entries => uptoBulkEntries entries + 1
  | .held _ => 1
def uptoBulkAll {H : Type} : List (DataW H) → Nat
  | [] => 0
  | d :: r => uptoBulk d + uptoBulkAll r
def uptoBulkEntries {H : Type} : List (Lit × DataW H) → Nat
  | [] => 0
  | x :: r => uptoBulkEntry x + uptoBulkEntries r
def uptoBulkEntry {H : Type} : Lit × DataW H → Nat
  | (.string bytes, d) => bytes.length + uptoBulk d + 1
  | (_, d) => uptoBulk d + 1
 end
def uptoSmall : (H : Type) → List (DataW H) → Bool := fun _ ds => decide (uptoBulkAll ds ≤ 1048576)
def OpenSpec.upto (s : _root_.Go.ChangeSpec) : _root_.Go.OpenSpec := { _root_.Go.OpenSpec.ofChange s with cond := some uptoSmall }

/-- 'laws.FnExactMassOf', WHERE WHAT IT READS IS OF BULK AT MOST 1048576: true; the input reads as it did. -/
def fnExactMassOfUptoRow : OpenClaim := { program := "ytngdfckknkgdgaa", sum := "497cfe429752dc8774cd813e60faf4a707b4b030a1d395f8c396cb39dc109faf", func := "loop.example/g00155/laws.FnExactMassOf", spec := "fnExactMassOf", apart := false, narrowed := true }
def FnExactMassOfUptoSaid : Prop := fnExactMassOfUptoRow.holds Try.pinned (OpenSpec.upto fnExactMassOfSpec)

/-- 'laws.FnExactMovingOf', WHERE WHAT IT READS IS OF BULK AT MOST 1048576: true; the input reads as it did. -/
def fnExactMovingOfUptoRow : OpenClaim := { program := "ytngdfckknkgdgaa", sum := "497cfe429752dc8774cd813e60faf4a707b4b030a1d395f8c396cb39dc109faf", func := "loop.example/g00155/laws.FnExactMovingOf", spec := "fnExactMovingOf", unfollowed := true, recurses := true, apart := false, narrowed := true }
def FnExactMovingOfUptoSaid : Prop := fnExactMovingOfUptoRow.holds Try.pinned (OpenSpec.upto fnExactMovingOfSpec)

/-- 'laws.FnExactRaisedOf', WHERE WHAT IT READS IS OF BULK AT MOST 1048576: true; the input reads as it did. -/
def fnExactRaisedOfUptoRow : OpenClaim := { program := "ytngdfckknkgdgaa", sum := "497cfe429752dc8774cd813e60faf4a707b4b030a1d395f8c396cb39dc109faf", func := "loop.example/g00155/laws.FnExactRaisedOf", spec := "fnExactRaisedOf", unfollowed := true, recurses := true, apart := false, narrowed := true }
def FnExactRaisedOfUptoSaid : Prop := fnExactRaisedOfUptoRow.holds Try.pinned (OpenSpec.upto fnExactRaisedOfSpec)

/-- 'laws.FnExactEnergyOf', WHERE WHAT IT READS IS OF BULK AT MOST 1048576: true; the input reads as it did. -/
def fnExactEnergyOfUptoRow : OpenClaim := { program := "ytngdfckknkgdgaa", sum := "497cfe429752dc8774cd813e60faf4a707b4b030a1d395f8c396cb39dc109faf", func := "loop.example/g00155/laws.FnExactEnergyOf", spec := "fnExactEnergyOf", unfollowed := true, recurses := true, apart := false, narrowed := true }
def FnExactEnergyOfUptoSaid : Prop := fnExactEnergyOfUptoRow.holds Try.pinned (OpenSpec.upto fnExactEnergyOfSpec)

/-- 'laws.FnExactBookStep', WHERE WHAT IT READS IS OF BULK AT MOST 1048576: true; the input reads as it did. -/
def fnExactBookStepUptoRow : OpenClaim := { program := "ytngdfckknkgdgaa", sum := "497cfe429752dc8774cd813e60faf4a707b4b030a1d395f8c396cb39dc109faf", func := "loop.example/g00155/laws.FnExactBookStep", spec := "fnExactBookStep", unfollowed := true, recurses := true, apart := false, narrowed := true }
def FnExactBookStepUptoSaid : Prop := fnExactBookStepUptoRow.holds Try.pinned (OpenSpec.upto fnExactBookStepSpec)

/-- 'laws.FnExactBookRun', WHERE WHAT IT READS IS OF BULK AT MOST 1048576: true; the input reads as it did. -/
def fnExactBookRunUptoRow : OpenClaim := { program := "ytngdfckknkgdgaa", sum := "497cfe429752dc8774cd813e60faf4a707b4b030a1d395f8c396cb39dc109faf", func := "loop.example/g00155/laws.FnExactBookRun", spec := "fnExactBookRun", unfollowed := true, recurses := true, apart := false, narrowed := true }
def FnExactBookRunUptoSaid : Prop := fnExactBookRunUptoRow.holds Try.pinned (OpenSpec.upto fnExactBookRunSpec)

/-- 'laws.FnBooks', WHERE WHAT IT READS IS OF BULK AT MOST 1048576: true; the input reads as it did. -/
def fnBooksUptoRow : OpenClaim := { program := "ytngdfckknkgdgaa", sum := "497cfe429752dc8774cd813e60faf4a707b4b030a1d395f8c396cb39dc109faf", func := "loop.example/g00155/laws.FnBooks", spec := "fnBooks", unfollowed := true, recurses := true, apart := false, narrowed := true }
def FnBooksUptoSaid : Prop := fnBooksUptoRow.holds Try.pinned (OpenSpec.upto fnBooksSpec)

end Rows
end Go.Proofs.Ytngdfckknkgdgaa
