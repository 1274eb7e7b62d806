/-
  No cell of these rows narrows 'for every input' (looked for: loops, veiled, ifaces, maps, wideKeys, modest, calm, conditions, laid).
  DERIVED. THE GIVEN ROWS OF THIS SEAT. 2 by the template 'for every input the law returns true; each argument reads behind the call as it read before'; 0 by the template 'total and deterministic' (their statements: YtfmkanbhnpmpaaaGreatTotals.lean).
  GIVEN WITH THE SEED: the statements are not yours to turn. If you find one false, say at which input.
  Laid BY PROGRAM, IN A SANDBOX (cutbox-rows.mjs): the forced cells as the released guide's own fill.sh prints them over the translation 6e7a50388463ee1f… (all of the seat's roots in one cut). By AI agents, Wed Nov 11 2026. No macro, syntax, notation, axiom, sorry.
-/
import Derived.Test.YtfmkanbhnpmpaaaGreatChecked
import GoSem.Claim
import GoSem.ClaimJoined
import GoSem.ClaimMapViews
import Derived.JoinedTies
import Derived.KernelRfl
namespace Go.Proofs.YtfmkanbhnpmpaaaGreat
/- THE CELL 'sum', in the pinned program and in every row, IS THE sha256 OF THE DUMP (.gsa) THAT YtfmkanbhnpmpaaaGreatProg.lean LOADS. Nothing in Lean hashes anything: it is a label: what it is worth is what the hold of that sum in a sandbox is worth. -/
noncomputable def Tryz.pinned : Pinned := { name := "ytfmkanbhnpmpaaagreat", sum := "6e7a50388463ee1f36a6ecf634729e14e1942f8826b5ede3da0da73f3a7cd735", checked := Tryz.checked }
namespace Rows
def none {H : Type} : Left H := { results := [], args := [] }

/-- 'laws.FnExactRestartGroup': WHATEVER THE INPUT: true; the input reads as it did. -/
def fnExactRestartGroupSpec : ChangeSpec := { name := "fnExactRestartGroup", fn := fun _ => fun
  | [d1, d2] => { results := [.lit (.bool true)], args := [d1, d2] }
  | _ => none }
def fnExactRestartGroupRow : OpenClaim := { program := "ytfmkanbhnpmpaaagreat", sum := "6e7a50388463ee1f36a6ecf634729e14e1942f8826b5ede3da0da73f3a7cd735", func := "loop.example/g00155/laws.FnExactRestartGroup", spec := "fnExactRestartGroup", unfollowed := true, recurses := true, apart := false }
def FnExactRestartGroupSaid : Prop := fnExactRestartGroupRow.holds Tryz.pinned (OpenSpec.ofChange fnExactRestartGroupSpec)

/-- ITS FALSE NEIGHBOUR: 'it returns false'. Refute it at one input. -/
def fnExactRestartGroupWrong : ChangeSpec := { name := "fnExactRestartGroup", fn := fun _ => fun
  | [d1, d2] => { results := [.lit (.bool false)], args := [d1, d2] }
  | _ => none }
def FnExactRestartGroupWrongFalsely : Prop := fnExactRestartGroupRow.holds Tryz.pinned (OpenSpec.ofChange fnExactRestartGroupWrong)

/-- 'laws.FnExactRecallGroup': WHATEVER THE INPUT: true; the input reads as it did. -/
def fnExactRecallGroupSpec : ChangeSpec := { name := "fnExactRecallGroup", fn := fun _ => fun
  | [d1, d2] => { results := [.lit (.bool true)], args := [d1, d2] }
  | _ => none }
def fnExactRecallGroupRow : OpenClaim := { program := "ytfmkanbhnpmpaaagreat", sum := "6e7a50388463ee1f36a6ecf634729e14e1942f8826b5ede3da0da73f3a7cd735", func := "loop.example/g00155/laws.FnExactRecallGroup", spec := "fnExactRecallGroup", unfollowed := true, recurses := true, apart := false }
def FnExactRecallGroupSaid : Prop := fnExactRecallGroupRow.holds Tryz.pinned (OpenSpec.ofChange fnExactRecallGroupSpec)

/-- ITS FALSE NEIGHBOUR: 'it returns false'. Refute it at one input. -/
def fnExactRecallGroupWrong : ChangeSpec := { name := "fnExactRecallGroup", fn := fun _ => fun
  | [d1, d2] => { results := [.lit (.bool false)], args := [d1, d2] }
  | _ => none }
def FnExactRecallGroupWrongFalsely : Prop := fnExactRecallGroupRow.holds Tryz.pinned (OpenSpec.ofChange fnExactRecallGroupWrong)

/- THE SECOND FORM. 'bulk': how many values and letters a reading holds, each counted each time it is reached (what is shared counts as often as it is met; a slice's spare places count too). A statement '..UptoSaid' is the law's where the arguments, and the package variables that the reading takes, are together of bulk at most 1048576: NARROWER than '..Said'. Prove '..Said' where nothing that the law and all that it calls make is longer than what came in: it says more and counts as full. Else prove '..UptoSaid'. A law counts once. -/
mutual
def uptoBulk {H : Type} : DataW H → Nat
  | .lit (.string bytes) => bytes.length + 1
  | .lit _ => 1
  | .nil => 1
  | .ptr d => uptoBulk d + 1
  | .slice elems spare => uptoBulkAll elems + uptoBulkAll spare + 1
  | .agg parts => uptoBulkAll parts + 1
  | .iface _ d => uptoBulk d + 1
  | .map entries => uptoBulkEntries entries + 1
  | .held _ => 1
def uptoBulkAll {H : Type} : List (DataW H) → Nat
  | [] => 0
  | d :: r => uptoBulk d + uptoBulkAll r
def uptoBulkEntries {H : Type} : List (Lit × DataW H) → Nat
  | [] => 0
  | x :: r => uptoBulkEntry x + uptoBulkEntries r
def uptoBulkEntry {H : Type} : Lit × DataW H → Nat
  | (.string bytes, d) => bytes.length + uptoBulk d + 1
  | (_, d) => uptoBulk d + 1
 end
def uptoSmall : (H : Type) → List (DataW H) → Bool := fun _ ds => decide (uptoBulkAll ds ≤ 1048576)
def OpenSpec.upto (s : _root_.Go.ChangeSpec) : _root_.Go.OpenSpec := { _root_.Go.OpenSpec.ofChange s with cond := some uptoSmall }

/-- 'laws.FnExactRestartGroup', WHERE WHAT IT READS IS OF BULK AT MOST 1048576: true; the input reads as it did. -/
def fnExactRestartGroupUptoRow : OpenClaim := { program := "ytfmkanbhnpmpaaagreat", sum := "6e7a50388463ee1f36a6ecf634729e14e1942f8826b5ede3da0da73f3a7cd735", func := "loop.example/g00155/laws.FnExactRestartGroup", spec := "fnExactRestartGroup", unfollowed := true, recurses := true, apart := false, narrowed := true }
def FnExactRestartGroupUptoSaid : Prop := fnExactRestartGroupUptoRow.holds Tryz.pinned (OpenSpec.upto fnExactRestartGroupSpec)

/-- 'laws.FnExactRecallGroup', WHERE WHAT IT READS IS OF BULK AT MOST 1048576: true; the input reads as it did. -/
def fnExactRecallGroupUptoRow : OpenClaim := { program := "ytfmkanbhnpmpaaagreat", sum := "6e7a50388463ee1f36a6ecf634729e14e1942f8826b5ede3da0da73f3a7cd735", func := "loop.example/g00155/laws.FnExactRecallGroup", spec := "fnExactRecallGroup", unfollowed := true, recurses := true, apart := false, narrowed := true }
def FnExactRecallGroupUptoSaid : Prop := fnExactRecallGroupUptoRow.holds Tryz.pinned (OpenSpec.upto fnExactRecallGroupSpec)

end Rows
end Go.Proofs.YtfmkanbhnpmpaaaGreat
