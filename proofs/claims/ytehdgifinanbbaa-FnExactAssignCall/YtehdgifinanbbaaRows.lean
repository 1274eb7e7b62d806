/-
  No cell of these rows narrows 'for every input' (looked for: loops, veiled, ifaces, maps, wideKeys, modest, calm, conditions, laid).
  DERIVED. THE GIVEN ROWS OF THIS SEAT. 5 by the template 'for every input the law returns true; each argument reads behind the call as it read before'; 0 by the template 'total and deterministic' (their statements: YtehdgifinanbbaaTotals.lean).
  GIVEN WITH THE SEED: the statements are not yours to turn. If you find one false, say at which input.
  Laid BY PROGRAM, IN A SANDBOX (cutbox-rows.mjs): the forced cells as the released guide's own fill.sh prints them over the translation 2d8bb8aad5f77b12… (all of the seat's roots in one cut). By AI agents, Wed Nov 11 2026. No macro, syntax, notation, axiom, sorry.
-/
import Derived.Test.YtehdgifinanbbaaChecked
import GoSem.Claim
import GoSem.ClaimJoined
import GoSem.ClaimMapViews
import Derived.JoinedTies
import Derived.KernelRfl
namespace Go.Proofs.Ytehdgifinanbbaa
/- THE CELL 'sum', in the pinned program and in every row, IS THE sha256 OF THE DUMP (.gsa) THAT YtehdgifinanbbaaProg.lean LOADS. Nothing in Lean hashes anything: it is a label: what it is worth is what the hold of that sum in a sandbox is worth. -/
noncomputable def Try.pinned : Pinned := { name := "ytehdgifinanbbaa", sum := "2d8bb8aad5f77b1236f50efbe1c56abb4d59e08cd146c5602de05980f478bbaa", checked := Try.checked }
namespace Rows
def none {H : Type} : Left H := { results := [], args := [] }

/-- 'laws.FnExactGroupFault': WHATEVER THE INPUT: true; the input reads as it did. -/
def fnExactGroupFaultSpec : ChangeSpec := { name := "fnExactGroupFault", fn := fun _ => fun
  | [d] => { results := [.lit (.bool true)], args := [d] }
  | _ => none }
def fnExactGroupFaultRow : OpenClaim := { program := "ytehdgifinanbbaa", sum := "2d8bb8aad5f77b1236f50efbe1c56abb4d59e08cd146c5602de05980f478bbaa", func := "loop.example/g00155/laws.FnExactGroupFault", spec := "fnExactGroupFault", unfollowed := true, recurses := true, apart := false }
def FnExactGroupFaultSaid : Prop := fnExactGroupFaultRow.holds Try.pinned (OpenSpec.ofChange fnExactGroupFaultSpec)

/-- ITS FALSE NEIGHBOUR: 'it returns false'. Refute it at one input. -/
def fnExactGroupFaultWrong : ChangeSpec := { name := "fnExactGroupFault", fn := fun _ => fun
  | [d] => { results := [.lit (.bool false)], args := [d] }
  | _ => none }
def FnExactGroupFaultWrongFalsely : Prop := fnExactGroupFaultRow.holds Try.pinned (OpenSpec.ofChange fnExactGroupFaultWrong)

/-- 'laws.FnExactNewGroup': WHATEVER THE INPUT: true; the input reads as it did. -/
def fnExactNewGroupSpec : ChangeSpec := { name := "fnExactNewGroup", fn := fun _ => fun
  | [d1, d2] => { results := [.lit (.bool true)], args := [d1, d2] }
  | _ => none }
def fnExactNewGroupRow : OpenClaim := { program := "ytehdgifinanbbaa", sum := "2d8bb8aad5f77b1236f50efbe1c56abb4d59e08cd146c5602de05980f478bbaa", func := "loop.example/g00155/laws.FnExactNewGroup", spec := "fnExactNewGroup", apart := false }
def FnExactNewGroupSaid : Prop := fnExactNewGroupRow.holds Try.pinned (OpenSpec.ofChange fnExactNewGroupSpec)

/-- ITS FALSE NEIGHBOUR: 'it returns false'. Refute it at one input. -/
def fnExactNewGroupWrong : ChangeSpec := { name := "fnExactNewGroup", fn := fun _ => fun
  | [d1, d2] => { results := [.lit (.bool false)], args := [d1, d2] }
  | _ => none }
def FnExactNewGroupWrongFalsely : Prop := fnExactNewGroupRow.holds Try.pinned (OpenSpec.ofChange fnExactNewGroupWrong)

/-- 'laws.FnExactAssignCall': WHATEVER THE INPUT: true; the input reads as it did. -/
def fnExactAssignCallSpec : ChangeSpec := { name := "fnExactAssignCall", fn := fun _ => fun
  | [d1, d2, d3] => { results := [.lit (.bool true)], args := [d1, d2, d3] }
  | _ => none }
def fnExactAssignCallRow : OpenClaim := { program := "ytehdgifinanbbaa", sum := "2d8bb8aad5f77b1236f50efbe1c56abb4d59e08cd146c5602de05980f478bbaa", func := "loop.example/g00155/laws.FnExactAssignCall", spec := "fnExactAssignCall", unfollowed := true, recurses := true, apart := false }
def FnExactAssignCallSaid : Prop := fnExactAssignCallRow.holds Try.pinned (OpenSpec.ofChange fnExactAssignCallSpec)

/-- ITS FALSE NEIGHBOUR: 'it returns false'. Refute it at one input. -/
def fnExactAssignCallWrong : ChangeSpec := { name := "fnExactAssignCall", fn := fun _ => fun
  | [d1, d2, d3] => { results := [.lit (.bool false)], args := [d1, d2, d3] }
  | _ => none }
def FnExactAssignCallWrongFalsely : Prop := fnExactAssignCallRow.holds Try.pinned (OpenSpec.ofChange fnExactAssignCallWrong)

/-- 'laws.FnExactQuietGroup': WHATEVER THE INPUT: true; the input reads as it did. -/
def fnExactQuietGroupSpec : ChangeSpec := { name := "fnExactQuietGroup", fn := fun _ => fun
  | [d] => { results := [.lit (.bool true)], args := [d] }
  | _ => none }
def fnExactQuietGroupRow : OpenClaim := { program := "ytehdgifinanbbaa", sum := "2d8bb8aad5f77b1236f50efbe1c56abb4d59e08cd146c5602de05980f478bbaa", func := "loop.example/g00155/laws.FnExactQuietGroup", spec := "fnExactQuietGroup", unfollowed := true, recurses := true, apart := false }
def FnExactQuietGroupSaid : Prop := fnExactQuietGroupRow.holds Try.pinned (OpenSpec.ofChange fnExactQuietGroupSpec)

/-- ITS FALSE NEIGHBOUR: 'it returns false'. Refute it at one input. -/
def fnExactQuietGroupWrong : ChangeSpec := { name := "fnExactQuietGroup", fn := fun _ => fun
  | [d] => { results := [.lit (.bool false)], args := [d] }
  | _ => none }
def FnExactQuietGroupWrongFalsely : Prop := fnExactQuietGroupRow.holds Try.pinned (OpenSpec.ofChange fnExactQuietGroupWrong)

/-- 'laws.FnExactBoundOf': WHATEVER THE INPUT: true; the input reads as it did. -/
def fnExactBoundOfSpec : ChangeSpec := { name := "fnExactBoundOf", fn := fun _ => fun
  | [d] => { results := [.lit (.bool true)], args := [d] }
  | _ => none }
def fnExactBoundOfRow : OpenClaim := { program := "ytehdgifinanbbaa", sum := "2d8bb8aad5f77b1236f50efbe1c56abb4d59e08cd146c5602de05980f478bbaa", func := "loop.example/g00155/laws.FnExactBoundOf", spec := "fnExactBoundOf", unfollowed := true, recurses := true, apart := false }
def FnExactBoundOfSaid : Prop := fnExactBoundOfRow.holds Try.pinned (OpenSpec.ofChange fnExactBoundOfSpec)

/-- ITS FALSE NEIGHBOUR: 'it returns false'. Refute it at one input. -/
def fnExactBoundOfWrong : ChangeSpec := { name := "fnExactBoundOf", fn := fun _ => fun
  | [d] => { results := [.lit (.bool false)], args := [d] }
  | _ => none }
def FnExactBoundOfWrongFalsely : Prop := fnExactBoundOfRow.holds Try.pinned (OpenSpec.ofChange fnExactBoundOfWrong)

/- THE SECOND FORM. 'bulk': how many values and letters a reading holds, each counted each time it is reached (what is shared counts as often as it is met; a slice's spare places count too). A statement '..UptoSaid' is the law's where the arguments, and the package variables that the reading takes, are together of bulk at most 1048576: NARROWER than '..Said'. Prove '..Said' where nothing that the law and all that it calls make is longer than what came in: it says more and counts as full. Else prove '..UptoSaid'. A law counts once. -/
mutual
def uptoBulk {H : Type} : DataW H → Nat
  | .lit (.string bytes) => bytes.length + 1
  | .lit _ => 1
  | .nil => 1
  | .ptr d => uptoBulk d + 1
  | .slice elems spare => uptoBulkAll elems + uptoBulkAll spare + 1
  | .agg parts => uptoBulkAll parts + 1
  | .iface _ d => uptoBulk d + 1
  | .map entries => uptoBulkEntries entries + 1
  | .held _ => 1
def uptoBulkAll {H : Type} : List (DataW H) → Nat
  | [] => 0
  | d :: r => uptoBulk d + uptoBulkAll r
def uptoBulkEntries {H : Type} : List (Lit × DataW H) → Nat
  | [] => 0
  | x :: r => uptoBulkEntry x + uptoBulkEntries r
def uptoBulkEntry {H : Type} : Lit × DataW H → Nat
  | (.string bytes, d) => bytes.length + uptoBulk d + 1
  | (_, d) => uptoBulk d + 1
 end
def uptoSmall : (H : Type) → List (DataW H) → Bool := fun _ ds => decide (uptoBulkAll ds ≤ 1048576)
def OpenSpec.upto (s : _root_.Go.ChangeSpec) : _root_.Go.OpenSpec := { _root_.Go.OpenSpec.ofChange s with cond := some uptoSmall }

/-- 'laws.FnExactGroupFault', WHERE WHAT IT READS IS OF BULK AT MOST 1048576: true; the input reads as it did. -/
def fnExactGroupFaultUptoRow : OpenClaim := { program := "ytehdgifinanbbaa", sum := "2d8bb8aad5f77b1236f50efbe1c56abb4d59e08cd146c5602de05980f478bbaa", func := "loop.example/g00155/laws.FnExactGroupFault", spec := "fnExactGroupFault", unfollowed := true, recurses := true, apart := false, narrowed := true }
def FnExactGroupFaultUptoSaid : Prop := fnExactGroupFaultUptoRow.holds Try.pinned (OpenSpec.upto fnExactGroupFaultSpec)

/-- 'laws.FnExactNewGroup', WHERE WHAT IT READS IS OF BULK AT MOST 1048576: true; the input reads as it did. -/
def fnExactNewGroupUptoRow : OpenClaim := { program := "ytehdgifinanbbaa", sum := "2d8bb8aad5f77b1236f50efbe1c56abb4d59e08cd146c5602de05980f478bbaa", func := "loop.example/g00155/laws.FnExactNewGroup", spec := "fnExactNewGroup", apart := false, narrowed := true }
def FnExactNewGroupUptoSaid : Prop := fnExactNewGroupUptoRow.holds Try.pinned (OpenSpec.upto fnExactNewGroupSpec)

/-- 'laws.FnExactAssignCall', WHERE WHAT IT READS IS OF BULK AT MOST 1048576: true; the input reads as it did. -/
def fnExactAssignCallUptoRow : OpenClaim := { program := "ytehdgifinanbbaa", sum := "2d8bb8aad5f77b1236f50efbe1c56abb4d59e08cd146c5602de05980f478bbaa", func := "loop.example/g00155/laws.FnExactAssignCall", spec := "fnExactAssignCall", unfollowed := true, recurses := true, apart := false, narrowed := true }
def FnExactAssignCallUptoSaid : Prop := fnExactAssignCallUptoRow.holds Try.pinned (OpenSpec.upto fnExactAssignCallSpec)

/-- 'laws.FnExactQuietGroup', WHERE WHAT IT READS IS OF BULK AT MOST 1048576: true; the input reads as it did. -/
def fnExactQuietGroupUptoRow : OpenClaim := { program := "ytehdgifinanbbaa", sum := "2d8bb8aad5f77b1236f50efbe1c56abb4d59e08cd146c5602de05980f478bbaa", func := "loop.example/g00155/laws.FnExactQuietGroup", spec := "fnExactQuietGroup", unfollowed := true, recurses := true, apart := false, narrowed := true }
def FnExactQuietGroupUptoSaid : Prop := fnExactQuietGroupUptoRow.holds Try.pinned (OpenSpec.upto fnExactQuietGroupSpec)

/-- 'laws.FnExactBoundOf', WHERE WHAT IT READS IS OF BULK AT MOST 1048576: true; the input reads as it did. -/
def fnExactBoundOfUptoRow : OpenClaim := { program := "ytehdgifinanbbaa", sum := "2d8bb8aad5f77b1236f50efbe1c56abb4d59e08cd146c5602de05980f478bbaa", func := "loop.example/g00155/laws.FnExactBoundOf", spec := "fnExactBoundOf", unfollowed := true, recurses := true, apart := false, narrowed := true }
def FnExactBoundOfUptoSaid : Prop := fnExactBoundOfUptoRow.holds Try.pinned (OpenSpec.upto fnExactBoundOfSpec)

end Rows
end Go.Proofs.Ytehdgifinanbbaa
