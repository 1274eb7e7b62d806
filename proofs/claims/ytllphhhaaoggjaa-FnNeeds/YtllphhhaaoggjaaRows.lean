/-
  No cell of these rows narrows 'for every input' (looked for: loops, veiled, ifaces, maps, wideKeys, modest, calm, conditions, laid).
  DERIVED. THE GIVEN ROWS OF THIS SEAT. 11 by the template 'for every input the law returns true; each argument reads behind the call as it read before'; 0 by the template 'total and deterministic' (their statements: YtllphhhaaoggjaaTotals.lean).
  GIVEN WITH THE SEED: the statements are not yours to turn. If you find one false, say at which input.
  Laid BY PROGRAM, IN A SANDBOX (cutbox-rows.mjs): the forced cells as the released guide's own fill.sh prints them over the translation 4ae30f78ddbb7392… (all of the seat's roots in one cut). By AI agents, Wed Nov 11 2026. No macro, syntax, notation, axiom, sorry.
-/
import Derived.Test.YtllphhhaaoggjaaChecked
import GoSem.Claim
import GoSem.ClaimJoined
import GoSem.ClaimMapViews
import Derived.JoinedTies
import Derived.KernelRfl
namespace Go.Proofs.Ytllphhhaaoggjaa
/- THE CELL 'sum', in the pinned program and in every row, IS THE sha256 OF THE DUMP (.gsa) THAT YtllphhhaaoggjaaProg.lean LOADS. Nothing in Lean hashes anything: it is a label: what it is worth is what the hold of that sum in a sandbox is worth. -/
noncomputable def Try.pinned : Pinned := { name := "ytllphhhaaoggjaa", sum := "4ae30f78ddbb73924857759b8c2796a3bff1cd1f7d61e83b62cbd1c56a125c74", checked := Try.checked }
namespace Rows
def none {H : Type} : Left H := { results := [], args := [] }

/-- 'laws.FnNeeds': WHATEVER THE INPUT: true; the input reads as it did. -/
def fnNeedsSpec : ChangeSpec := { name := "fnNeeds", fn := fun _ => fun
  | [d] => { results := [.lit (.bool true)], args := [d] }
  | _ => none }
def fnNeedsRow : OpenClaim := { program := "ytllphhhaaoggjaa", sum := "4ae30f78ddbb73924857759b8c2796a3bff1cd1f7d61e83b62cbd1c56a125c74", func := "loop.example/g00155/laws.FnNeeds", spec := "fnNeeds", unfollowed := true, recurses := true, apart := false }
def FnNeedsSaid : Prop := fnNeedsRow.holds Try.pinned (OpenSpec.ofChange fnNeedsSpec)

/-- ITS FALSE NEIGHBOUR: 'it returns false'. Refute it at one input. -/
def fnNeedsWrong : ChangeSpec := { name := "fnNeeds", fn := fun _ => fun
  | [d] => { results := [.lit (.bool false)], args := [d] }
  | _ => none }
def FnNeedsWrongFalsely : Prop := fnNeedsRow.holds Try.pinned (OpenSpec.ofChange fnNeedsWrong)

/-- 'laws.FnExactLedgerFault': WHATEVER THE INPUT: true; the input reads as it did. -/
def fnExactLedgerFaultSpec : ChangeSpec := { name := "fnExactLedgerFault", fn := fun _ => fun
  | [d1, d2] => { results := [.lit (.bool true)], args := [d1, d2] }
  | _ => none }
def fnExactLedgerFaultRow : OpenClaim := { program := "ytllphhhaaoggjaa", sum := "4ae30f78ddbb73924857759b8c2796a3bff1cd1f7d61e83b62cbd1c56a125c74", func := "loop.example/g00155/laws.FnExactLedgerFault", spec := "fnExactLedgerFault", unfollowed := true, recurses := true, apart := false }
def FnExactLedgerFaultSaid : Prop := fnExactLedgerFaultRow.holds Try.pinned (OpenSpec.ofChange fnExactLedgerFaultSpec)

/-- ITS FALSE NEIGHBOUR: 'it returns false'. Refute it at one input. -/
def fnExactLedgerFaultWrong : ChangeSpec := { name := "fnExactLedgerFault", fn := fun _ => fun
  | [d1, d2] => { results := [.lit (.bool false)], args := [d1, d2] }
  | _ => none }
def FnExactLedgerFaultWrongFalsely : Prop := fnExactLedgerFaultRow.holds Try.pinned (OpenSpec.ofChange fnExactLedgerFaultWrong)

/-- 'laws.FnExactCallFault': WHATEVER THE INPUT: true; the input reads as it did. -/
def fnExactCallFaultSpec : ChangeSpec := { name := "fnExactCallFault", fn := fun _ => fun
  | [d1, d2, d3] => { results := [.lit (.bool true)], args := [d1, d2, d3] }
  | _ => none }
def fnExactCallFaultRow : OpenClaim := { program := "ytllphhhaaoggjaa", sum := "4ae30f78ddbb73924857759b8c2796a3bff1cd1f7d61e83b62cbd1c56a125c74", func := "loop.example/g00155/laws.FnExactCallFault", spec := "fnExactCallFault", apart := false }
def FnExactCallFaultSaid : Prop := fnExactCallFaultRow.holds Try.pinned (OpenSpec.ofChange fnExactCallFaultSpec)

/-- ITS FALSE NEIGHBOUR: 'it returns false'. Refute it at one input. -/
def fnExactCallFaultWrong : ChangeSpec := { name := "fnExactCallFault", fn := fun _ => fun
  | [d1, d2, d3] => { results := [.lit (.bool false)], args := [d1, d2, d3] }
  | _ => none }
def FnExactCallFaultWrongFalsely : Prop := fnExactCallFaultRow.holds Try.pinned (OpenSpec.ofChange fnExactCallFaultWrong)

/-- 'laws.FnExactAddCall': WHATEVER THE INPUT: true; the input reads as it did. -/
def fnExactAddCallSpec : ChangeSpec := { name := "fnExactAddCall", fn := fun _ => fun
  | [d1, d2, d3, d4, d5, d6] => { results := [.lit (.bool true)], args := [d1, d2, d3, d4, d5, d6] }
  | _ => none }
def fnExactAddCallRow : OpenClaim := { program := "ytllphhhaaoggjaa", sum := "4ae30f78ddbb73924857759b8c2796a3bff1cd1f7d61e83b62cbd1c56a125c74", func := "loop.example/g00155/laws.FnExactAddCall", spec := "fnExactAddCall", unfollowed := true, recurses := true, apart := false }
def FnExactAddCallSaid : Prop := fnExactAddCallRow.holds Try.pinned (OpenSpec.ofChange fnExactAddCallSpec)

/-- ITS FALSE NEIGHBOUR: 'it returns false'. Refute it at one input. -/
def fnExactAddCallWrong : ChangeSpec := { name := "fnExactAddCall", fn := fun _ => fun
  | [d1, d2, d3, d4, d5, d6] => { results := [.lit (.bool false)], args := [d1, d2, d3, d4, d5, d6] }
  | _ => none }
def FnExactAddCallWrongFalsely : Prop := fnExactAddCallRow.holds Try.pinned (OpenSpec.ofChange fnExactAddCallWrong)

/-- 'laws.FnExactNeedOf': WHATEVER THE INPUT: true; the input reads as it did. -/
def fnExactNeedOfSpec : ChangeSpec := { name := "fnExactNeedOf", fn := fun _ => fun
  | [d1, d2, d3, d4] => { results := [.lit (.bool true)], args := [d1, d2, d3, d4] }
  | _ => none }
def fnExactNeedOfRow : OpenClaim := { program := "ytllphhhaaoggjaa", sum := "4ae30f78ddbb73924857759b8c2796a3bff1cd1f7d61e83b62cbd1c56a125c74", func := "loop.example/g00155/laws.FnExactNeedOf", spec := "fnExactNeedOf", unfollowed := true, recurses := true, apart := false }
def FnExactNeedOfSaid : Prop := fnExactNeedOfRow.holds Try.pinned (OpenSpec.ofChange fnExactNeedOfSpec)

/-- ITS FALSE NEIGHBOUR: 'it returns false'. Refute it at one input. -/
def fnExactNeedOfWrong : ChangeSpec := { name := "fnExactNeedOf", fn := fun _ => fun
  | [d1, d2, d3, d4] => { results := [.lit (.bool false)], args := [d1, d2, d3, d4] }
  | _ => none }
def FnExactNeedOfWrongFalsely : Prop := fnExactNeedOfRow.holds Try.pinned (OpenSpec.ofChange fnExactNeedOfWrong)

/-- 'laws.FnExactBoardAt': WHATEVER THE INPUT: true; the input reads as it did. -/
def fnExactBoardAtSpec : ChangeSpec := { name := "fnExactBoardAt", fn := fun _ => fun
  | [d1, d2, d3, d4, d5] => { results := [.lit (.bool true)], args := [d1, d2, d3, d4, d5] }
  | _ => none }
def fnExactBoardAtRow : OpenClaim := { program := "ytllphhhaaoggjaa", sum := "4ae30f78ddbb73924857759b8c2796a3bff1cd1f7d61e83b62cbd1c56a125c74", func := "loop.example/g00155/laws.FnExactBoardAt", spec := "fnExactBoardAt", unfollowed := true, recurses := true, apart := false }
def FnExactBoardAtSaid : Prop := fnExactBoardAtRow.holds Try.pinned (OpenSpec.ofChange fnExactBoardAtSpec)

/-- ITS FALSE NEIGHBOUR: 'it returns false'. Refute it at one input. -/
def fnExactBoardAtWrong : ChangeSpec := { name := "fnExactBoardAt", fn := fun _ => fun
  | [d1, d2, d3, d4, d5] => { results := [.lit (.bool false)], args := [d1, d2, d3, d4, d5] }
  | _ => none }
def FnExactBoardAtWrongFalsely : Prop := fnExactBoardAtRow.holds Try.pinned (OpenSpec.ofChange fnExactBoardAtWrong)

/-- 'laws.FnExactAlightAt': WHATEVER THE INPUT: true; the input reads as it did. -/
def fnExactAlightAtSpec : ChangeSpec := { name := "fnExactAlightAt", fn := fun _ => fun
  | [d1, d2, d3, d4, d5] => { results := [.lit (.bool true)], args := [d1, d2, d3, d4, d5] }
  | _ => none }
def fnExactAlightAtRow : OpenClaim := { program := "ytllphhhaaoggjaa", sum := "4ae30f78ddbb73924857759b8c2796a3bff1cd1f7d61e83b62cbd1c56a125c74", func := "loop.example/g00155/laws.FnExactAlightAt", spec := "fnExactAlightAt", unfollowed := true, recurses := true, apart := false }
def FnExactAlightAtSaid : Prop := fnExactAlightAtRow.holds Try.pinned (OpenSpec.ofChange fnExactAlightAtSpec)

/-- ITS FALSE NEIGHBOUR: 'it returns false'. Refute it at one input. -/
def fnExactAlightAtWrong : ChangeSpec := { name := "fnExactAlightAt", fn := fun _ => fun
  | [d1, d2, d3, d4, d5] => { results := [.lit (.bool false)], args := [d1, d2, d3, d4, d5] }
  | _ => none }
def FnExactAlightAtWrongFalsely : Prop := fnExactAlightAtRow.holds Try.pinned (OpenSpec.ofChange fnExactAlightAtWrong)

/-- 'laws.FnExactLetOut': WHATEVER THE INPUT: true; the input reads as it did. -/
def fnExactLetOutSpec : ChangeSpec := { name := "fnExactLetOut", fn := fun _ => fun
  | [d1, d2, d3, d4, d5] => { results := [.lit (.bool true)], args := [d1, d2, d3, d4, d5] }
  | _ => none }
def fnExactLetOutRow : OpenClaim := { program := "ytllphhhaaoggjaa", sum := "4ae30f78ddbb73924857759b8c2796a3bff1cd1f7d61e83b62cbd1c56a125c74", func := "loop.example/g00155/laws.FnExactLetOut", spec := "fnExactLetOut", unfollowed := true, recurses := true, apart := false }
def FnExactLetOutSaid : Prop := fnExactLetOutRow.holds Try.pinned (OpenSpec.ofChange fnExactLetOutSpec)

/-- ITS FALSE NEIGHBOUR: 'it returns false'. Refute it at one input. -/
def fnExactLetOutWrong : ChangeSpec := { name := "fnExactLetOut", fn := fun _ => fun
  | [d1, d2, d3, d4, d5] => { results := [.lit (.bool false)], args := [d1, d2, d3, d4, d5] }
  | _ => none }
def FnExactLetOutWrongFalsely : Prop := fnExactLetOutRow.holds Try.pinned (OpenSpec.ofChange fnExactLetOutWrong)

/-- 'laws.FnExactDropWaiting': WHATEVER THE INPUT: true; the input reads as it did. -/
def fnExactDropWaitingSpec : ChangeSpec := { name := "fnExactDropWaiting", fn := fun _ => fun
  | [d1, d2] => { results := [.lit (.bool true)], args := [d1, d2] }
  | _ => none }
def fnExactDropWaitingRow : OpenClaim := { program := "ytllphhhaaoggjaa", sum := "4ae30f78ddbb73924857759b8c2796a3bff1cd1f7d61e83b62cbd1c56a125c74", func := "loop.example/g00155/laws.FnExactDropWaiting", spec := "fnExactDropWaiting", unfollowed := true, recurses := true, apart := false }
def FnExactDropWaitingSaid : Prop := fnExactDropWaitingRow.holds Try.pinned (OpenSpec.ofChange fnExactDropWaitingSpec)

/-- ITS FALSE NEIGHBOUR: 'it returns false'. Refute it at one input. -/
def fnExactDropWaitingWrong : ChangeSpec := { name := "fnExactDropWaiting", fn := fun _ => fun
  | [d1, d2] => { results := [.lit (.bool false)], args := [d1, d2] }
  | _ => none }
def FnExactDropWaitingWrongFalsely : Prop := fnExactDropWaitingRow.holds Try.pinned (OpenSpec.ofChange fnExactDropWaitingWrong)

/-- 'laws.FnExactCountPeople': WHATEVER THE INPUT: true; the input reads as it did. -/
def fnExactCountPeopleSpec : ChangeSpec := { name := "fnExactCountPeople", fn := fun _ => fun
  | [d1, d2] => { results := [.lit (.bool true)], args := [d1, d2] }
  | _ => none }
def fnExactCountPeopleRow : OpenClaim := { program := "ytllphhhaaoggjaa", sum := "4ae30f78ddbb73924857759b8c2796a3bff1cd1f7d61e83b62cbd1c56a125c74", func := "loop.example/g00155/laws.FnExactCountPeople", spec := "fnExactCountPeople", unfollowed := true, recurses := true, apart := false }
def FnExactCountPeopleSaid : Prop := fnExactCountPeopleRow.holds Try.pinned (OpenSpec.ofChange fnExactCountPeopleSpec)

/-- ITS FALSE NEIGHBOUR: 'it returns false'. Refute it at one input. -/
def fnExactCountPeopleWrong : ChangeSpec := { name := "fnExactCountPeople", fn := fun _ => fun
  | [d1, d2] => { results := [.lit (.bool false)], args := [d1, d2] }
  | _ => none }
def FnExactCountPeopleWrongFalsely : Prop := fnExactCountPeopleRow.holds Try.pinned (OpenSpec.ofChange fnExactCountPeopleWrong)

/-- 'laws.FnExactLoadOf': WHATEVER THE INPUT: true; the input reads as it did. -/
def fnExactLoadOfSpec : ChangeSpec := { name := "fnExactLoadOf", fn := fun _ => fun
  | [d1, d2, d3, d4] => { results := [.lit (.bool true)], args := [d1, d2, d3, d4] }
  | _ => none }
def fnExactLoadOfRow : OpenClaim := { program := "ytllphhhaaoggjaa", sum := "4ae30f78ddbb73924857759b8c2796a3bff1cd1f7d61e83b62cbd1c56a125c74", func := "loop.example/g00155/laws.FnExactLoadOf", spec := "fnExactLoadOf", unfollowed := true, recurses := true, apart := false }
def FnExactLoadOfSaid : Prop := fnExactLoadOfRow.holds Try.pinned (OpenSpec.ofChange fnExactLoadOfSpec)

/-- ITS FALSE NEIGHBOUR: 'it returns false'. Refute it at one input. -/
def fnExactLoadOfWrong : ChangeSpec := { name := "fnExactLoadOf", fn := fun _ => fun
  | [d1, d2, d3, d4] => { results := [.lit (.bool false)], args := [d1, d2, d3, d4] }
  | _ => none }
def FnExactLoadOfWrongFalsely : Prop := fnExactLoadOfRow.holds Try.pinned (OpenSpec.ofChange fnExactLoadOfWrong)

/- THE SECOND FORM. 'bulk': how many values and letters a reading holds, each counted each time it is reached (what is shared counts as often as it is met; a slice's spare places count too). A statement '..UptoSaid' is the law's where the arguments, and the package variables that the reading takes, are together of bulk at most 1048576: NARROWER than '..Said'. Prove '..Said' where nothing that the law and all that it calls make is longer than what came in: it says more and counts as full. Else prove '..UptoSaid'. A law counts once. -/
mutual
def uptoBulk {H : Type} : DataW H → Nat
  | .lit (.string bytes) => bytes.length + 1
  | .lit _ => 1
  | .nil => 1
  | .ptr d => uptoBulk d + 1
  | .slice elems spare => uptoBulkAll elems + uptoBulkAll spare + 1
  | .agg parts => uptoBulkAll parts + 1
  | .iface _ d => uptoBulk d + 1
  | .map entries => uptoBulkEntries entries + 1
  | .held _ => 1
def uptoBulkAll {H : Type} : List (DataW H) → Nat
  | [] => 0
  | d :: r => uptoBulk d + uptoBulkAll r
def uptoBulkEntries {H : Type} : List (Lit × DataW H) → Nat
  | [] => 0
  | x :: r => uptoBulkEntry x + uptoBulkEntries r
def uptoBulkEntry {H : Type} : Lit × DataW H → Nat
  | (.string bytes, d) => bytes.length + uptoBulk d + 1
  | (_, d) => uptoBulk d + 1
 end
def uptoSmall : (H : Type) → List (DataW H) → Bool := fun _ ds => decide (uptoBulkAll ds ≤ 1048576)
def OpenSpec.upto (s : _root_.Go.ChangeSpec) : _root_.Go.OpenSpec := { _root_.Go.OpenSpec.ofChange s with cond := some uptoSmall }

/-- 'laws.FnNeeds', WHERE WHAT IT READS IS OF BULK AT MOST 1048576: true; the input reads as it did. -/
def fnNeedsUptoRow : OpenClaim := { program := "ytllphhhaaoggjaa", sum := "4ae30f78ddbb73924857759b8c2796a3bff1cd1f7d61e83b62cbd1c56a125c74", func := "loop.example/g00155/laws.FnNeeds", spec := "fnNeeds", unfollowed := true, recurses := true, apart := false, narrowed := true }
def FnNeedsUptoSaid : Prop := fnNeedsUptoRow.holds Try.pinned (OpenSpec.upto fnNeedsSpec)

/-- 'laws.FnExactLedgerFault', WHERE WHAT IT READS IS OF BULK AT MOST 1048576: true; the input reads as it did. -/
def fnExactLedgerFaultUptoRow : OpenClaim := { program := "ytllphhhaaoggjaa", sum := "4ae30f78ddbb73924857759b8c2796a3bff1cd1f7d61e83b62cbd1c56a125c74", func := "loop.example/g00155/laws.FnExactLedgerFault", spec := "fnExactLedgerFault", unfollowed := true, recurses := true, apart := false, narrowed := true }
def FnExactLedgerFaultUptoSaid : Prop := fnExactLedgerFaultUptoRow.holds Try.pinned (OpenSpec.upto fnExactLedgerFaultSpec)

/-- 'laws.FnExactCallFault', WHERE WHAT IT READS IS OF BULK AT MOST 1048576: true; the input reads as it did. -/
def fnExactCallFaultUptoRow : OpenClaim := { program := "ytllphhhaaoggjaa", sum := "4ae30f78ddbb73924857759b8c2796a3bff1cd1f7d61e83b62cbd1c56a125c74", func := "loop.example/g00155/laws.FnExactCallFault", spec := "fnExactCallFault", apart := false, narrowed := true }
def FnExactCallFaultUptoSaid : Prop := fnExactCallFaultUptoRow.holds Try.pinned (OpenSpec.upto fnExactCallFaultSpec)

/-- 'laws.FnExactAddCall', WHERE WHAT IT READS IS OF BULK AT MOST 1048576: true; the input reads as it did. -/
def fnExactAddCallUptoRow : OpenClaim := { program := "ytllphhhaaoggjaa", sum := "4ae30f78ddbb73924857759b8c2796a3bff1cd1f7d61e83b62cbd1c56a125c74", func := "loop.example/g00155/laws.FnExactAddCall", spec := "fnExactAddCall", unfollowed := true, recurses := true, apart := false, narrowed := true }
def FnExactAddCallUptoSaid : Prop := fnExactAddCallUptoRow.holds Try.pinned (OpenSpec.upto fnExactAddCallSpec)

/-- 'laws.FnExactNeedOf', WHERE WHAT IT READS IS OF BULK AT MOST 1048576: true; the input reads as it did. -/
def fnExactNeedOfUptoRow : OpenClaim := { program := "ytllphhhaaoggjaa", sum := "4ae30f78ddbb73924857759b8c2796a3bff1cd1f7d61e83b62cbd1c56a125c74", func := "loop.example/g00155/laws.FnExactNeedOf", spec := "fnExactNeedOf", unfollowed := true, recurses := true, apart := false, narrowed := true }
def FnExactNeedOfUptoSaid : Prop := fnExactNeedOfUptoRow.holds Try.pinned (OpenSpec.upto fnExactNeedOfSpec)

/-- 'laws.FnExactBoardAt', WHERE WHAT IT READS IS OF BULK AT MOST 1048576: true; the input reads as it did. -/
def fnExactBoardAtUptoRow : OpenClaim := { program := "ytllphhhaaoggjaa", sum := "4ae30f78ddbb73924857759b8c2796a3bff1cd1f7d61e83b62cbd1c56a125c74", func := "loop.example/g00155/laws.FnExactBoardAt", spec := "fnExactBoardAt", unfollowed := true, recurses := true, apart := false, narrowed := true }
def FnExactBoardAtUptoSaid : Prop := fnExactBoardAtUptoRow.holds Try.pinned (OpenSpec.upto fnExactBoardAtSpec)

/-- 'laws.FnExactAlightAt', WHERE WHAT IT READS IS OF BULK AT MOST 1048576: true; the input reads as it did. -/
def fnExactAlightAtUptoRow : OpenClaim := { program := "ytllphhhaaoggjaa", sum := "4ae30f78ddbb73924857759b8c2796a3bff1cd1f7d61e83b62cbd1c56a125c74", func := "loop.example/g00155/laws.FnExactAlightAt", spec := "fnExactAlightAt", unfollowed := true, recurses := true, apart := false, narrowed := true }
def FnExactAlightAtUptoSaid : Prop := fnExactAlightAtUptoRow.holds Try.pinned (OpenSpec.upto fnExactAlightAtSpec)

/-- 'laws.FnExactLetOut', WHERE WHAT IT READS IS OF BULK AT MOST 1048576: true; the input reads as it did. -/
def fnExactLetOutUptoRow : OpenClaim := { program := "ytllphhhaaoggjaa", sum := "4ae30f78ddbb73924857759b8c2796a3bff1cd1f7d61e83b62cbd1c56a125c74", func := "loop.example/g00155/laws.FnExactLetOut", spec := "fnExactLetOut", unfollowed := true, recurses := true, apart := false, narrowed := true }
def FnExactLetOutUptoSaid : Prop := fnExactLetOutUptoRow.holds Try.pinned (OpenSpec.upto fnExactLetOutSpec)

/-- 'laws.FnExactDropWaiting', WHERE WHAT IT READS IS OF BULK AT MOST 1048576: true; the input reads as it did. -/
def fnExactDropWaitingUptoRow : OpenClaim := { program := "ytllphhhaaoggjaa", sum := "4ae30f78ddbb73924857759b8c2796a3bff1cd1f7d61e83b62cbd1c56a125c74", func := "loop.example/g00155/laws.FnExactDropWaiting", spec := "fnExactDropWaiting", unfollowed := true, recurses := true, apart := false, narrowed := true }
def FnExactDropWaitingUptoSaid : Prop := fnExactDropWaitingUptoRow.holds Try.pinned (OpenSpec.upto fnExactDropWaitingSpec)

/-- 'laws.FnExactCountPeople', WHERE WHAT IT READS IS OF BULK AT MOST 1048576: true; the input reads as it did. -/
def fnExactCountPeopleUptoRow : OpenClaim := { program := "ytllphhhaaoggjaa", sum := "4ae30f78ddbb73924857759b8c2796a3bff1cd1f7d61e83b62cbd1c56a125c74", func := "loop.example/g00155/laws.FnExactCountPeople", spec := "fnExactCountPeople", unfollowed := true, recurses := true, apart := false, narrowed := true }
def FnExactCountPeopleUptoSaid : Prop := fnExactCountPeopleUptoRow.holds Try.pinned (OpenSpec.upto fnExactCountPeopleSpec)

/-- 'laws.FnExactLoadOf', WHERE WHAT IT READS IS OF BULK AT MOST 1048576: true; the input reads as it did. -/
def fnExactLoadOfUptoRow : OpenClaim := { program := "ytllphhhaaoggjaa", sum := "4ae30f78ddbb73924857759b8c2796a3bff1cd1f7d61e83b62cbd1c56a125c74", func := "loop.example/g00155/laws.FnExactLoadOf", spec := "fnExactLoadOf", unfollowed := true, recurses := true, apart := false, narrowed := true }
def FnExactLoadOfUptoSaid : Prop := fnExactLoadOfUptoRow.holds Try.pinned (OpenSpec.upto fnExactLoadOfSpec)

end Rows
end Go.Proofs.Ytllphhhaaoggjaa
