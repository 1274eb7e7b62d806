/-
  No cell of these rows narrows 'for every input' (looked for: loops, veiled, ifaces, maps, wideKeys, modest, calm, conditions, laid).
  DERIVED. THE GIVEN ROWS OF THIS SEAT. 2 by the template 'for every input the law returns true; each argument reads behind the call as it read before'; 0 by the template 'total and deterministic' (their statements: YtegcacokgjonbabTotals.lean).
  GIVEN WITH THE SEED: the statements are not yours to turn. If you find one false, say at which input.
  Laid BY PROGRAM, IN A SANDBOX (cutbox-rows.mjs): the forced cells as the released guide's own fill.sh prints them over the translation 8e02661fe96a3437… (all of the seat's roots in one cut). By AI agents, Wed Nov 11 2026. No macro, syntax, notation, axiom, sorry.
-/
import Derived.Test.YtegcacokgjonbabChecked
import GoSem.Claim
import GoSem.ClaimJoined
import GoSem.ClaimMapViews
import Derived.JoinedTies
import Derived.KernelRfl
namespace Go.Proofs.Ytegcacokgjonbab
/- THE CELL 'sum', in the pinned program and in every row, IS THE sha256 OF THE DUMP (.gsa) THAT YtegcacokgjonbabProg.lean LOADS. Nothing in Lean hashes anything: it is a label: what it is worth is what the hold of that sum in a sandbox is worth. -/
noncomputable def Try.pinned : Pinned := { name := "ytegcacokgjonbab", sum := "8e02661fe96a343763d17473b85e158efa88245651756f0caac52437ba0838bf", checked := Try.checked }
namespace Rows
def none {H : Type} : Left H := { results := [], args := [] }

/-- 'laws.FnExactLowOf': WHATEVER THE INPUT: true; the input reads as it did. -/
def fnExactLowOfSpec : ChangeSpec := { name := "fnExactLowOf", fn := fun _ => fun
  | [d1, d2] => { results := [.lit (.bool true)], args := [d1, d2] }
  | _ => none }
def fnExactLowOfRow : OpenClaim := { program := "ytegcacokgjonbab", sum := "8e02661fe96a343763d17473b85e158efa88245651756f0caac52437ba0838bf", func := "loop.example/g00155/laws.FnExactLowOf", spec := "fnExactLowOf", unfollowed := true, recurses := true, apart := false }
def FnExactLowOfSaid : Prop := fnExactLowOfRow.holds Try.pinned (OpenSpec.ofChange fnExactLowOfSpec)

/-- ITS FALSE NEIGHBOUR: 'it returns false'. Refute it at one input. -/
def fnExactLowOfWrong : ChangeSpec := { name := "fnExactLowOf", fn := fun _ => fun
  | [d1, d2] => { results := [.lit (.bool false)], args := [d1, d2] }
  | _ => none }
def FnExactLowOfWrongFalsely : Prop := fnExactLowOfRow.holds Try.pinned (OpenSpec.ofChange fnExactLowOfWrong)

/-- 'laws.FnExactShaftFault': WHATEVER THE INPUT: true; the input reads as it did. -/
def fnExactShaftFaultSpec : ChangeSpec := { name := "fnExactShaftFault", fn := fun _ => fun
  | [d1, d2] => { results := [.lit (.bool true)], args := [d1, d2] }
  | _ => none }
def fnExactShaftFaultRow : OpenClaim := { program := "ytegcacokgjonbab", sum := "8e02661fe96a343763d17473b85e158efa88245651756f0caac52437ba0838bf", func := "loop.example/g00155/laws.FnExactShaftFault", spec := "fnExactShaftFault", apart := false }
def FnExactShaftFaultSaid : Prop := fnExactShaftFaultRow.holds Try.pinned (OpenSpec.ofChange fnExactShaftFaultSpec)

/-- ITS FALSE NEIGHBOUR: 'it returns false'. Refute it at one input. -/
def fnExactShaftFaultWrong : ChangeSpec := { name := "fnExactShaftFault", fn := fun _ => fun
  | [d1, d2] => { results := [.lit (.bool false)], args := [d1, d2] }
  | _ => none }
def FnExactShaftFaultWrongFalsely : Prop := fnExactShaftFaultRow.holds Try.pinned (OpenSpec.ofChange fnExactShaftFaultWrong)

/- THE SECOND FORM. 'bulk': how many values and letters a reading holds, each counted each time it is reached (what is shared counts as often as it is met; a slice's spare places count too). A statement '..UptoSaid' is the law's where the arguments, and the package variables that the reading takes, are together of bulk at most 1048576: NARROWER than '..Said'. Prove '..Said' where nothing that the law and all that it calls make is longer than what came in: it says more and counts as full. Else prove '..UptoSaid'. A law counts once. -/
mutual
def uptoBulk {H : Type} : DataW H → Nat
  | .lit (.string bytes) => bytes.length + 1
  | .lit _ => 1
  | .nil => 1
  | .ptr d => uptoBulk d + 1
  | .slice elems spare => uptoBulkAll elems + uptoBulkAll spare + 1
  | .agg parts => uptoBulkAll parts + 1
  | .iface _ d => uptoBulk d + 1
  | .map entries => uptoBulkEntries entries + 1
  | .held _ => 1
def uptoBulkAll {H : Type} : List (DataW H) → Nat
  | [] => 0
  | d :: r => uptoBulk d + uptoBulkAll r
def uptoBulkEntries {H : Type} : List (Lit × DataW H) → Nat
  | [] => 0
  | x :: r => uptoBulkEntry x + uptoBulkEntries r
def uptoBulkEntry {H : Type} : Lit × DataW H → Nat
  | (.string bytes, d) => bytes.length + uptoBulk d + 1
  | (_, d) => uptoBulk d + 1
 end
def uptoSmall : (H : Type) → List (DataW H) → Bool := fun _ ds => decide (uptoBulkAll ds ≤ 1048576)
def OpenSpec.upto (s : _root_.Go.ChangeSpec) : _root_.Go.OpenSpec := { _root_.Go.OpenSpec.ofChange s with cond := some uptoSmall }

/-- 'laws.FnExactLowOf', WHERE WHAT IT READS IS OF BULK AT MOST 1048576: true; the input reads as it did. -/
def fnExactLowOfUptoRow : OpenClaim := { program := "ytegcacokgjonbab", sum := "8e02661fe96a343763d17473b85e158efa88245651756f0caac52437ba0838bf", func := "loop.example/g00155/laws.FnExactLowOf", spec := "fnExactLowOf", unfollowed := true, recurses := true, apart := false, narrowed := true }
def FnExactLowOfUptoSaid : Prop := fnExactLowOfUptoRow.holds Try.pinned (OpenSpec.upto fnExactLowOfSpec)

/-- 'laws.FnExactShaftFault', WHERE WHAT IT READS IS OF BULK AT MOST 1048576: true; the input reads as it did. -/
def fnExactShaftFaultUptoRow : OpenClaim := { program := "ytegcacokgjonbab", sum := "8e02661fe96a343763d17473b85e158efa88245651756f0caac52437ba0838bf", func := "loop.example/g00155/laws.FnExactShaftFault", spec := "fnExactShaftFault", apart := false, narrowed := true }
def FnExactShaftFaultUptoSaid : Prop := fnExactShaftFaultUptoRow.holds Try.pinned (OpenSpec.upto fnExactShaftFaultSpec)

end Rows
end Go.Proofs.Ytegcacokgjonbab
