/-
  No cell of these rows narrows 'for every input' (looked for: loops, veiled, ifaces, maps, wideKeys, modest, calm, conditions, laid).
  DERIVED. THE GIVEN ROWS OF THIS SEAT. 6 by the template 'for every input the law returns true; each argument reads behind the call as it read before'; 0 by the template 'total and deterministic' (their statements: YtiklkfgapcooiaaTotals.lean).
  GIVEN WITH THE SEED: the statements are not yours to turn. If you find one false, say at which input.
  Laid BY PROGRAM, IN A SANDBOX (cutbox-rows.mjs): the forced cells as the released guide's own fill.sh prints them over the translation f6986dbe09ab2440… (all of the seat's roots in one cut). By AI agents, Wed Nov 11 2026. No macro, syntax, notation, axiom, sorry.
-/
import Derived.Test.YtiklkfgapcooiaaChecked
import GoSem.Claim
import GoSem.ClaimJoined
import GoSem.ClaimMapViews
import Derived.JoinedTies
import Derived.KernelRfl
namespace Go.Proofs.Ytiklkfgapcooiaa
/- THE CELL 'sum', in the pinned program and in every row, IS THE sha256 OF THE DUMP (.gsa) THAT YtiklkfgapcooiaaProg.lean LOADS. Nothing in Lean hashes anything: it is a label: what it is worth is what the hold of that sum in a sandbox is worth. -/
noncomputable def Try.pinned : Pinned := { name := "ytiklkfgapcooiaa", sum := "f6986dbe09ab2440078edca075579754972f9be66760c66efb87ff6c2950a25e", checked := Try.checked }
namespace Rows
def none {H : Type} : Left H := { results := [], args := [] }

/-- 'laws.FnHouses': WHATEVER THE INPUT: true; the input reads as it did. -/
def fnHousesSpec : ChangeSpec := { name := "fnHouses", fn := fun _ => fun
  | [d] => { results := [.lit (.bool true)], args := [d] }
  | _ => none }
def fnHousesRow : OpenClaim := { program := "ytiklkfgapcooiaa", sum := "f6986dbe09ab2440078edca075579754972f9be66760c66efb87ff6c2950a25e", func := "loop.example/g00155/laws.FnHouses", spec := "fnHouses", unfollowed := true, recurses := true, apart := false }
def FnHousesSaid : Prop := fnHousesRow.holds Try.pinned (OpenSpec.ofChange fnHousesSpec)

/-- ITS FALSE NEIGHBOUR: 'it returns false'. Refute it at one input. -/
def fnHousesWrong : ChangeSpec := { name := "fnHouses", fn := fun _ => fun
  | [d] => { results := [.lit (.bool false)], args := [d] }
  | _ => none }
def FnHousesWrongFalsely : Prop := fnHousesRow.holds Try.pinned (OpenSpec.ofChange fnHousesWrong)

/-- 'laws.FnExactHouseFault': WHATEVER THE INPUT: true; the input reads as it did. -/
def fnExactHouseFaultSpec : ChangeSpec := { name := "fnExactHouseFault", fn := fun _ => fun
  | [d] => { results := [.lit (.bool true)], args := [d] }
  | _ => none }
def fnExactHouseFaultRow : OpenClaim := { program := "ytiklkfgapcooiaa", sum := "f6986dbe09ab2440078edca075579754972f9be66760c66efb87ff6c2950a25e", func := "loop.example/g00155/laws.FnExactHouseFault", spec := "fnExactHouseFault", apart := false }
def FnExactHouseFaultSaid : Prop := fnExactHouseFaultRow.holds Try.pinned (OpenSpec.ofChange fnExactHouseFaultSpec)

/-- ITS FALSE NEIGHBOUR: 'it returns false'. Refute it at one input. -/
def fnExactHouseFaultWrong : ChangeSpec := { name := "fnExactHouseFault", fn := fun _ => fun
  | [d] => { results := [.lit (.bool false)], args := [d] }
  | _ => none }
def FnExactHouseFaultWrongFalsely : Prop := fnExactHouseFaultRow.holds Try.pinned (OpenSpec.ofChange fnExactHouseFaultWrong)

/-- 'laws.FnExactLevelOf': WHATEVER THE INPUT: true; the input reads as it did. -/
def fnExactLevelOfSpec : ChangeSpec := { name := "fnExactLevelOf", fn := fun _ => fun
  | [d1, d2] => { results := [.lit (.bool true)], args := [d1, d2] }
  | _ => none }
def fnExactLevelOfRow : OpenClaim := { program := "ytiklkfgapcooiaa", sum := "f6986dbe09ab2440078edca075579754972f9be66760c66efb87ff6c2950a25e", func := "loop.example/g00155/laws.FnExactLevelOf", spec := "fnExactLevelOf", apart := false }
def FnExactLevelOfSaid : Prop := fnExactLevelOfRow.holds Try.pinned (OpenSpec.ofChange fnExactLevelOfSpec)

/-- ITS FALSE NEIGHBOUR: 'it returns false'. Refute it at one input. -/
def fnExactLevelOfWrong : ChangeSpec := { name := "fnExactLevelOf", fn := fun _ => fun
  | [d1, d2] => { results := [.lit (.bool false)], args := [d1, d2] }
  | _ => none }
def FnExactLevelOfWrongFalsely : Prop := fnExactLevelOfRow.holds Try.pinned (OpenSpec.ofChange fnExactLevelOfWrong)

/-- 'laws.FnExactFloorAt': WHATEVER THE INPUT: true; the input reads as it did. -/
def fnExactFloorAtSpec : ChangeSpec := { name := "fnExactFloorAt", fn := fun _ => fun
  | [d1, d2] => { results := [.lit (.bool true)], args := [d1, d2] }
  | _ => none }
def fnExactFloorAtRow : OpenClaim := { program := "ytiklkfgapcooiaa", sum := "f6986dbe09ab2440078edca075579754972f9be66760c66efb87ff6c2950a25e", func := "loop.example/g00155/laws.FnExactFloorAt", spec := "fnExactFloorAt", apart := false }
def FnExactFloorAtSaid : Prop := fnExactFloorAtRow.holds Try.pinned (OpenSpec.ofChange fnExactFloorAtSpec)

/-- ITS FALSE NEIGHBOUR: 'it returns false'. Refute it at one input. -/
def fnExactFloorAtWrong : ChangeSpec := { name := "fnExactFloorAt", fn := fun _ => fun
  | [d1, d2] => { results := [.lit (.bool false)], args := [d1, d2] }
  | _ => none }
def FnExactFloorAtWrongFalsely : Prop := fnExactFloorAtRow.holds Try.pinned (OpenSpec.ofChange fnExactFloorAtWrong)

/-- 'laws.FnExactLowEnd': WHATEVER THE INPUT: true; the input reads as it did. -/
def fnExactLowEndSpec : ChangeSpec := { name := "fnExactLowEnd", fn := fun _ => fun
  | [d] => { results := [.lit (.bool true)], args := [d] }
  | _ => none }
def fnExactLowEndRow : OpenClaim := { program := "ytiklkfgapcooiaa", sum := "f6986dbe09ab2440078edca075579754972f9be66760c66efb87ff6c2950a25e", func := "loop.example/g00155/laws.FnExactLowEnd", spec := "fnExactLowEnd", unfollowed := true, recurses := true, apart := false }
def FnExactLowEndSaid : Prop := fnExactLowEndRow.holds Try.pinned (OpenSpec.ofChange fnExactLowEndSpec)

/-- ITS FALSE NEIGHBOUR: 'it returns false'. Refute it at one input. -/
def fnExactLowEndWrong : ChangeSpec := { name := "fnExactLowEnd", fn := fun _ => fun
  | [d] => { results := [.lit (.bool false)], args := [d] }
  | _ => none }
def FnExactLowEndWrongFalsely : Prop := fnExactLowEndRow.holds Try.pinned (OpenSpec.ofChange fnExactLowEndWrong)

/-- 'laws.FnExactHighEnd': WHATEVER THE INPUT: true; the input reads as it did. -/
def fnExactHighEndSpec : ChangeSpec := { name := "fnExactHighEnd", fn := fun _ => fun
  | [d] => { results := [.lit (.bool true)], args := [d] }
  | _ => none }
def fnExactHighEndRow : OpenClaim := { program := "ytiklkfgapcooiaa", sum := "f6986dbe09ab2440078edca075579754972f9be66760c66efb87ff6c2950a25e", func := "loop.example/g00155/laws.FnExactHighEnd", spec := "fnExactHighEnd", unfollowed := true, recurses := true, apart := false }
def FnExactHighEndSaid : Prop := fnExactHighEndRow.holds Try.pinned (OpenSpec.ofChange fnExactHighEndSpec)

/-- ITS FALSE NEIGHBOUR: 'it returns false'. Refute it at one input. -/
def fnExactHighEndWrong : ChangeSpec := { name := "fnExactHighEnd", fn := fun _ => fun
  | [d] => { results := [.lit (.bool false)], args := [d] }
  | _ => none }
def FnExactHighEndWrongFalsely : Prop := fnExactHighEndRow.holds Try.pinned (OpenSpec.ofChange fnExactHighEndWrong)

/- THE SECOND FORM. 'bulk': how many values and letters a reading holds, each counted each time it is reached (what is shared counts as often as it is met; a slice's spare places count too). A statement '..UptoSaid' is the law's where the arguments, and the package variables that the reading takes, are together of bulk at most 1048576: NARROWER than '..Said'. Prove '..Said' where nothing that the law and all that it calls make is longer than what came in: it says more and counts as full. Else prove '..UptoSaid'. A law counts once. -/
mutual
def uptoBulk {H : Type} : DataW H → Nat
  | .lit (.string bytes) => bytes.length + 1
  | .lit _ => 1
  | .nil => 1
  | .ptr d => uptoBulk d + 1
  | .slice elems spare => uptoBulkAll elems + uptoBulkAll spare + 1
  | .agg parts => uptoBulkAll parts + 1
  | .iface _ d => uptoBulk d + 1
  | .map entries => uptoBulkEntries entries + 1
  | .held _ => 1
def uptoBulkAll {H : Type} : List (DataW H) → Nat
  | [] => 0
  | d :: r => uptoBulk d + uptoBulkAll r
def uptoBulkEntries {H : Type} : List (Lit × DataW H) → Nat
  | [] => 0
  | x :: r => uptoBulkEntry x + uptoBulkEntries r
def uptoBulkEntry {H : Type} : Lit × DataW H → Nat
  | (.string bytes, d) => bytes.length + uptoBulk d + 1
  | (_, d) => uptoBulk d + 1
 end
def uptoSmall : (H : Type) → List (DataW H) → Bool := fun _ ds => decide (uptoBulkAll ds ≤ 1048576)
def OpenSpec.upto (s : _root_.Go.ChangeSpec) : _root_.Go.OpenSpec := { _root_.Go.OpenSpec.ofChange s with cond := some uptoSmall }

/-- 'laws.FnHouses', WHERE WHAT IT READS IS OF BULK AT MOST 1048576: true; the input reads as it did. -/
def fnHousesUptoRow : OpenClaim := { program := "ytiklkfgapcooiaa", sum := "f6986dbe09ab2440078edca075579754972f9be66760c66efb87ff6c2950a25e", func := "loop.example/g00155/laws.FnHouses", spec := "fnHouses", unfollowed := true, recurses := true, apart := false, narrowed := true }
def FnHousesUptoSaid : Prop := fnHousesUptoRow.holds Try.pinned (OpenSpec.upto fnHousesSpec)

/-- 'laws.FnExactHouseFault', WHERE WHAT IT READS IS OF BULK AT MOST 1048576: true; the input reads as it did. -/
def fnExactHouseFaultUptoRow : OpenClaim := { program := "ytiklkfgapcooiaa", sum := "f6986dbe09ab2440078edca075579754972f9be66760c66efb87ff6c2950a25e", func := "loop.example/g00155/laws.FnExactHouseFault", spec := "fnExactHouseFault", apart := false, narrowed := true }
def FnExactHouseFaultUptoSaid : Prop := fnExactHouseFaultUptoRow.holds Try.pinned (OpenSpec.upto fnExactHouseFaultSpec)

/-- 'laws.FnExactLevelOf', WHERE WHAT IT READS IS OF BULK AT MOST 1048576: true; the input reads as it did. -/
def fnExactLevelOfUptoRow : OpenClaim := { program := "ytiklkfgapcooiaa", sum := "f6986dbe09ab2440078edca075579754972f9be66760c66efb87ff6c2950a25e", func := "loop.example/g00155/laws.FnExactLevelOf", spec := "fnExactLevelOf", apart := false, narrowed := true }
def FnExactLevelOfUptoSaid : Prop := fnExactLevelOfUptoRow.holds Try.pinned (OpenSpec.upto fnExactLevelOfSpec)

/-- 'laws.FnExactFloorAt', WHERE WHAT IT READS IS OF BULK AT MOST 1048576: true; the input reads as it did. -/
def fnExactFloorAtUptoRow : OpenClaim := { program := "ytiklkfgapcooiaa", sum := "f6986dbe09ab2440078edca075579754972f9be66760c66efb87ff6c2950a25e", func := "loop.example/g00155/laws.FnExactFloorAt", spec := "fnExactFloorAt", apart := false, narrowed := true }
def FnExactFloorAtUptoSaid : Prop := fnExactFloorAtUptoRow.holds Try.pinned (OpenSpec.upto fnExactFloorAtSpec)

/-- 'laws.FnExactLowEnd', WHERE WHAT IT READS IS OF BULK AT MOST 1048576: true; the input reads as it did. -/
def fnExactLowEndUptoRow : OpenClaim := { program := "ytiklkfgapcooiaa", sum := "f6986dbe09ab2440078edca075579754972f9be66760c66efb87ff6c2950a25e", func := "loop.example/g00155/laws.FnExactLowEnd", spec := "fnExactLowEnd", unfollowed := true, recurses := true, apart := false, narrowed := true }
def FnExactLowEndUptoSaid : Prop := fnExactLowEndUptoRow.holds Try.pinned (OpenSpec.upto fnExactLowEndSpec)

/-- 'laws.FnExactHighEnd', WHERE WHAT IT READS IS OF BULK AT MOST 1048576: true; the input reads as it did. -/
def fnExactHighEndUptoRow : OpenClaim := { program := "ytiklkfgapcooiaa", sum := "f6986dbe09ab2440078edca075579754972f9be66760c66efb87ff6c2950a25e", func := "loop.example/g00155/laws.FnExactHighEnd", spec := "fnExactHighEnd", unfollowed := true, recurses := true, apart := false, narrowed := true }
def FnExactHighEndUptoSaid : Prop := fnExactHighEndUptoRow.holds Try.pinned (OpenSpec.upto fnExactHighEndSpec)

end Rows
end Go.Proofs.Ytiklkfgapcooiaa
