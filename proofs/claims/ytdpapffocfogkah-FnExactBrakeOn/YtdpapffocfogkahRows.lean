/-
  No cell of these rows narrows 'for every input' (looked for: loops, veiled, ifaces, maps, wideKeys, modest, calm, conditions, laid).
  DERIVED. THE GIVEN ROWS OF THIS SEAT. 6 by the template 'for every input the law returns true; each argument reads behind the call as it read before'; 0 by the template 'total and deterministic' (their statements: YtdpapffocfogkahTotals.lean).
  GIVEN WITH THE SEED: the statements are not yours to turn. If you find one false, say at which input.
  Laid BY PROGRAM, IN A SANDBOX (cutbox-rows.mjs): the forced cells as the released guide's own fill.sh prints them over the translation 4099160299b5fbdc… (all of the seat's roots in one cut). By AI agents, Wed Nov 11 2026. No macro, syntax, notation, axiom, sorry.
-/
import Derived.Test.YtdpapffocfogkahChecked
import GoSem.Claim
import GoSem.ClaimJoined
import GoSem.ClaimMapViews
import Derived.JoinedTies
import Derived.KernelRfl
namespace Go.Proofs.Ytdpapffocfogkah
/- THE CELL 'sum', in the pinned program and in every row, IS THE sha256 OF THE DUMP (.gsa) THAT YtdpapffocfogkahProg.lean LOADS. Nothing in Lean hashes anything: it is a label: what it is worth is what the hold of that sum in a sandbox is worth. -/
noncomputable def Try.pinned : Pinned := { name := "ytdpapffocfogkah", sum := "4099160299b5fbdca80b09faded8af4cb18d6f28b633f9f3e5f33efed5d796b5", checked := Try.checked }
namespace Rows
def none {H : Type} : Left H := { results := [], args := [] }

/-- 'laws.FnExactStopPath': WHATEVER THE INPUT: true; the input reads as it did. -/
def fnExactStopPathSpec : ChangeSpec := { name := "fnExactStopPath", fn := fun _ => fun
  | [d1, d2] => { results := [.lit (.bool true)], args := [d1, d2] }
  | _ => none }
def fnExactStopPathRow : OpenClaim := { program := "ytdpapffocfogkah", sum := "4099160299b5fbdca80b09faded8af4cb18d6f28b633f9f3e5f33efed5d796b5", func := "loop.example/g00155/laws.FnExactStopPath", spec := "fnExactStopPath", apart := false }
def FnExactStopPathSaid : Prop := fnExactStopPathRow.holds Try.pinned (OpenSpec.ofChange fnExactStopPathSpec)

/-- ITS FALSE NEIGHBOUR: 'it returns false'. Refute it at one input. -/
def fnExactStopPathWrong : ChangeSpec := { name := "fnExactStopPath", fn := fun _ => fun
  | [d1, d2] => { results := [.lit (.bool false)], args := [d1, d2] }
  | _ => none }
def FnExactStopPathWrongFalsely : Prop := fnExactStopPathRow.holds Try.pinned (OpenSpec.ofChange fnExactStopPathWrong)

/-- 'laws.FnExactStopTicks': WHATEVER THE INPUT: true; the input reads as it did. -/
def fnExactStopTicksSpec : ChangeSpec := { name := "fnExactStopTicks", fn := fun _ => fun
  | [d1, d2] => { results := [.lit (.bool true)], args := [d1, d2] }
  | _ => none }
def fnExactStopTicksRow : OpenClaim := { program := "ytdpapffocfogkah", sum := "4099160299b5fbdca80b09faded8af4cb18d6f28b633f9f3e5f33efed5d796b5", func := "loop.example/g00155/laws.FnExactStopTicks", spec := "fnExactStopTicks", apart := false }
def FnExactStopTicksSaid : Prop := fnExactStopTicksRow.holds Try.pinned (OpenSpec.ofChange fnExactStopTicksSpec)

/-- ITS FALSE NEIGHBOUR: 'it returns false'. Refute it at one input. -/
def fnExactStopTicksWrong : ChangeSpec := { name := "fnExactStopTicks", fn := fun _ => fun
  | [d1, d2] => { results := [.lit (.bool false)], args := [d1, d2] }
  | _ => none }
def FnExactStopTicksWrongFalsely : Prop := fnExactStopTicksRow.holds Try.pinned (OpenSpec.ofChange fnExactStopTicksWrong)

/-- 'laws.FnExactStopBound': WHATEVER THE INPUT: true; the input reads as it did. -/
def fnExactStopBoundSpec : ChangeSpec := { name := "fnExactStopBound", fn := fun _ => fun
  | [d1, d2] => { results := [.lit (.bool true)], args := [d1, d2] }
  | _ => none }
def fnExactStopBoundRow : OpenClaim := { program := "ytdpapffocfogkah", sum := "4099160299b5fbdca80b09faded8af4cb18d6f28b633f9f3e5f33efed5d796b5", func := "loop.example/g00155/laws.FnExactStopBound", spec := "fnExactStopBound", apart := false }
def FnExactStopBoundSaid : Prop := fnExactStopBoundRow.holds Try.pinned (OpenSpec.ofChange fnExactStopBoundSpec)

/-- ITS FALSE NEIGHBOUR: 'it returns false'. Refute it at one input. -/
def fnExactStopBoundWrong : ChangeSpec := { name := "fnExactStopBound", fn := fun _ => fun
  | [d1, d2] => { results := [.lit (.bool false)], args := [d1, d2] }
  | _ => none }
def FnExactStopBoundWrongFalsely : Prop := fnExactStopBoundRow.holds Try.pinned (OpenSpec.ofChange fnExactStopBoundWrong)

/-- 'laws.FnExactMoveOn': WHATEVER THE INPUT: true; the input reads as it did. -/
def fnExactMoveOnSpec : ChangeSpec := { name := "fnExactMoveOn", fn := fun _ => fun
  | [d1, d2, d3] => { results := [.lit (.bool true)], args := [d1, d2, d3] }
  | _ => none }
def fnExactMoveOnRow : OpenClaim := { program := "ytdpapffocfogkah", sum := "4099160299b5fbdca80b09faded8af4cb18d6f28b633f9f3e5f33efed5d796b5", func := "loop.example/g00155/laws.FnExactMoveOn", spec := "fnExactMoveOn", apart := false }
def FnExactMoveOnSaid : Prop := fnExactMoveOnRow.holds Try.pinned (OpenSpec.ofChange fnExactMoveOnSpec)

/-- ITS FALSE NEIGHBOUR: 'it returns false'. Refute it at one input. -/
def fnExactMoveOnWrong : ChangeSpec := { name := "fnExactMoveOn", fn := fun _ => fun
  | [d1, d2, d3] => { results := [.lit (.bool false)], args := [d1, d2, d3] }
  | _ => none }
def FnExactMoveOnWrongFalsely : Prop := fnExactMoveOnRow.holds Try.pinned (OpenSpec.ofChange fnExactMoveOnWrong)

/-- 'laws.FnExactBrakeOn': WHATEVER THE INPUT: true; the input reads as it did. -/
def fnExactBrakeOnSpec : ChangeSpec := { name := "fnExactBrakeOn", fn := fun _ => fun
  | [d1, d2, d3] => { results := [.lit (.bool true)], args := [d1, d2, d3] }
  | _ => none }
def fnExactBrakeOnRow : OpenClaim := { program := "ytdpapffocfogkah", sum := "4099160299b5fbdca80b09faded8af4cb18d6f28b633f9f3e5f33efed5d796b5", func := "loop.example/g00155/laws.FnExactBrakeOn", spec := "fnExactBrakeOn", apart := false }
def FnExactBrakeOnSaid : Prop := fnExactBrakeOnRow.holds Try.pinned (OpenSpec.ofChange fnExactBrakeOnSpec)

/-- ITS FALSE NEIGHBOUR: 'it returns false'. Refute it at one input. -/
def fnExactBrakeOnWrong : ChangeSpec := { name := "fnExactBrakeOn", fn := fun _ => fun
  | [d1, d2, d3] => { results := [.lit (.bool false)], args := [d1, d2, d3] }
  | _ => none }
def FnExactBrakeOnWrongFalsely : Prop := fnExactBrakeOnRow.holds Try.pinned (OpenSpec.ofChange fnExactBrakeOnWrong)

/-- 'laws.FnExactSpeedFor': WHATEVER THE INPUT: true; the input reads as it did. -/
def fnExactSpeedForSpec : ChangeSpec := { name := "fnExactSpeedFor", fn := fun _ => fun
  | [d1, d2] => { results := [.lit (.bool true)], args := [d1, d2] }
  | _ => none }
def fnExactSpeedForRow : OpenClaim := { program := "ytdpapffocfogkah", sum := "4099160299b5fbdca80b09faded8af4cb18d6f28b633f9f3e5f33efed5d796b5", func := "loop.example/g00155/laws.FnExactSpeedFor", spec := "fnExactSpeedFor", unfollowed := true, recurses := true, apart := false }
def FnExactSpeedForSaid : Prop := fnExactSpeedForRow.holds Try.pinned (OpenSpec.ofChange fnExactSpeedForSpec)

/-- ITS FALSE NEIGHBOUR: 'it returns false'. Refute it at one input. -/
def fnExactSpeedForWrong : ChangeSpec := { name := "fnExactSpeedFor", fn := fun _ => fun
  | [d1, d2] => { results := [.lit (.bool false)], args := [d1, d2] }
  | _ => none }
def FnExactSpeedForWrongFalsely : Prop := fnExactSpeedForRow.holds Try.pinned (OpenSpec.ofChange fnExactSpeedForWrong)

/- THE SECOND FORM. 'bulk': how many values and letters a reading holds, each counted each time it is reached (what is shared counts as often as it is met; a slice's spare places count too). A statement '..UptoSaid' is the law's where the arguments, and the package variables that the reading takes, are together of bulk at most 1048576: NARROWER than '..Said'. Prove '..Said' where nothing that the law and all that it calls make is longer than what came in: it says more and counts as full. Else prove '..UptoSaid'. A law counts once. -/
mutual
def uptoBulk {H : Type} : DataW H → Nat
  | .lit (.string bytes) => bytes.length + 1
  | .lit _ => 1
  | .nil => 1
  | .ptr d => uptoBulk d + 1
  | .slice elems spare => uptoBulkAll elems + uptoBulkAll spare + 1
  | .agg parts => uptoBulkAll parts + 1
  | .iface _ d => uptoBulk d + 1
  | .map entries => uptoBulkEntries entries + 1
  | .held _ => 1
def uptoBulkAll {H : Type} : List (DataW H) → Nat
  | [] => 0
  | d :: r => uptoBulk d + uptoBulkAll r
def uptoBulkEntries {H : Type} : List (Lit × DataW H) → Nat
  | [] => 0
  | x :: r => uptoBulkEntry x + uptoBulkEntries r
def uptoBulkEntry {H : Type} : Lit × DataW H → Nat
  | (.string bytes, d) => bytes.length + uptoBulk d + 1
  | (_, d) => uptoBulk d + 1
 end
def uptoSmall : (H : Type) → List (DataW H) → Bool := fun _ ds => decide (uptoBulkAll ds ≤ 1048576)
def OpenSpec.upto (s : _root_.Go.ChangeSpec) : _root_.Go.OpenSpec := { _root_.Go.OpenSpec.ofChange s with cond := some uptoSmall }

/-- 'laws.FnExactStopPath', WHERE WHAT IT READS IS OF BULK AT MOST 1048576: true; the input reads as it did. -/
def fnExactStopPathUptoRow : OpenClaim := { program := "ytdpapffocfogkah", sum := "4099160299b5fbdca80b09faded8af4cb18d6f28b633f9f3e5f33efed5d796b5", func := "loop.example/g00155/laws.FnExactStopPath", spec := "fnExactStopPath", apart := false, narrowed := true }
def FnExactStopPathUptoSaid : Prop := fnExactStopPathUptoRow.holds Try.pinned (OpenSpec.upto fnExactStopPathSpec)

/-- 'laws.FnExactStopTicks', WHERE WHAT IT READS IS OF BULK AT MOST 1048576: true; the input reads as it did. -/
def fnExactStopTicksUptoRow : OpenClaim := { program := "ytdpapffocfogkah", sum := "4099160299b5fbdca80b09faded8af4cb18d6f28b633f9f3e5f33efed5d796b5", func := "loop.example/g00155/laws.FnExactStopTicks", spec := "fnExactStopTicks", apart := false, narrowed := true }
def FnExactStopTicksUptoSaid : Prop := fnExactStopTicksUptoRow.holds Try.pinned (OpenSpec.upto fnExactStopTicksSpec)

/-- 'laws.FnExactStopBound', WHERE WHAT IT READS IS OF BULK AT MOST 1048576: true; the input reads as it did. -/
def fnExactStopBoundUptoRow : OpenClaim := { program := "ytdpapffocfogkah", sum := "4099160299b5fbdca80b09faded8af4cb18d6f28b633f9f3e5f33efed5d796b5", func := "loop.example/g00155/laws.FnExactStopBound", spec := "fnExactStopBound", apart := false, narrowed := true }
def FnExactStopBoundUptoSaid : Prop := fnExactStopBoundUptoRow.holds Try.pinned (OpenSpec.upto fnExactStopBoundSpec)

/-- 'laws.FnExactMoveOn', WHERE WHAT IT READS IS OF BULK AT MOST 1048576: true; the input reads as it did. -/
def fnExactMoveOnUptoRow : OpenClaim := { program := "ytdpapffocfogkah", sum := "4099160299b5fbdca80b09faded8af4cb18d6f28b633f9f3e5f33efed5d796b5", func := "loop.example/g00155/laws.FnExactMoveOn", spec := "fnExactMoveOn", apart := false, narrowed := true }
def FnExactMoveOnUptoSaid : Prop := fnExactMoveOnUptoRow.holds Try.pinned (OpenSpec.upto fnExactMoveOnSpec)

/-- 'laws.FnExactBrakeOn', WHERE WHAT IT READS IS OF BULK AT MOST 1048576: true; the input reads as it did. -/
def fnExactBrakeOnUptoRow : OpenClaim := { program := "ytdpapffocfogkah", sum := "4099160299b5fbdca80b09faded8af4cb18d6f28b633f9f3e5f33efed5d796b5", func := "loop.example/g00155/laws.FnExactBrakeOn", spec := "fnExactBrakeOn", apart := false, narrowed := true }
def FnExactBrakeOnUptoSaid : Prop := fnExactBrakeOnUptoRow.holds Try.pinned (OpenSpec.upto fnExactBrakeOnSpec)

/-- 'laws.FnExactSpeedFor', WHERE WHAT IT READS IS OF BULK AT MOST 1048576: true; the input reads as it did. -/
def fnExactSpeedForUptoRow : OpenClaim := { program := "ytdpapffocfogkah", sum := "4099160299b5fbdca80b09faded8af4cb18d6f28b633f9f3e5f33efed5d796b5", func := "loop.example/g00155/laws.FnExactSpeedFor", spec := "fnExactSpeedFor", unfollowed := true, recurses := true, apart := false, narrowed := true }
def FnExactSpeedForUptoSaid : Prop := fnExactSpeedForUptoRow.holds Try.pinned (OpenSpec.upto fnExactSpeedForSpec)

end Rows
end Go.Proofs.Ytdpapffocfogkah
