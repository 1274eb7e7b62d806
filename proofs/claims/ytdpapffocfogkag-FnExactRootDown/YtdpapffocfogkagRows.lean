/-
  No cell of these rows narrows 'for every input' (looked for: loops, veiled, ifaces, maps, wideKeys, modest, calm, conditions, laid).
  DERIVED. THE GIVEN ROWS OF THIS SEAT. 4 by the template 'for every input the law returns true; each argument reads behind the call as it read before'; 0 by the template 'total and deterministic' (their statements: YtdpapffocfogkagTotals.lean).
  GIVEN WITH THE SEED: the statements are not yours to turn. If you find one false, say at which input.
  Laid BY PROGRAM, IN A SANDBOX (cutbox-rows.mjs): the forced cells as the released guide's own fill.sh prints them over the translation aca98fe4b1a50768… (all of the seat's roots in one cut). By AI agents, Wed Nov 11 2026. No macro, syntax, notation, axiom, sorry.
-/
import Derived.Test.YtdpapffocfogkagChecked
import GoSem.Claim
import GoSem.ClaimJoined
import GoSem.ClaimMapViews
import Derived.JoinedTies
import Derived.KernelRfl
namespace Go.Proofs.Ytdpapffocfogkag
/- THE CELL 'sum', in the pinned program and in every row, IS THE sha256 OF THE DUMP (.gsa) THAT YtdpapffocfogkagProg.lean LOADS. Nothing in Lean hashes anything: it is a label: what it is worth is what the hold of that sum in a sandbox is worth. -/
noncomputable def Try.pinned : Pinned := { name := "ytdpapffocfogkag", sum := "aca98fe4b1a50768d8a9f161ba43cfb3fd6f1b1d5db87471e4f4aee36037fee2", checked := Try.checked }
namespace Rows
def none {H : Type} : Left H := { results := [], args := [] }

/-- 'laws.FnExactAddTop': WHATEVER THE INPUT: true; the input reads as it did. -/
def fnExactAddTopSpec : ChangeSpec := { name := "fnExactAddTop", fn := fun _ => fun
  | [d1, d2] => { results := [.lit (.bool true)], args := [d1, d2] }
  | _ => none }
def fnExactAddTopRow : OpenClaim := { program := "ytdpapffocfogkag", sum := "aca98fe4b1a50768d8a9f161ba43cfb3fd6f1b1d5db87471e4f4aee36037fee2", func := "loop.example/g00155/laws.FnExactAddTop", spec := "fnExactAddTop", inPlace := ["math/bits.Add64"], apart := false }
def FnExactAddTopSaid : Prop := fnExactAddTopRow.holds Try.pinned (OpenSpec.ofChange fnExactAddTopSpec)

/-- ITS FALSE NEIGHBOUR: 'it returns false'. Refute it at one input. -/
def fnExactAddTopWrong : ChangeSpec := { name := "fnExactAddTop", fn := fun _ => fun
  | [d1, d2] => { results := [.lit (.bool false)], args := [d1, d2] }
  | _ => none }
def FnExactAddTopWrongFalsely : Prop := fnExactAddTopRow.holds Try.pinned (OpenSpec.ofChange fnExactAddTopWrong)

/-- 'laws.FnExactMulTop': WHATEVER THE INPUT: true; the input reads as it did. -/
def fnExactMulTopSpec : ChangeSpec := { name := "fnExactMulTop", fn := fun _ => fun
  | [d1, d2] => { results := [.lit (.bool true)], args := [d1, d2] }
  | _ => none }
def fnExactMulTopRow : OpenClaim := { program := "ytdpapffocfogkag", sum := "aca98fe4b1a50768d8a9f161ba43cfb3fd6f1b1d5db87471e4f4aee36037fee2", func := "loop.example/g00155/laws.FnExactMulTop", spec := "fnExactMulTop", apart := false }
def FnExactMulTopSaid : Prop := fnExactMulTopRow.holds Try.pinned (OpenSpec.ofChange fnExactMulTopSpec)

/-- ITS FALSE NEIGHBOUR: 'it returns false'. Refute it at one input. -/
def fnExactMulTopWrong : ChangeSpec := { name := "fnExactMulTop", fn := fun _ => fun
  | [d1, d2] => { results := [.lit (.bool false)], args := [d1, d2] }
  | _ => none }
def FnExactMulTopWrongFalsely : Prop := fnExactMulTopRow.holds Try.pinned (OpenSpec.ofChange fnExactMulTopWrong)

/-- 'laws.FnExactRoundUp': WHATEVER THE INPUT: true; the input reads as it did. -/
def fnExactRoundUpSpec : ChangeSpec := { name := "fnExactRoundUp", fn := fun _ => fun
  | [d1, d2] => { results := [.lit (.bool true)], args := [d1, d2] }
  | _ => none }
def fnExactRoundUpRow : OpenClaim := { program := "ytdpapffocfogkag", sum := "aca98fe4b1a50768d8a9f161ba43cfb3fd6f1b1d5db87471e4f4aee36037fee2", func := "loop.example/g00155/laws.FnExactRoundUp", spec := "fnExactRoundUp", apart := false }
def FnExactRoundUpSaid : Prop := fnExactRoundUpRow.holds Try.pinned (OpenSpec.ofChange fnExactRoundUpSpec)

/-- ITS FALSE NEIGHBOUR: 'it returns false'. Refute it at one input. -/
def fnExactRoundUpWrong : ChangeSpec := { name := "fnExactRoundUp", fn := fun _ => fun
  | [d1, d2] => { results := [.lit (.bool false)], args := [d1, d2] }
  | _ => none }
def FnExactRoundUpWrongFalsely : Prop := fnExactRoundUpRow.holds Try.pinned (OpenSpec.ofChange fnExactRoundUpWrong)

/-- 'laws.FnExactRootDown': WHATEVER THE INPUT: true; the input reads as it did. -/
def fnExactRootDownSpec : ChangeSpec := { name := "fnExactRootDown", fn := fun _ => fun
  | [d] => { results := [.lit (.bool true)], args := [d] }
  | _ => none }
def fnExactRootDownRow : OpenClaim := { program := "ytdpapffocfogkag", sum := "aca98fe4b1a50768d8a9f161ba43cfb3fd6f1b1d5db87471e4f4aee36037fee2", func := "loop.example/g00155/laws.FnExactRootDown", spec := "fnExactRootDown", unfollowed := true, recurses := true, apart := false }
def FnExactRootDownSaid : Prop := fnExactRootDownRow.holds Try.pinned (OpenSpec.ofChange fnExactRootDownSpec)

/-- ITS FALSE NEIGHBOUR: 'it returns false'. Refute it at one input. -/
def fnExactRootDownWrong : ChangeSpec := { name := "fnExactRootDown", fn := fun _ => fun
  | [d] => { results := [.lit (.bool false)], args := [d] }
  | _ => none }
def FnExactRootDownWrongFalsely : Prop := fnExactRootDownRow.holds Try.pinned (OpenSpec.ofChange fnExactRootDownWrong)

/- THE SECOND FORM. 'bulk': how many values and letters a reading holds, each counted each time it is reached (what is shared counts as often as it is met; a slice's spare places count too). A statement '..UptoSaid' is the law's where the arguments, and the package variables that the reading takes, are together of bulk at most 1048576: NARROWER than '..Said'. Prove '..Said' where nothing that the law and all that it calls make is longer than what came in: it says more and counts as full. Else prove '..UptoSaid'. A law counts once. -/
mutual
def uptoBulk {H : Type} : DataW H → Nat
  | .lit (.string bytes) => bytes.length + 1
  | .lit _ => 1
  | .nil => 1
  | .ptr d => uptoBulk d + 1
  | .slice elems spare => uptoBulkAll elems + uptoBulkAll spare + 1
  | .agg parts => uptoBulkAll parts + 1
  | .iface _ d => uptoBulk d + 1
  | .map entries => uptoBulkEntries entries + 1
  | .held _ => 1
def uptoBulkAll {H : Type} : List (DataW H) → Nat
  | [] => 0
  | d :: r => uptoBulk d + uptoBulkAll r
def uptoBulkEntries {H : Type} : List (Lit × DataW H) → Nat
  | [] => 0
  | x :: r => uptoBulkEntry x + uptoBulkEntries r
def uptoBulkEntry {H : Type} : Lit × DataW H → Nat
  | (.string bytes, d) => bytes.length + uptoBulk d + 1
  | (_, d) => uptoBulk d + 1
 end
def uptoSmall : (H : Type) → List (DataW H) → Bool := fun _ ds => decide (uptoBulkAll ds ≤ 1048576)
def OpenSpec.upto (s : _root_.Go.ChangeSpec) : _root_.Go.OpenSpec := { _root_.Go.OpenSpec.ofChange s with cond := some uptoSmall }

/-- 'laws.FnExactAddTop', WHERE WHAT IT READS IS OF BULK AT MOST 1048576: true; the input reads as it did. -/
def fnExactAddTopUptoRow : OpenClaim := { program := "ytdpapffocfogkag", sum := "aca98fe4b1a50768d8a9f161ba43cfb3fd6f1b1d5db87471e4f4aee36037fee2", func := "loop.example/g00155/laws.FnExactAddTop", spec := "fnExactAddTop", inPlace := ["math/bits.Add64"], apart := false, narrowed := true }
def FnExactAddTopUptoSaid : Prop := fnExactAddTopUptoRow.holds Try.pinned (OpenSpec.upto fnExactAddTopSpec)

/-- 'laws.FnExactMulTop', WHERE WHAT IT READS IS OF BULK AT MOST 1048576: true; the input reads as it did. -/
def fnExactMulTopUptoRow : OpenClaim := { program := "ytdpapffocfogkag", sum := "aca98fe4b1a50768d8a9f161ba43cfb3fd6f1b1d5db87471e4f4aee36037fee2", func := "loop.example/g00155/laws.FnExactMulTop", spec := "fnExactMulTop", apart := false, narrowed := true }
def FnExactMulTopUptoSaid : Prop := fnExactMulTopUptoRow.holds Try.pinned (OpenSpec.upto fnExactMulTopSpec)

/-- 'laws.FnExactRoundUp', WHERE WHAT IT READS IS OF BULK AT MOST 1048576: true; the input reads as it did. -/
def fnExactRoundUpUptoRow : OpenClaim := { program := "ytdpapffocfogkag", sum := "aca98fe4b1a50768d8a9f161ba43cfb3fd6f1b1d5db87471e4f4aee36037fee2", func := "loop.example/g00155/laws.FnExactRoundUp", spec := "fnExactRoundUp", apart := false, narrowed := true }
def FnExactRoundUpUptoSaid : Prop := fnExactRoundUpUptoRow.holds Try.pinned (OpenSpec.upto fnExactRoundUpSpec)

/-- 'laws.FnExactRootDown', WHERE WHAT IT READS IS OF BULK AT MOST 1048576: true; the input reads as it did. -/
def fnExactRootDownUptoRow : OpenClaim := { program := "ytdpapffocfogkag", sum := "aca98fe4b1a50768d8a9f161ba43cfb3fd6f1b1d5db87471e4f4aee36037fee2", func := "loop.example/g00155/laws.FnExactRootDown", spec := "fnExactRootDown", unfollowed := true, recurses := true, apart := false, narrowed := true }
def FnExactRootDownUptoSaid : Prop := fnExactRootDownUptoRow.holds Try.pinned (OpenSpec.upto fnExactRootDownSpec)

end Rows
end Go.Proofs.Ytdpapffocfogkag
