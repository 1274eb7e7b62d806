/-
  No cell of these rows narrows 'for every input' (looked for: loops, veiled, ifaces, maps, wideKeys, modest, calm, conditions, laid).
  DERIVED. THE GIVEN ROWS OF THIS SEAT. 5 by the template 'for every input the law returns true; each argument reads behind the call as it read before'; 0 by the template 'total and deterministic' (their statements: YtnpnlckdggakmaaTotals.lean).
  GIVEN WITH THE SEED: the statements are not yours to turn. If you find one false, say at which input.
  Laid BY PROGRAM, IN A SANDBOX (cutbox-rows.mjs): the forced cells as the released guide's own fill.sh prints them over the translation b3410c776da67b21… (all of the seat's roots in one cut). By AI agents, Wed Nov 11 2026. No macro, syntax, notation, axiom, sorry.
-/
import Derived.Test.YtnpnlckdggakmaaChecked
import GoSem.Claim
import GoSem.ClaimJoined
import GoSem.ClaimMapViews
import Derived.JoinedTies
import Derived.KernelRfl
namespace Go.Proofs.Ytnpnlckdggakmaa
/- THE CELL 'sum', in the pinned program and in every row, IS THE sha256 OF THE DUMP (.gsa) THAT YtnpnlckdggakmaaProg.lean LOADS. Nothing in Lean hashes anything: it is a label: what it is worth is what the hold of that sum in a sandbox is worth. -/
noncomputable def Try.pinned : Pinned := { name := "ytnpnlckdggakmaa", sum := "b3410c776da67b21d73981d758b5110bf9290119fd9f8e0ad24f11e8b3bbbb9f", checked := Try.checked }
namespace Rows
def none {H : Type} : Left H := { results := [], args := [] }

/-- 'laws.FnSplits': WHATEVER THE INPUT: true; the input reads as it did. -/
def fnSplitsSpec : ChangeSpec := { name := "fnSplits", fn := fun _ => fun
  | [d] => { results := [.lit (.bool true)], args := [d] }
  | _ => none }
def fnSplitsRow : OpenClaim := { program := "ytnpnlckdggakmaa", sum := "b3410c776da67b21d73981d758b5110bf9290119fd9f8e0ad24f11e8b3bbbb9f", func := "loop.example/g00155/laws.FnSplits", spec := "fnSplits", unfollowed := true, recurses := true, plainKeys := false, apart := false }
def FnSplitsSaid : Prop := fnSplitsRow.holds Try.pinned (OpenSpec.ofChange fnSplitsSpec)

/-- ITS FALSE NEIGHBOUR: 'it returns false'. Refute it at one input. -/
def fnSplitsWrong : ChangeSpec := { name := "fnSplits", fn := fun _ => fun
  | [d] => { results := [.lit (.bool false)], args := [d] }
  | _ => none }
def FnSplitsWrongFalsely : Prop := fnSplitsRow.holds Try.pinned (OpenSpec.ofChange fnSplitsWrong)

/-- 'laws.FnMeans': WHATEVER THE INPUT: true; the input reads as it did. -/
def fnMeansSpec : ChangeSpec := { name := "fnMeans", fn := fun _ => fun
  | [d] => { results := [.lit (.bool true)], args := [d] }
  | _ => none }
def fnMeansRow : OpenClaim := { program := "ytnpnlckdggakmaa", sum := "b3410c776da67b21d73981d758b5110bf9290119fd9f8e0ad24f11e8b3bbbb9f", func := "loop.example/g00155/laws.FnMeans", spec := "fnMeans", plainKeys := false, apart := false }
def FnMeansSaid : Prop := fnMeansRow.holds Try.pinned (OpenSpec.ofChange fnMeansSpec)

/-- ITS FALSE NEIGHBOUR: 'it returns false'. Refute it at one input. -/
def fnMeansWrong : ChangeSpec := { name := "fnMeans", fn := fun _ => fun
  | [d] => { results := [.lit (.bool false)], args := [d] }
  | _ => none }
def FnMeansWrongFalsely : Prop := fnMeansRow.holds Try.pinned (OpenSpec.ofChange fnMeansWrong)

/-- 'laws.FnExactCoverZones': WHATEVER THE INPUT: true; the input reads as it did. -/
def fnExactCoverZonesSpec : ChangeSpec := { name := "fnExactCoverZones", fn := fun _ => fun
  | [d1, d2] => { results := [.lit (.bool true)], args := [d1, d2] }
  | _ => none }
def fnExactCoverZonesRow : OpenClaim := { program := "ytnpnlckdggakmaa", sum := "b3410c776da67b21d73981d758b5110bf9290119fd9f8e0ad24f11e8b3bbbb9f", func := "loop.example/g00155/laws.FnExactCoverZones", spec := "fnExactCoverZones", unfollowed := true, recurses := true, plainKeys := false, apart := false }
def FnExactCoverZonesSaid : Prop := fnExactCoverZonesRow.holds Try.pinned (OpenSpec.ofChange fnExactCoverZonesSpec)

/-- ITS FALSE NEIGHBOUR: 'it returns false'. Refute it at one input. -/
def fnExactCoverZonesWrong : ChangeSpec := { name := "fnExactCoverZones", fn := fun _ => fun
  | [d1, d2] => { results := [.lit (.bool false)], args := [d1, d2] }
  | _ => none }
def FnExactCoverZonesWrongFalsely : Prop := fnExactCoverZonesRow.holds Try.pinned (OpenSpec.ofChange fnExactCoverZonesWrong)

/-- 'laws.FnExactSharedFloors': WHATEVER THE INPUT: true; the input reads as it did. -/
def fnExactSharedFloorsSpec : ChangeSpec := { name := "fnExactSharedFloors", fn := fun _ => fun
  | [d1, d2] => { results := [.lit (.bool true)], args := [d1, d2] }
  | _ => none }
def fnExactSharedFloorsRow : OpenClaim := { program := "ytnpnlckdggakmaa", sum := "b3410c776da67b21d73981d758b5110bf9290119fd9f8e0ad24f11e8b3bbbb9f", func := "loop.example/g00155/laws.FnExactSharedFloors", spec := "fnExactSharedFloors", unfollowed := true, recurses := true, plainKeys := false, apart := false }
def FnExactSharedFloorsSaid : Prop := fnExactSharedFloorsRow.holds Try.pinned (OpenSpec.ofChange fnExactSharedFloorsSpec)

/-- ITS FALSE NEIGHBOUR: 'it returns false'. Refute it at one input. -/
def fnExactSharedFloorsWrong : ChangeSpec := { name := "fnExactSharedFloors", fn := fun _ => fun
  | [d1, d2] => { results := [.lit (.bool false)], args := [d1, d2] }
  | _ => none }
def FnExactSharedFloorsWrongFalsely : Prop := fnExactSharedFloorsRow.holds Try.pinned (OpenSpec.ofChange fnExactSharedFloorsWrong)

/-- 'laws.FnExactPairsLost': WHATEVER THE INPUT: true; the input reads as it did. -/
def fnExactPairsLostSpec : ChangeSpec := { name := "fnExactPairsLost", fn := fun _ => fun
  | [d1, d2] => { results := [.lit (.bool true)], args := [d1, d2] }
  | _ => none }
def fnExactPairsLostRow : OpenClaim := { program := "ytnpnlckdggakmaa", sum := "b3410c776da67b21d73981d758b5110bf9290119fd9f8e0ad24f11e8b3bbbb9f", func := "loop.example/g00155/laws.FnExactPairsLost", spec := "fnExactPairsLost", plainKeys := false, apart := false }
def FnExactPairsLostSaid : Prop := fnExactPairsLostRow.holds Try.pinned (OpenSpec.ofChange fnExactPairsLostSpec)

/-- ITS FALSE NEIGHBOUR: 'it returns false'. Refute it at one input. -/
def fnExactPairsLostWrong : ChangeSpec := { name := "fnExactPairsLost", fn := fun _ => fun
  | [d1, d2] => { results := [.lit (.bool false)], args := [d1, d2] }
  | _ => none }
def FnExactPairsLostWrongFalsely : Prop := fnExactPairsLostRow.holds Try.pinned (OpenSpec.ofChange fnExactPairsLostWrong)

/- THE SECOND FORM. 'bulk': how many values and letters a reading holds, each counted each time it is reached (what is shared counts as often as it is met; a slice's spare places count too). A statement '..UptoSaid' is the law's where the arguments, and the package variables that the reading takes, are together of bulk at most 1048576: NARROWER than '..Said'. Prove '..Said' where nothing that the law and all that it calls make is longer than what came in: it says more and counts as full. Else prove '..UptoSaid'. A law counts once. -/
mutual
def uptoBulk {H : Type} : DataW H → Nat
  | .lit (.string bytes) => bytes.length + 1
  | .lit _ => 1
  | .nil => 1
  | .ptr d => uptoBulk d + 1
  | .slice elems spare => uptoBulkAll elems + uptoBulkAll spare + 1
  | .agg parts => uptoBulkAll parts + 1
  | .iface _ d => uptoBulk d + 1
  | .map entries => uptoBulkEntries entries + 1
  | .held _ => 1
def uptoBulkAll {H : Type} : List (DataW H) → Nat
  | [] => 0
  | d :: r => uptoBulk d + uptoBulkAll r
def uptoBulkEntries {H : Type} : List (Lit × DataW H) → Nat
  | [] => 0
  | x :: r => uptoBulkEntry x + uptoBulkEntries r
def uptoBulkEntry {H : Type} : Lit × DataW H → Nat
  | (.string bytes, d) => bytes.length + uptoBulk d + 1
  | (_, d) => uptoBulk d + 1
 end
def uptoSmall : (H : Type) → List (DataW H) → Bool := fun _ ds => decide (uptoBulkAll ds ≤ 1048576)
def OpenSpec.upto (s : _root_.Go.ChangeSpec) : _root_.Go.OpenSpec := { _root_.Go.OpenSpec.ofChange s with cond := some uptoSmall }

/-- 'laws.FnSplits', WHERE WHAT IT READS IS OF BULK AT MOST 1048576: true; the input reads as it did. -/
def fnSplitsUptoRow : OpenClaim := { program := "ytnpnlckdggakmaa", sum := "b3410c776da67b21d73981d758b5110bf9290119fd9f8e0ad24f11e8b3bbbb9f", func := "loop.example/g00155/laws.FnSplits", spec := "fnSplits", unfollowed := true, recurses := true, plainKeys := false, apart := false, narrowed := true }
def FnSplitsUptoSaid : Prop := fnSplitsUptoRow.holds Try.pinned (OpenSpec.upto fnSplitsSpec)

/-- 'laws.FnMeans', WHERE WHAT IT READS IS OF BULK AT MOST 1048576: true; the input reads as it did. -/
def fnMeansUptoRow : OpenClaim := { program := "ytnpnlckdggakmaa", sum := "b3410c776da67b21d73981d758b5110bf9290119fd9f8e0ad24f11e8b3bbbb9f", func := "loop.example/g00155/laws.FnMeans", spec := "fnMeans", plainKeys := false, apart := false, narrowed := true }
def FnMeansUptoSaid : Prop := fnMeansUptoRow.holds Try.pinned (OpenSpec.upto fnMeansSpec)

/-- 'laws.FnExactCoverZones', WHERE WHAT IT READS IS OF BULK AT MOST 1048576: true; the input reads as it did. -/
def fnExactCoverZonesUptoRow : OpenClaim := { program := "ytnpnlckdggakmaa", sum := "b3410c776da67b21d73981d758b5110bf9290119fd9f8e0ad24f11e8b3bbbb9f", func := "loop.example/g00155/laws.FnExactCoverZones", spec := "fnExactCoverZones", unfollowed := true, recurses := true, plainKeys := false, apart := false, narrowed := true }
def FnExactCoverZonesUptoSaid : Prop := fnExactCoverZonesUptoRow.holds Try.pinned (OpenSpec.upto fnExactCoverZonesSpec)

/-- 'laws.FnExactSharedFloors', WHERE WHAT IT READS IS OF BULK AT MOST 1048576: true; the input reads as it did. -/
def fnExactSharedFloorsUptoRow : OpenClaim := { program := "ytnpnlckdggakmaa", sum := "b3410c776da67b21d73981d758b5110bf9290119fd9f8e0ad24f11e8b3bbbb9f", func := "loop.example/g00155/laws.FnExactSharedFloors", spec := "fnExactSharedFloors", unfollowed := true, recurses := true, plainKeys := false, apart := false, narrowed := true }
def FnExactSharedFloorsUptoSaid : Prop := fnExactSharedFloorsUptoRow.holds Try.pinned (OpenSpec.upto fnExactSharedFloorsSpec)

/-- 'laws.FnExactPairsLost', WHERE WHAT IT READS IS OF BULK AT MOST 1048576: true; the input reads as it did. -/
def fnExactPairsLostUptoRow : OpenClaim := { program := "ytnpnlckdggakmaa", sum := "b3410c776da67b21d73981d758b5110bf9290119fd9f8e0ad24f11e8b3bbbb9f", func := "loop.example/g00155/laws.FnExactPairsLost", spec := "fnExactPairsLost", plainKeys := false, apart := false, narrowed := true }
def FnExactPairsLostUptoSaid : Prop := fnExactPairsLostUptoRow.holds Try.pinned (OpenSpec.upto fnExactPairsLostSpec)

end Rows
end Go.Proofs.Ytnpnlckdggakmaa
