/-
  DERIVED. GIVEN WITH THE SEED: THE CARDS: each row of YtoacnglcneliiaaGreatDoorRows.lean that lists a variable, with what it lists TIED to the program's text (the seventh form; the later family's looks); each row that meets fmt, with fmt's text TOLD by the authors' own Lean function (tested against real Go, not proved from fmt's source: count such statements apart). THE CARD IS WHAT COUNTS. Prove the row's statement (the work); the ties are given (YtoacnglcneliiaaGreatDoorTie.lean); close each card by the builder's one call (the guide's Derived/Test/ToyasCard.lean, 'card_holds'). Laid BY PROGRAM, IN A SANDBOX (cutbox-door.mjs). By AI agents, Wed Nov 11 2026. No macro, syntax, notation, axiom, sorry.
-/
import Derived.Test.YtoacnglcneliiaaGreatDoorRows
import GoSem.ClaimSeven
namespace Go.Proofs.YtoacnglcneliiaaGreatDoor
namespace Rows

/-- THE TIED CARD OF 'laws.FnEventTexts'. -/
def fnEventTextsCard : Claim7 := { stood := { row := fnEventTextsRow, standIns := [], harness := (true, "65ec5ca75ea56e5b2212d2b2551175566de77a56b3004e0677938ef4bb61efa6"), looks := true }, kinds := [], alts := [], laidByText := true, laidKinds := [.data, .data, .data, .data, .handle, .sentinel, .sentinel, .sentinel, .pinned], laidTests := true, laidLooks := .later }
def FnEventTextsCardSaid : Prop := Claim7.holds Tryz.pinned (.plain (OpenSpec.ofChange fnEventTextsSpec)) fnEventTextsCard

/-- THE SECOND FORM's CARD OF 'laws.FnEventTexts'. -/
def fnEventTextsUptoCard : Claim7 := { stood := { row := fnEventTextsUptoRow, standIns := [], harness := (true, "65ec5ca75ea56e5b2212d2b2551175566de77a56b3004e0677938ef4bb61efa6"), looks := true }, kinds := [], alts := [], laidByText := true, laidKinds := [.data, .data, .data, .data, .handle, .sentinel, .sentinel, .sentinel, .pinned], laidTests := true, laidLooks := .later }
def FnEventTextsUptoCardSaid : Prop := Claim7.holds Tryz.pinned (.plain (OpenSpec.upto fnEventTextsSpec)) fnEventTextsUptoCard
end Rows
end Go.Proofs.YtoacnglcneliiaaGreatDoor
