/-
  A group that is quiet, in plain.
-/
import Derived.Test.YtnfdplfifpmhoaaGreatDoorGrp
namespace Go.Proofs.YtnfdplfifpmhoaaGreatDoor
open Go.RowKit Pl
set_option linter.unusedSimpArgs false
set_option linter.unusedVariables false

def doorB (d : Dk) : Bool := d.sh.lo.door == 0 && d.sh.up.door == 0
def used (ps : List Pe) : Int := (cnt 0 (-1) 0 ps : Int) + (cnt 1 (-1) 0 ps : Int)
def quietB (ds : List Dk) (ps : List Pe) : Bool := ds.all doorB && decide (used ps = 0)
def Gr.quiet (g : Gr) : Bool := decide (Gr.fault g = 0) && quietB g.ds g.led.ps
def Gr.bound (g : Gr) : Int × Int := if Gr.fault g = 0 then (0, (2 * used g.led.ps + 2) * g.h.serve) else (Gr.fault g, 0)
theorem used_bd (ps : List Pe) : 0 ≤ used ps ∧ used ps ≤ 2 * ps.length := by
  have a := List.countP_le_length (p := isIn 0 (-1) 0) (l := ps)
  have b := List.countP_le_length (p := isIn 1 (-1) 0) (l := ps)
  unfold used cnt
  omega
theorem quiet_door {ds : List Dk} {ps : List Pe} {i : Nat} {d : Dk} (hd : ds[i]? = some d) (h : doorB d = false) : quietB ds ps = false := by
  unfold quietB
  have : ds.all doorB = false := by
    rw [List.all_eq_false]
    exact ⟨d, List.mem_of_getElem? hd, by simp [h]⟩
  rw [this]
  rfl
theorem quiet_all {ds : List Dk} {ps : List Pe} (h : ∀ (j : Nat) d, j < ds.length → ds[j]? = some d → doorB d = true) : quietB ds ps = decide (used ps = 0) := by
  unfold quietB
  have : ds.all doorB = true := by
    rw [List.all_eq_true]
    intro d hd
    obtain ⟨j, hj⟩ := List.getElem?_of_mem hd
    exact h j d (List.getElem?_eq_some_iff.1 hj).1 hj
  rw [this]
  rfl
theorem Gr.fault_parts {g : Gr} (e : Gr.fault g = 0) : g.h.fault = 0 ∧ (1 ≤ (g.ds.length : Int) ∧ (g.ds.length : Int) ≤ 3) ∧ Hs.decks g.h g.ds = 0 ∧ Hs.led g.h g.led = 0 ∧ awayB g.ds.length g.led.ps = false ∧ 0 ≤ g.tk ∧ g.tk ≤ 1000000000000000 := by
  unfold Gr.fault at e
  split at e
  case isFalse c => exact absurd e c
  case isTrue c =>
    unfold Gr.faultC at e
    split at e
    case isFalse => cases e
    case isTrue c1 =>
      split at e
      case isFalse z => exact absurd e z
      case isTrue c2 =>
        split at e
        case isFalse z => exact absurd e z
        case isTrue c3 =>
          split at e
          case isTrue => cases e
          case isFalse c4 =>
            split at e
            case isFalse => cases e
            case isTrue c5 => exact ⟨c, inB_iff.1 c1, c2, c3, by simpa using c4, (inB_iff.1 c5).1, (inB_iff.1 c5).2⟩
end Go.Proofs.YtnfdplfifpmhoaaGreatDoor
