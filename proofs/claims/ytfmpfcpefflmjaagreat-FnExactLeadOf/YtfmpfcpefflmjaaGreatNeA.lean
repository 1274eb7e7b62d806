/-
  The base of what follows: plain numbers, cells, contracts of the smallest functions.
-/
import Derived.Test.YtfmpfcpefflmjaaGreatGrp
import Derived.Test.YtfmpfcpefflmjaaGreatPdf
/-
  A group that is quiet, in plain.
-/
namespace Go.Proofs.YtfmpfcpefflmjaaGreat
open Go.RowKit Pl
set_option linter.unusedSimpArgs false
set_option linter.unusedVariables false

def doorB (d : Dk) : Bool := d.sh.lo.door == 0 && d.sh.up.door == 0
def used (ps : List Pe) : Int := (cnt 0 (-1) 0 ps : Int) + (cnt 1 (-1) 0 ps : Int)
def quietB (ds : List Dk) (ps : List Pe) : Bool := ds.all doorB && decide (used ps = 0)
def Gr.quiet (g : Gr) : Bool := decide (Gr.fault g = 0) && quietB g.ds g.led.ps
def Gr.bound (g : Gr) : Int × Int := if Gr.fault g = 0 then (0, (2 * used g.led.ps + 2) * g.h.serve) else (Gr.fault g, 0)
theorem used_bd (ps : List Pe) : 0 ≤ used ps ∧ used ps ≤ 2 * ps.length := by
  have a := List.countP_le_length (p := isIn 0 (-1) 0) (l := ps)
  have b := List.countP_le_length (p := isIn 1 (-1) 0) (l := ps)
  unfold used cnt
  omega
theorem quiet_door {ds : List Dk} {ps : List Pe} {i : Nat} {d : Dk} (hd : ds[i]? = some d) (h : doorB d = false) : quietB ds ps = false := by
  unfold quietB
  have : ds.all doorB = false := by
    rw [List.all_eq_false]
    exact ⟨d, List.mem_of_getElem? hd, by simp [h]⟩
  rw [this]
  rfl
theorem quiet_all {ds : List Dk} {ps : List Pe} (h : ∀ (j : Nat) d, j < ds.length → ds[j]? = some d → doorB d = true) : quietB ds ps = decide (used ps = 0) := by
  unfold quietB
  have : ds.all doorB = true := by
    rw [List.all_eq_true]
    intro d hd
    obtain ⟨j, hj⟩ := List.getElem?_of_mem hd
    exact h j d (List.getElem?_eq_some_iff.1 hj).1 hj
  rw [this]
  rfl
theorem Gr.fault_parts {g : Gr} (e : Gr.fault g = 0) : g.h.fault = 0 ∧ (1 ≤ (g.ds.length : Int) ∧ (g.ds.length : Int) ≤ 3) ∧ Hs.decks g.h g.ds = 0 ∧ Hs.led g.h g.led = 0 ∧ awayB g.ds.length g.led.ps = false ∧ 0 ≤ g.tk ∧ g.tk ≤ 1000000000000000 := by
  unfold Gr.fault at e
  split at e
  case isFalse c => exact absurd e c
  case isTrue c =>
    unfold Gr.faultC at e
    split at e
    case isFalse => cases e
    case isTrue c1 =>
      split at e
      case isFalse z => exact absurd e z
      case isTrue c2 =>
        split at e
        case isFalse z => exact absurd e z
        case isTrue c3 =>
          split at e
          case isTrue => cases e
          case isFalse c4 =>
            split at e
            case isFalse => cases e
            case isTrue c5 => exact ⟨c, inB_iff.1 c1, c2, c3, by simpa using c4, (inB_iff.1 c5).1, (inB_iff.1 c5).2⟩
end Go.Proofs.YtfmpfcpefflmjaaGreat

/-
  What is needed in a car, and who leads, in plain.
-/
namespace Go.Proofs.YtfmpfcpefflmjaaGreat
open Go.RowKit Pl
set_option linter.unusedSimpArgs false
set_option linter.unusedVariables false

def floor8 (h : Hs) (c : Cs) : Int := max 0 (min (h.fl - 1) (Hs.at6 h c.pos))
def carAt (s : Sh) (ca : Int) : Cs := if ca = 0 then s.lo else s.up
def ridB (sh ca : Int) (p : Pe) : Bool := p.sh == sh && (p.ca == ca && p.st == 1)
def rec8 (h : Hs) (ps : List Pe) (s : Sh) (sh ca : Int) : Int × Int × Int := match ps.find? (ridB sh ca) with | some p => (0, p.id, floor8 h (carAt s ca)) | none => (4, 0, 0)
def shOf (ds : List Dk) (sh : Int) : Sh := match ds[sh.toNat]? with | some d => d.sh | none => ⟨⟨0, 0, 0⟩, ⟨0, 0, 0⟩⟩
def need8 (h : Hs) (ds : List Dk) (ps : List Pe) (rc : Bool) (sh ca : Int) : Int × Int × Int := if rc = true then rec8 h ps (shOf ds sh) sh ca else Hs.need h ps sh ca
def lead8 (a b : Int × Int × Int) : Int := if a.1 ≠ 0 ∧ b.1 ≠ 0 then -1 else if b.1 ≠ 0 ∨ (a.1 = 0 ∧ a.2.1 < b.2.1) then 0 else 1
def Gr.needIn (g : Gr) (sh ca : Int) : Int × Int × Int := if Gr.fault g = 0 then (if inB sh 0 ((g.ds.length : Int) - 1) = true ∧ inB ca 0 1 = true then need8 g.h g.ds g.led.ps g.rc sh ca else (3, 0, 0)) else (Gr.fault g, 0, 0)
def Gr.leadOf (g : Gr) (sh : Int) : Int × Int × Int := if Gr.fault g = 0 then (if inB sh 0 ((g.ds.length : Int) - 1) = true then (if lead8 (need8 g.h g.ds g.led.ps g.rc sh 0) (need8 g.h g.ds g.led.ps g.rc sh 1) < 0 then (4, 0, 0) else (0, sh, lead8 (need8 g.h g.ds g.led.ps g.rc sh 0) (need8 g.h g.ds g.led.ps g.rc sh 1))) else (3, 0, 0)) else (Gr.fault g, 0, 0)
theorem rec_hit {h : Hs} {ps : List Pe} {s : Sh} {sh ca : Int} {i : Nat} {p : Pe} (hp : ps[i]? = some p) (hb : ridB sh ca p = true) (ok : ∀ (j : Nat) q, j < i → ps[j]? = some q → ridB sh ca q = false) : rec8 h ps s sh ca = (0, p.id, floor8 h (carAt s ca)) := by
  have : ps.find? (ridB sh ca) = some p := by
    induction ps generalizing i with
    | nil => simp at hp
    | cons q l ih =>
      cases i with
      | zero =>
        simp at hp
        subst hp
        simp [List.find?_cons, hb]
      | succ i =>
        have h0 := ok 0 q (by omega) (by simp)
        rw [List.find?_cons, h0]
        exact ih (by simpa using hp) (fun j r hj hr => ok (j + 1) r (by omega) (by simpa using hr))
  unfold rec8
  rw [this]
theorem rec_none {h : Hs} {ps : List Pe} {s : Sh} {sh ca : Int} (ok : ∀ (j : Nat) q, j < ps.length → ps[j]? = some q → ridB sh ca q = false) : rec8 h ps s sh ca = (4, 0, 0) := by
  have : ps.find? (ridB sh ca) = none := by
    rw [List.find?_eq_none]
    intro q hq
    obtain ⟨j, hj⟩ := List.getElem?_of_mem hq
    have := ok j q (List.getElem?_eq_some_iff.1 hj).1 hj
    simp [this]
  unfold rec8
  rw [this]
end Go.Proofs.YtfmpfcpefflmjaaGreat
