/-
  The base of what follows: plain numbers, cells, contracts of the smallest functions.
-/
import Derived.Test.YtdkikijnjkoddaaGreatGpB
/-
  A group that is quiet, in plain.
-/
namespace Go.Proofs.YtdkikijnjkoddaaGreat
open Go.RowKit Pl
set_option linter.unusedSimpArgs false
set_option linter.unusedVariables false

def doorB (d : Dk) : Bool := d.sh.lo.door == 0 && d.sh.up.door == 0
def used (ps : List Pe) : Int := (cnt 0 (-1) 0 ps : Int) + (cnt 1 (-1) 0 ps : Int)
def quietB (ds : List Dk) (ps : List Pe) : Bool := ds.all doorB && decide (used ps = 0)
def Gr.quiet (g : Gr) : Bool := decide (Gr.fault g = 0) && quietB g.ds g.led.ps
def Gr.bound (g : Gr) : Int × Int := if Gr.fault g = 0 then (0, (2 * used g.led.ps + 2) * g.h.serve) else (Gr.fault g, 0)
theorem Gr.fault_parts {g : Gr} (e : Gr.fault g = 0) : g.h.fault = 0 ∧ (1 ≤ (g.ds.length : Int) ∧ (g.ds.length : Int) ≤ 3) ∧ Hs.decks g.h g.ds = 0 ∧ Hs.led g.h g.led = 0 ∧ awayB g.ds.length g.led.ps = false ∧ 0 ≤ g.tk ∧ g.tk ≤ 1000000000000000 := by
  unfold Gr.fault at e
  split at e
  case isFalse c => exact absurd e c
  case isTrue c =>
    unfold Gr.faultC at e
    split at e
    case isFalse => cases e
    case isTrue c1 =>
      split at e
      case isFalse z => exact absurd e z
      case isTrue c2 =>
        split at e
        case isFalse z => exact absurd e z
        case isTrue c3 =>
          split at e
          case isTrue => cases e
          case isFalse c4 =>
            split at e
            case isFalse => cases e
            case isTrue c5 => exact ⟨c, inB_iff.1 c1, c2, c3, by simpa using c4, (inB_iff.1 c5).1, (inB_iff.1 c5).2⟩
end Go.Proofs.YtdkikijnjkoddaaGreat

/-
  To which car a call goes, in plain.
-/
namespace Go.Proofs.YtdkikijnjkoddaaGreat
open Go.RowKit Pl
set_option linter.unusedSimpArgs false
set_option linter.unusedVariables false

def busy (ps : List Pe) (sh ca : Int) : Int := (cnt 0 sh ca ps : Int) + (cnt 1 sh ca ps : Int)
def Hs.pref (h : Hs) (f t : Int) : Int := if f + t < h.fl then 0 else 1
/-- The best of the first n shafts of a car, and of what was best before. -/
def asgRow (ps : List Pe) (car : Int) (b : Int × Int) : Nat → Int × Int
  | 0 => b
  | n + 1 => if busy ps n car < busy ps (asgRow ps car b n).1 (asgRow ps car b n).2 then ((n : Int), car) else asgRow ps car b n
def asgK (ps : List Pe) (p : Int) (n : Nat) : Nat → Int × Int
  | 0 => (0, p)
  | 1 => asgRow ps p (0, p) n
  | _ => asgRow ps (1 - p) (asgRow ps p (0, p) n) n
def Gr.asg (g : Gr) (f t : Int) : Int × Int × Int := if Gr.fault g = 0 then (if Hs.call g.h f t = 0 then (0, asgK g.led.ps (Hs.pref g.h f t) g.ds.length 2) else (Hs.call g.h f t, 0, 0)) else (Gr.fault g, 0, 0)
theorem asgRow_bd (ps : List Pe) (car : Int) (b : Int × Int) (hb : 0 ≤ b.1) (n : Nat) : 0 ≤ (asgRow ps car b n).1 := by
  induction n with
  | zero => exact hb
  | succ n ih =>
    unfold asgRow
    split
    · show (0 : Int) ≤ (n : Int); omega
    · exact ih
theorem asgRow_next {ps : List Pe} {car : Int} {b : Int × Int} {n : Nat} {x y : Int} (h1 : (asgRow ps car b n).1 = x) (h2 : (asgRow ps car b n).2 = y) : asgRow ps car b (n + 1) = if busy ps n car < busy ps x y then ((n : Int), car) else (x, y) := by
  show (if busy ps n car < busy ps (asgRow ps car b n).1 (asgRow ps car b n).2 then ((n : Int), car) else asgRow ps car b n) = _
  rw [h1, h2]
  congr 1
  exact Prod.ext h1 h2
theorem busy_bd (ps : List Pe) (sh ca : Int) : 0 ≤ busy ps sh ca ∧ busy ps sh ca ≤ 2 * ps.length := by
  have a := List.countP_le_length (p := isIn 0 sh ca) (l := ps)
  have b := List.countP_le_length (p := isIn 1 sh ca) (l := ps)
  unfold busy cnt
  omega
def useB (sh ca : Int) (p : Pe) : Bool := (p.st == 0 && p.sh == sh && p.ca == ca) || (p.st == 1 && p.sh == sh && p.ca == ca)
theorem use_busy {sh ca : Int} (h0 : 0 ≤ sh) (ps : List Pe) : (ps.countP (useB sh ca) : Int) = busy ps sh ca := by
  unfold busy cnt
  induction ps with
  | nil => rfl
  | cons q l ih =>
    simp only [List.countP_cons]
    have e : (if useB sh ca q = true then 1 else 0) = (if isIn 0 sh ca q = true then 1 else 0) + (if isIn 1 sh ca q = true then 1 else 0) := by
      have n0 : ¬ sh < 0 := by omega
      unfold useB isIn
      by_cases a : q.st = 0 <;> by_cases b : q.st = 1 <;> by_cases c : q.sh = sh <;> by_cases d : q.ca = ca <;> simp [a, b, c, d, n0] <;> omega
    rw [e]
    omega
end Go.Proofs.YtdkikijnjkoddaaGreat
