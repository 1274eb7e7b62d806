/-
  To which car a call goes, in plain.
-/
import Derived.Test.YtehdgifinanbbaaQuP
namespace Go.Proofs.Ytehdgifinanbbaa
open Go.RowKit Pl
set_option linter.unusedSimpArgs false
set_option linter.unusedVariables false

def busy (ps : List Pe) (sh ca : Int) : Int := (cnt 0 sh ca ps : Int) + (cnt 1 sh ca ps : Int)
def Hs.pref (h : Hs) (f t : Int) : Int := if f + t < h.fl then 0 else 1
/-- The best of the first n shafts of a car, and of what was best before. -/
def asgRow (ps : List Pe) (car : Int) (b : Int × Int) : Nat → Int × Int
  | 0 => b
  | n + 1 => if busy ps n car < busy ps (asgRow ps car b n).1 (asgRow ps car b n).2 then ((n : Int), car) else asgRow ps car b n
def asgK (ps : List Pe) (p : Int) (n : Nat) : Nat → Int × Int
  | 0 => (0, p)
  | 1 => asgRow ps p (0, p) n
  | _ => asgRow ps (1 - p) (asgRow ps p (0, p) n) n
def Gr.asg (g : Gr) (f t : Int) : Int × Int × Int := if Gr.fault g = 0 then (if Hs.call g.h f t = 0 then (0, asgK g.led.ps (Hs.pref g.h f t) g.ds.length 2) else (Hs.call g.h f t, 0, 0)) else (Gr.fault g, 0, 0)
theorem asgRow_bd (ps : List Pe) (car : Int) (b : Int × Int) (hb : 0 ≤ b.1) (n : Nat) : 0 ≤ (asgRow ps car b n).1 := by
  induction n with
  | zero => exact hb
  | succ n ih =>
    unfold asgRow
    split
    · show (0 : Int) ≤ (n : Int); omega
    · exact ih
theorem asgRow_next {ps : List Pe} {car : Int} {b : Int × Int} {n : Nat} {x y : Int} (h1 : (asgRow ps car b n).1 = x) (h2 : (asgRow ps car b n).2 = y) : asgRow ps car b (n + 1) = if busy ps n car < busy ps x y then ((n : Int), car) else (x, y) := by
  show (if busy ps n car < busy ps (asgRow ps car b n).1 (asgRow ps car b n).2 then ((n : Int), car) else asgRow ps car b n) = _
  rw [h1, h2]
  congr 1
  exact Prod.ext h1 h2
theorem busy_bd (ps : List Pe) (sh ca : Int) : 0 ≤ busy ps sh ca ∧ busy ps sh ca ≤ 2 * ps.length := by
  have a := List.countP_le_length (p := isIn 0 sh ca) (l := ps)
  have b := List.countP_le_length (p := isIn 1 sh ca) (l := ps)
  unfold busy cnt
  omega
def useB (sh ca : Int) (p : Pe) : Bool := (p.st == 0 && p.sh == sh && p.ca == ca) || (p.st == 1 && p.sh == sh && p.ca == ca)
theorem use_busy {sh ca : Int} (h0 : 0 ≤ sh) (ps : List Pe) : (ps.countP (useB sh ca) : Int) = busy ps sh ca := by
  unfold busy cnt
  induction ps with
  | nil => rfl
  | cons q l ih =>
    simp only [List.countP_cons]
    have e : (if useB sh ca q = true then 1 else 0) = (if isIn 0 sh ca q = true then 1 else 0) + (if isIn 1 sh ca q = true then 1 else 0) := by
      have n0 : ¬ sh < 0 := by omega
      unfold useB isIn
      by_cases a : q.st = 0 <;> by_cases b : q.st = 1 <;> by_cases c : q.sh = sh <;> by_cases d : q.ca = ca <;> simp [a, b, c, d, n0] <;> omega
    rw [e]
    omega
end Go.Proofs.Ytehdgifinanbbaa
