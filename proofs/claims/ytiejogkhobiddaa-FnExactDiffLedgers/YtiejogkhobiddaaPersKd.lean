/-
  The model's ledger: who is next in a car.
-/
import Derived.Test.YtiejogkhobiddaaPersI
import Derived.Deep.RegionHeld3
import Derived.BigGuardPart
namespace Go.Proofs.Ytiejogkhobiddaa
open Go.RowKit Pl
set_option linter.unusedSimpArgs false
set_option linter.unusedVariables false

def act (p : Pe) : Bool := p.st == 0 || p.st == 1
def skipB (full : Bool) (sh ca : Int) (p : Pe) : Bool := ((p.sh != sh || p.ca != ca) || !act p) || (full && p.st != 1)
/-- Who is the first that isn't passed by: the id, and the floor. -/
def need (full : Bool) (sh ca : Int) : List Pe → Option (Int × Int)
  | [] => none
  | p :: l => if skipB full sh ca p = true then need full sh ca l else some (p.id, if p.st = 1 then p.tw else p.fr)
def needR (o : Option (Int × Int)) : Int × Int × Int := match o with | some (i, f) => (0, i, f) | none => (4, 0, 0)
def Hs.need (h : Hs) (l : List Pe) (sh ca : Int) : Int × Int × Int := needR (Go.Proofs.Ytiejogkhobiddaa.need (decide (h.ld ≤ (cnt 1 sh ca l : Int))) sh ca l)
theorem need_at {full : Bool} {sh ca : Int} {l : List Pe} {i : Nat} {p : Pe} (h : l[i]? = some p) : need full sh ca (l.drop i) = if skipB full sh ca p = true then need full sh ca (l.drop (i + 1)) else some (p.id, if p.st = 1 then p.tw else p.fr) := by
  have hi : i < l.length := (List.getElem?_eq_some_iff.1 h).1
  have e : l[i] = p := (List.getElem?_eq_some_iff.1 h).2
  rw [List.drop_eq_getElem_cons hi, e]
  rfl
end Go.Proofs.Ytiejogkhobiddaa
