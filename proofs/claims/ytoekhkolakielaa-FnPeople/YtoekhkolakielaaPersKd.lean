/-
  The model's ledger: who is next in a car.
-/
import Derived.Test.YtoekhkolakielaaPersI
import Derived.Deep.RegionHeld3
import Derived.BigGuardPart
namespace Go.Proofs.Ytoekhkolakielaa
open Go.RowKit Pl
set_option linter.unusedSimpArgs false
set_option linter.unusedVariables false

def act (p : Pe) : Bool := p.st == 0 || p.st == 1
def skipB (full : Bool) (sh ca : Int) (p : Pe) : Bool := ((p.sh != sh || p.ca != ca) || !act p) || (full && p.st != 1)
/-- Who is the first that isn't passed by: the id, and the floor. -/
def need (full : Bool) (sh ca : Int) : List Pe → Option (Int × Int)
  | [] => none
  | p :: l => if skipB full sh ca p = true then need full sh ca l else some (p.id, if p.st = 1 then p.tw else p.fr)
def needR (o : Option (Int × Int)) : Int × Int × Int := match o with | some (i, f) => (0, i, f) | none => (4, 0, 0)
def Hs.need (h : Hs) (l : List Pe) (sh ca : Int) : Int × Int × Int := needR (Go.Proofs.Ytoekhkolakielaa.need (decide (h.ld ≤ (cnt 1 sh ca l : Int))) sh ca l)
theorem need_at {full : Bool} {sh ca : Int} {l : List Pe} {i : Nat} {p : Pe} (h : l[i]? = some p) : need full sh ca (l.drop i) = if skipB full sh ca p = true then need full sh ca (l.drop (i + 1)) else some (p.id, if p.st = 1 then p.tw else p.fr) := by
  have hi : i < l.length := (List.getElem?_eq_some_iff.1 h).1
  have e : l[i] = p := (List.getElem?_eq_some_iff.1 h).2
  rw [List.drop_eq_getElem_cons hi, e]
  rfl
set_option maxRecDepth 20000 in
set_option maxHeartbeats 8000000 in
theorem l7Active_any (p : Pe) (w : World) :
    Calls Try.prog 67 #[.agg #[.int .i64 p.id, .int .i64 p.fr, .int .i64 p.tw, .int .i64 p.sh, .int .i64 p.ca, .int .i64 p.st, .int .i64 p.pl]] w fun e w' => e = .returned (.bool (act p)) ∧ Below w.heap.size w w' := by
  unfold act
  cases k : (p.st == 0)
  all_goals
    go_enter Try.func67, Try.ntmps67
    go_wp2
    go_ret
    exact ⟨ret_bool (by simp), by repeat (first | exact Below.refl _ _ | (refine Below.alloc ?_ ?_ _) | (refine Below.setCell ?_ ?_ _) | (simp; omega) | simp)⟩
end Go.Proofs.Ytoekhkolakielaa
