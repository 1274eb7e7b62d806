/-
  Ledgers, in plain: what is asked of a call, of a person, of a ledger.
-/
import Derived.Test.YtehdgifinanbbaaFnd
namespace Go.Proofs.Ytehdgifinanbbaa
open Go.RowKit Pl
set_option linter.unusedSimpArgs false
set_option linter.unusedVariables false

def Hs.callC (h : Hs) (f t : Int) : Int := if inB f 0 (h.fl - 1) = true ∧ inB t 0 (h.fl - 1) = true then (if f = t then 1 else 0) else 3
def Hs.call (h : Hs) (f t : Int) : Int := if h.fault = 0 then Hs.callC h f t else h.fault
def badAt (p : Pe) : Bool := ((p.pl != 0 && p.st != 2) && p.st != 3) || (p.st == 2 && p.pl != p.tw)
def inP (h : Hs) (p : Pe) : Bool := inB p.sh 0 2 && (inB p.ca 0 1 && (inB p.st 0 4 && inB p.pl 0 (h.fl - 1)))
/-- What is asked of a person, behind one of the id last. -/
def Hs.persC (h : Hs) (p : Pe) : Int := if Hs.callC h p.fr p.tw = 0 then (if inP h p = true then (if badAt p = true then 1 else 0) else 3) else Hs.callC h p.fr p.tw
def Hs.pers (h : Hs) (nx last : Int) (p : Pe) : Int := if inB p.id 1 (nx - 1) = true then (if p.id ≤ last then 1 else Hs.persC h p) else 3
/-- .. of all of them. -/
def Hs.first (h : Hs) (nx : Int) : Int → List Pe → Int
  | _, [] => 0
  | last, p :: l => if Hs.pers h nx last p = 0 then Hs.first h nx p.id l else Hs.pers h nx last p
def Hs.over (h : Hs) (l : List Pe) : Bool := (List.range 6).any fun k => decide (h.ld < cnt 1 ((k / 2 : Nat) : Int) ((k % 2 : Nat) : Int) l)
def Hs.ledC (h : Hs) (x : Lg) : Int :=
  if inB x.nx 1 1000000000000000 = true then
    (if 60 < x.ps.length then 2 else if Hs.first h x.nx 0 x.ps = 0 then (if h.qu < cnt 0 (-1) 0 x.ps then 2 else if Hs.over h x.ps = true then 2 else 0) else Hs.first h x.nx 0 x.ps)
  else 3
def Hs.led (h : Hs) (x : Lg) : Int := if h.fault = 0 then Hs.ledC h x else h.fault
/-- The id ahead of the i-th. -/
def lastId (l : List Pe) : Nat → Int
  | 0 => 0
  | i + 1 => match l[i]? with | some q => q.id | none => 0
theorem first_step {h : Hs} {nx last : Int} {l : List Pe} {i : Nat} {p : Pe} (hp : l[i]? = some p) (ok : ∀ j q, j < i → l[j]? = some q → Hs.pers h nx (if j = 0 then last else lastId l j) q = 0) : Hs.first h nx last l = (if Hs.pers h nx (if i = 0 then last else lastId l i) p = 0 then Hs.first h nx p.id (l.drop (i + 1)) else Hs.pers h nx (if i = 0 then last else lastId l i) p) := by
  induction l generalizing i last with
  | nil => simp at hp
  | cons q l ih =>
    cases i with
    | zero =>
      simp at hp
      subst hp
      simp [Hs.first]
    | succ i =>
      have h0 := ok 0 q (by omega) (by simp)
      rw [if_pos rfl] at h0
      show (if Hs.pers h nx last q = 0 then Hs.first h nx q.id l else _) = _
      rw [if_pos h0]
      have e : ∀ j, (if j = 0 then q.id else lastId l j) = lastId (q :: l) (j + 1) := by
        intro j
        cases j with
        | zero => simp [lastId]
        | succ j => simp [lastId]
      have hp' : l[i]? = some p := by simpa using hp
      rw [ih (last := q.id) hp' (fun j r hj hr => by
        rw [e j]
        have := ok (j + 1) r (by omega) (by simpa using hr)
        rw [if_neg (by omega)] at this
        exact this)]
      have z : (if i + 1 = 0 then last else lastId (q :: l) (i + 1)) = lastId (q :: l) (i + 1) := if_neg (by omega)
      rw [e i, z]
      simp
theorem first_all {h : Hs} {nx last : Int} {l : List Pe} (ok : ∀ j q, j < l.length → l[j]? = some q → Hs.pers h nx (if j = 0 then last else lastId l j) q = 0) : Hs.first h nx last l = 0 := by
  induction l generalizing last with
  | nil => rfl
  | cons q l ih =>
    have h0 := ok 0 q (by simp) (by simp)
    rw [if_pos rfl] at h0
    show (if Hs.pers h nx last q = 0 then Hs.first h nx q.id l else _) = _
    rw [if_pos h0]
    refine ih (fun j r hj hr => ?_)
    have := ok (j + 1) r (by simpa using hj) (by simpa using hr)
    rw [if_neg (by omega)] at this
    have e : (if j = 0 then q.id else lastId l j) = lastId (q :: l) (j + 1) := by
      cases j with
      | zero => simp [lastId]
      | succ j => simp [lastId]
    rw [e]
    exact this
end Go.Proofs.Ytehdgifinanbbaa
