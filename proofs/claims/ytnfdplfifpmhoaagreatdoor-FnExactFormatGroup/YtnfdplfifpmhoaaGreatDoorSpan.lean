/-
  Floors that are kept free, in plain numbers: spans, what a car covers, goals.
-/
import Derived.Test.YtnfdplfifpmhoaaGreatDoorGuard
namespace Go.Proofs.YtnfdplfifpmhoaaGreatDoor.Pl

/-- A span of floors; the spans of two cars. -/
structure Sp where
  lo : Int
  hi : Int
structure Ss where
  l : Sp
  u : Sp
end Go.Proofs.YtnfdplfifpmhoaaGreatDoor.Pl
namespace Go.Proofs.YtnfdplfifpmhoaaGreatDoor
open Go.RowKit Pl

def Hs.spanR (h : Hs) (x : Ss) : Bool := inB x.l.lo (-1) h.fl && (inB x.l.hi (-1) h.fl && (inB x.u.lo (-1) h.fl && inB x.u.hi (-1) h.fl))
def spanB (x : Ss) : Bool := decide (x.l.hi < x.l.lo) || (decide (x.u.hi < x.u.lo) || decide (x.u.lo ≤ x.l.hi))
def Hs.spanC (h : Hs) (x : Ss) : Int := if Hs.spanR h x = true then (if spanB x = true then 1 else 0) else 3
def Hs.spans (h : Hs) (x : Ss) : Int := if h.fault = 0 then Hs.spanC h x else h.fault
/-- The greatest floor of the first n (from -1 on) that is not above 'low' with its level taken off; -1 if there is none. -/
def Hs.covLo (h : Hs) (low : Int) : Nat → Int
  | 0 => -1
  | n + 1 => if h.level ((n : Int) - 1) - h.lv ≤ low then (n : Int) - 1 else Hs.covLo h low n
/-- The least floor of the last n (from Floors down) that is not below 'high' with its level put on; Floors if there is none. -/
def Hs.covHi (h : Hs) (high : Int) : Nat → Int
  | 0 => h.fl
  | n + 1 => if high ≤ h.level (h.fl - n) + h.lv then h.fl - n else Hs.covHi h high n
def Hs.cover (h : Hs) (c : Cs) : Sp := ⟨Hs.covLo h (h.lo c.pos c.vel) (h.fl + 2).toNat, Hs.covHi h (h.hi c.pos c.vel) (h.fl + 2).toNat⟩
/-- The nearest of the first floors, from -1 on. -/
def Hs.nearF (h : Hs) (p : Int) : Nat → Int
  | 0 => -1
  | n + 1 => if h.dist p n < h.dist p (Hs.nearF h p n) then n else Hs.nearF h p n
theorem Hs.nearF_near (h : Hs) (p : Int) (n : Nat) : h.NearTo p n (Hs.nearF h p n) := by
  induction n with
  | zero => exact Hs.NearTo.start h p
  | succ n ih =>
    unfold Hs.nearF
    by_cases e : h.dist p n < h.dist p (Hs.nearF h p n)
    · rw [if_pos e]; exact ih.take (by omega) e
    · rw [if_neg e]; exact ih.stay e
/-- The floor at which a car is. -/
def Hs.at6 (h : Hs) (p : Int) : Int := Hs.nearF h (max (h.level (-1)) (min (h.level h.fl) p)) (h.fl + 1).toNat
theorem Hs.at6_of {h : Hs} (o : h.Ok) {p r : Int} (a : h.NearTo (max (h.level (-1)) (min (h.level h.fl) p)) (h.fl + 1) r) : Hs.at6 h p = r := by
  have f1 := o.fl1
  have e : (((h.fl + 1).toNat : Nat) : Int) = h.fl + 1 := by omega
  have b := Hs.nearF_near h (max (h.level (-1)) (min (h.level h.fl) p)) (h.fl + 1).toNat
  rw [e] at b
  exact b.one a
theorem nearF_bd (h : Hs) (p : Int) (n : Nat) : -1 ≤ Hs.nearF h p n ∧ Hs.nearF h p n ≤ (n : Int) - 1 := by
  induction n with
  | zero => exact ⟨Int.le_refl _, by simp [Hs.nearF]⟩
  | succ n ih =>
    unfold Hs.nearF
    split <;> omega
theorem Hs.at6_bd {h : Hs} (o : h.Ok) (p : Int) : -1 ≤ Hs.at6 h p ∧ Hs.at6 h p ≤ h.fl := by
  have f1 := o.fl1
  have := nearF_bd h (max (h.level (-1)) (min (h.level h.fl) p)) (h.fl + 1).toNat
  unfold Hs.at6; omega
/-- Spans of the floors at which two cars are. -/
def Hs.sensA (h : Hs) (s : Sh) : Int := if h.fl < (if Hs.at6 h s.up.pos ≤ Hs.at6 h s.lo.pos then Hs.at6 h s.lo.pos + 1 else Hs.at6 h s.up.pos) then Hs.at6 h s.lo.pos - 1 else Hs.at6 h s.lo.pos
def Hs.sensB (h : Hs) (s : Sh) : Int := if h.fl < (if Hs.at6 h s.up.pos ≤ Hs.at6 h s.lo.pos then Hs.at6 h s.lo.pos + 1 else Hs.at6 h s.up.pos) then (if Hs.at6 h s.up.pos ≤ Hs.at6 h s.lo.pos then Hs.at6 h s.lo.pos + 1 else Hs.at6 h s.up.pos) - 1 else (if Hs.at6 h s.up.pos ≤ Hs.at6 h s.lo.pos then Hs.at6 h s.lo.pos + 1 else Hs.at6 h s.up.pos)
def Hs.sensed (h : Hs) (s : Sh) : Ss := ⟨⟨Hs.sensA h s, Hs.sensA h s⟩, ⟨Hs.sensB h s, Hs.sensB h s⟩⟩
/-- The goals of both, one of whom leads: the lower's, the upper's. -/
def Hs.goals (h : Hs) (s : Sh) (lead goal other : Int) : Int × Int :=
  if lead = 0 then (goal, if other = -2 ∨ other ≤ goal then max (goal + 1) (Hs.at6 h s.up.pos) else other)
  else (if other = -2 ∨ goal ≤ other then min (goal - 1) (Hs.at6 h s.lo.pos) else other, goal)
def Hs.goalK (h : Hs) (s : Sh) (lead goal other : Int) : Int :=
  if h.shaft s = 0 then (if inB lead 0 1 = true ∧ inB goal 0 (h.fl - 1) = true ∧ inB other (-2) h.fl = true then 0 else 3) else h.shaft s
def Hs.goalV (h : Hs) (s : Sh) (lead goal other : Int) : Int × Int := if Hs.goalK h s lead goal other = 0 then Hs.goals h s lead goal other else (0, 0)
/-- Goals are in order. -/
theorem goals_order {h : Hs} {s : Sh} (o : h.Ok) {lead goal other : Int} (g0 : 0 ≤ goal) (g1 : goal ≤ h.fl - 1) (r0 : -2 ≤ other) (r1 : other ≤ h.fl) :
    (Hs.goals h s lead goal other).1 < (Hs.goals h s lead goal other).2 ∧ -1 ≤ (Hs.goals h s lead goal other).1 ∧ (Hs.goals h s lead goal other).2 ≤ h.fl := by
  have a := Hs.at6_bd o s.lo.pos
  have b := Hs.at6_bd o s.up.pos
  unfold Hs.goals
  split
  · dsimp only; split <;> omega
  · dsimp only; split <;> omega
/-- Spans that grow toward two goals. -/
def extS (x : Ss) (a b : Int) : Ss :=
  ⟨⟨min x.l.lo a, max x.l.hi (min a (x.u.lo - 1))⟩, ⟨min x.u.lo (max b (max x.l.hi (min a (x.u.lo - 1)) + 1)), max x.u.hi b⟩⟩
def Hs.extK (h : Hs) (x : Ss) (a b : Int) : Int :=
  if Hs.spans h x = 0 then (if inB a (-1) h.fl = true ∧ inB b (-1) h.fl = true then (if a < b then 0 else 1) else 3) else Hs.spans h x
def Hs.extV (h : Hs) (x : Ss) (a b : Int) : Ss := if Hs.extK h x a b = 0 then extS x a b else ⟨⟨0, 0⟩, ⟨0, 0⟩⟩
def cutS (x y : Sp) : Sp := if min x.hi y.hi < max x.lo y.lo then x else ⟨max x.lo y.lo, min x.hi y.hi⟩
def Hs.relS (h : Hs) (x : Ss) (s : Sh) : Ss := ⟨cutS x.l (Hs.cover h s.lo), cutS x.u (Hs.cover h s.up)⟩
def Hs.relK (h : Hs) (x : Ss) (s : Sh) : Int := if Hs.spans h x = 0 then h.shaft s else Hs.spans h x
def Hs.relV (h : Hs) (x : Ss) (s : Sh) : Ss := if Hs.relK h x s = 0 then Hs.relS h x s else ⟨⟨0, 0⟩, ⟨0, 0⟩⟩
def aimS (x : Sp) (g : Int) : Int := max x.lo (min x.hi g)
def Hs.safe (h : Hs) (x : Ss) (a b : Int) : Bool := (Hs.spans h x == 0) && (inB a (-1) h.fl && (inB b (-1) h.fl && (decide (a < b) && (decide (a < x.u.lo) || decide (x.l.hi < b)))))
end Go.Proofs.YtnfdplfifpmhoaaGreatDoor
