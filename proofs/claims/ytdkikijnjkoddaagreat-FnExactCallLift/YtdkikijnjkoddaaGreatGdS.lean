/-
  The base of what follows: plain numbers, cells, contracts of the smallest functions.
-/
import Derived.Test.YtdkikijnjkoddaaGreatCarS
import Derived.Test.YtdkikijnjkoddaaGreatFnd
/-
  The guard, in plain numbers: the worst that a command may do, which pair may go, the pair that the guard tells.
-/
namespace Go.Proofs.YtdkikijnjkoddaaGreat
open Go.RowKit Pl

/-- How high, how low a car may come behind a tick, whatever the drift is. -/
def Hs.wh (h : Hs) (c : Cs) (x : Cm) : Int := h.hi (stepC h c x h.dr).pos (stepC h c x h.dr).vel
def Hs.wl (h : Hs) (c : Cs) (x : Cm) : Int := h.lo (stepC h c x (-h.dr)).pos (stepC h c x (-h.dr)).vel
def Hs.asked (h : Hs) (c : Cs) (x : Cm) : Int := if h.car c = 0 then h.cmd x else h.car c
/-- May this pair go? (of a shaft and commands without a fault) -/
def Hs.may (h : Hs) (s : Sh) (a b : Cm) : Bool := decide (h.ln ≤ Hs.wl h s.up b - Hs.wh h s.lo a) && (decide (Hs.wh h s.up b ≤ h.high) && decide (h.low ≤ Hs.wl h s.lo a))
end Go.Proofs.YtdkikijnjkoddaaGreat

/-
  Floors that are kept free, in plain numbers: spans, what a car covers, goals.
-/
namespace Go.Proofs.YtdkikijnjkoddaaGreat.Pl

/-- A span of floors; the spans of two cars. -/
structure Sp where
  lo : Int
  hi : Int
structure Ss where
  l : Sp
  u : Sp
end Go.Proofs.YtdkikijnjkoddaaGreat.Pl
namespace Go.Proofs.YtdkikijnjkoddaaGreat
open Go.RowKit Pl

def Hs.spanR (h : Hs) (x : Ss) : Bool := inB x.l.lo (-1) h.fl && (inB x.l.hi (-1) h.fl && (inB x.u.lo (-1) h.fl && inB x.u.hi (-1) h.fl))
def spanB (x : Ss) : Bool := decide (x.l.hi < x.l.lo) || (decide (x.u.hi < x.u.lo) || decide (x.u.lo ≤ x.l.hi))
def Hs.spanC (h : Hs) (x : Ss) : Int := if Hs.spanR h x = true then (if spanB x = true then 1 else 0) else 3
def Hs.spans (h : Hs) (x : Ss) : Int := if h.fault = 0 then Hs.spanC h x else h.fault
/-- The nearest of the first floors, from -1 on. -/
def Hs.nearF (h : Hs) (p : Int) : Nat → Int
  | 0 => -1
  | n + 1 => if h.dist p n < h.dist p (Hs.nearF h p n) then n else Hs.nearF h p n
/-- The floor at which a car is. -/
def Hs.at6 (h : Hs) (p : Int) : Int := Hs.nearF h (max (h.level (-1)) (min (h.level h.fl) p)) (h.fl + 1).toNat
/-- The goals of both, one of whom leads: the lower's, the upper's. -/
def Hs.goals (h : Hs) (s : Sh) (lead goal other : Int) : Int × Int :=
  if lead = 0 then (goal, if other = -2 ∨ other ≤ goal then max (goal + 1) (Hs.at6 h s.up.pos) else other)
  else (if other = -2 ∨ goal ≤ other then min (goal - 1) (Hs.at6 h s.lo.pos) else other, goal)
end Go.Proofs.YtdkikijnjkoddaaGreat
