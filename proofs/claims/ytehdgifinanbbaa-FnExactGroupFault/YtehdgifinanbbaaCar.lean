/-
  Cars, commands and shafts, in plain numbers.
-/
import Derived.Test.YtehdgifinanbbaaHouse
namespace Go.Proofs.Ytehdgifinanbbaa.Pl

/-- A car. -/
structure Cs where
  pos : Int
  vel : Int
  door : Int
/-- A command. -/
structure Cm where
  push : Int
  brk : Bool
  opn : Bool
/-- A shaft: its lower and its upper car. -/
structure Sh where
  lo : Cs
  up : Cs

/-- A car's numbers are within their bounds. -/
def Hs.carR (h : Hs) (c : Cs) : Bool := inB c.pos h.low h.high && (inB c.vel (-h.sp) h.sp && inB c.door 0 h.dO)
/-- What is wrong with a car, in a house that is right. -/
def Hs.carC (h : Hs) (c : Cs) : Int := if h.carR c = true then (if c.door ≠ 0 ∧ c.vel ≠ 0 then 1 else 0) else 3
def Hs.car (h : Hs) (c : Cs) : Int := if h.fault = 0 then h.carC c else h.fault
/-- Do a command's parts bar one another? -/
def Cm.bad (x : Cm) : Bool := ((x.brk || x.opn) && (x.push != 0)) || (x.brk && x.opn)
def Hs.cmdC (h : Hs) (x : Cm) : Int := if inB x.push (-h.pu) h.pu = true then (if x.bad = true then 1 else 0) else 3
def Hs.cmd (h : Hs) (x : Cm) : Int := if h.fault = 0 then h.cmdC x else h.fault
/-- How high, and how low, a car comes if it brakes. -/
def Hs.hi (h : Hs) (p v : Int) : Int := if 0 < v then p + stopP v h.br else p
def Hs.lo (h : Hs) (p v : Int) : Int := if v < 0 then p - stopP (-v) h.br else p
def Hs.shaftC (h : Hs) (s : Sh) : Int :=
  if h.lo s.up.pos s.up.vel - h.hi s.lo.pos s.lo.vel < h.ln then 1
  else if h.high < h.hi s.up.pos s.up.vel ∨ h.lo s.lo.pos s.lo.vel < h.low then 3 else 0
def Hs.shaft (h : Hs) (s : Sh) : Int := if h.car s.lo = 0 then (if h.car s.up = 0 then h.shaftC s else h.car s.up) else h.car s.lo

theorem Hs.car_house {h : Hs} {c : Cs} (hf : h.fault ≠ 0) : h.car c = h.fault := by unfold Hs.car; rw [if_neg hf]
theorem Hs.car_ok {h : Hs} {c : Cs} (hf : h.fault = 0) : h.car c = h.carC c := by unfold Hs.car; rw [if_pos hf]
theorem Hs.cmd_house {h : Hs} {x : Cm} (hf : h.fault ≠ 0) : h.cmd x = h.fault := by unfold Hs.cmd; rw [if_neg hf]
theorem Hs.cmd_ok {h : Hs} {x : Cm} (hf : h.fault = 0) : h.cmd x = h.cmdC x := by unfold Hs.cmd; rw [if_pos hf]
/-- A car without a fault. -/
structure CarOk (h : Hs) (c : Cs) : Prop where
  hf : h.fault = 0
  p1 : h.low ≤ c.pos
  p2 : c.pos ≤ h.high
  v1 : -h.sp ≤ c.vel
  v2 : c.vel ≤ h.sp
  d1 : 0 ≤ c.door
  d2 : c.door ≤ h.dO
  dv : c.door = 0 ∨ c.vel = 0
theorem Hs.car_zero {h : Hs} {c : Cs} (e : h.car c = 0) : CarOk h c := by
  have hf : h.fault = 0 := by
    by_cases hf : h.fault = 0
    · exact hf
    · rw [Hs.car_house hf] at e; exact e
  rw [Hs.car_ok hf] at e
  unfold Hs.carC at e
  by_cases hr : h.carR c = true
  · rw [if_pos hr] at e
    by_cases hn : c.door ≠ 0 ∧ c.vel ≠ 0
    · rw [if_pos hn] at e; cases e
    · unfold Hs.carR at hr
      simp only [Bool.and_eq_true, inB_iff] at hr
      obtain ⟨⟨a1, a2⟩, ⟨b1, b2⟩, d1, d2⟩ := hr
      exact ⟨hf, a1, a2, b1, b2, d1, d2, by omega⟩
  · rw [if_neg hr] at e; cases e
theorem CarOk.ok {h : Hs} {c : Cs} (k : CarOk h c) : h.Ok := Hs.ok_of (Hs.fault_zero k.hf).1
theorem Hs.Ok.ends {h : Hs} (o : h.Ok) : -4100000 ≤ h.low ∧ h.low ≤ h.high ∧ h.high ≤ 4300000 := by
  obtain ⟨t1, t2⟩ := o.top_bd
  obtain ⟨m1, m2⟩ := o.room_bd
  have r1 := o.rf1; have r2 := o.rf2
  unfold Hs.high Hs.low
  omega
end Go.Proofs.Ytehdgifinanbbaa.Pl
