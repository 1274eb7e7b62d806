/-
  The model's tick of a car.
-/
import Derived.Test.YtnfdplfifpmhoaaGreatDoorCarB
import Derived.Test.YtnfdplfifpmhoaaGreatDoorFnd
namespace Go.Proofs.YtnfdplfifpmhoaaGreatDoor
open Go.RowKit Pl

/-- What a tick makes of a car. -/
def stepC (h : Hs) (c : Cs) (x : Cm) (d : Int) : Cs :=
  if c.door ≠ 0 ∨ (x.opn = true ∧ c.vel = 0) then (if x.opn = true then ⟨c.pos, c.vel, min h.dO (c.door + 1)⟩ else ⟨c.pos, c.vel, c.door - 1⟩)
  else if x.brk = true ∨ x.opn = true then ⟨c.pos + brk c.vel h.br, brk c.vel h.br, c.door⟩
  else ⟨c.pos + clip h.sp (c.vel + x.push + d), clip h.sp (c.vel + x.push + d), c.door⟩

theorem clip_bd (m v : Int) (m0 : 0 ≤ m) : -m ≤ clip m v ∧ clip m v ≤ m := by unfold clip; (repeat' split) <;> omega
theorem brk_in (v b m : Int) (v1 : -m ≤ v) (v2 : v ≤ m) (b1 : 1 ≤ b) : -m ≤ brk v b ∧ brk v b ≤ m := by unfold brk; (repeat' split) <;> omega

/-- A code and a car are answered, and nothing that was there has turned. -/
def isCar (w : World) (k : Int) (g : Cs) (e : Ending) (w' : World) : Prop :=
  e = .returned (.agg #[.int .i64 k, .int .i64 g.pos, .int .i64 g.vel, .int .i64 g.door]) ∧ Below w.heap.size w w'
/-- What StepCar answers: its code. -/
def Hs.stepF (h : Hs) (c : Cs) (x : Cm) (d : Int) : Int := if h.car c = 0 then (if h.cmd x = 0 then (if inB d (-h.dr) h.dr = true then 0 else 3) else h.cmd x) else h.car c
theorem cmd_push {h : Hs} {x : Cm} (hf : h.fault = 0) (e : h.cmd x = 0) : -h.pu ≤ x.push ∧ x.push ≤ h.pu := by
  rw [Hs.cmd_ok hf] at e
  unfold Hs.cmdC at e
  cases hi : inB x.push (-h.pu) h.pu with
  | true => exact inB_iff.1 hi
  | false => rw [hi] at e; simp at e

end Go.Proofs.YtnfdplfifpmhoaaGreatDoor
