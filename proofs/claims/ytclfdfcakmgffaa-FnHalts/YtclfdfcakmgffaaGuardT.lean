/-
  The law FnHalts: two cars that brake stand in the ticks that are told.
-/
import Derived.Test.YtclfdfcakmgffaaGuardR
import Derived.Test.YtclfdfcakmgffaaGuardP
import Derived.Test.YtclfdfcakmgffaaGuardS
import Derived.Test.YtclfdfcakmgffaaGuardE
import Derived.Test.YtclfdfcakmgffaaTickP
import Derived.Test.YtclfdfcakmgffaaAt
import Derived.Test.YtclfdfcakmgffaaFnd
namespace Go.Proofs.Ytclfdfcakmgffaa
open Go.RowKit Pl
set_option linter.unusedSimpArgs false
set_option linter.unusedVariables false

def bzc (c : Cs) : Cm := ⟨0, (c.door == 0), false⟩
theorem bzc_for (c : Cs) : brkFor c ⟨0, false, false⟩ = bzc c := by
  unfold brkFor bzc
  by_cases k : c.door = 0
  · rw [if_neg (by simpa using k)]; simp [k]
  · rw [if_pos k]; simp [k]
theorem cmd_none {h : Hs} (hf : h.fault = 0) (o : h.Ok) : h.cmd ⟨0, false, false⟩ = 0 := by
  have r := o.pu1
  rw [Hs.cmd_ok hf]
  unfold Hs.cmdC Cm.bad
  rw [if_pos (inB_yes (by show -h.pu ≤ 0; omega) (by show 0 ≤ h.pu; omega))]
  rfl
/-- A tick with both brakes on. -/
def hstep (h : Hs) (s : Sh) : Sh := ⟨stepC h s.lo (bzc s.lo) 0, stepC h s.up (bzc s.up) 0⟩
theorem hstep_ok {h : Hs} {s : Sh} (e : h.shaft s = 0) : Hs.stepK h s (bzc s.lo) (bzc s.up) 0 0 = 0 ∧ Hs.stepV h s (bzc s.lo) (bzc s.up) 0 0 = hstep h s ∧ h.shaft (hstep h s) = 0 := by
  obtain ⟨k1, k2, -⟩ := shaft_parts e
  have c1 := Hs.car_zero k1
  have o := c1.ok
  have d1 := o.dr1
  have a1 := cmd_brk c1.hf o s.lo _ (cmd_none c1.hf o)
  have a2 := cmd_brk c1.hf o s.up _ (cmd_none c1.hf o)
  have m := may_brakes e ⟨0, false, false⟩ ⟨0, false, false⟩
  rw [bzc_for] at a1 a2
  rw [bzc_for, bzc_for] at m
  have p : Hs.pairK h s (bzc s.lo) (bzc s.up) = 0 := by unfold Hs.pairK; rw [if_pos e, if_pos a1]; exact a2
  have b : inB 0 (-h.dr) h.dr = true := inB_iff.2 ⟨by omega, by omega⟩
  have k : Hs.stepK h s (bzc s.lo) (bzc s.up) 0 0 = 0 := by unfold Hs.stepK; rw [if_pos p, if_pos ⟨b, b⟩]
  have g : Hs.grd h s (bzc s.lo) (bzc s.up) = (bzc s.lo, bzc s.up) := by unfold Hs.grd; rw [if_pos m]
  have v : Hs.stepV h s (bzc s.lo) (bzc s.up) 0 0 = hstep h s := by unfold Hs.stepV; rw [if_pos k]; unfold Hs.stepS; rw [g]; rfl
  refine ⟨k, v, ?_⟩
  have q := stepS_ok (a := bzc s.lo) (b := bzc s.up) (d := 0) (e := 0) e (by omega) (by omega) (by omega) (by omega)
  unfold Hs.stepS at q
  rw [g] at q
  exact q
theorem abs_brk (v b : Int) (hb : 1 ≤ b) : absI (brk v b) = max (absI v - b) 0 := by
  unfold absI brk
  (repeat' split) <;> omega
theorem vel_hstep {h : Hs} {c : Cs} (k : CarOk h c) : (stepC h c (bzc c) 0).vel = brk c.vel h.br := by
  have o := k.ok
  have r1 := o.br1; have r2 := o.pu1
  unfold stepC bzc
  by_cases d : c.door = 0
  · simp [d]
  · have v : c.vel = 0 := k.dv.resolve_left d
    simp [d, v]
    unfold brk
    (repeat' split) <;> omega
/-- What is left of a speed behind k ticks. -/
def left (v b : Int) (k : Nat) : Int := max (absI v - k * b) 0
theorem left_succ (v b : Int) (k : Nat) (hb : 0 ≤ b) : max (left v b k - b) 0 = left v b (k + 1) := by
  have e : ((k + 1 : Nat) : Int) * b = k * b + b := by rw [Int.natCast_add, Int.add_mul]; omega
  unfold left
  rw [e]
  omega
theorem halt_bd (M b : Int) (hb : 1 ≤ b) : (∀ k : Nat, (k : Int) < (M + b - 1) / b → (k : Int) * b < M) ∧ (∀ k : Nat, (M + b - 1) / b ≤ (k : Int) → M ≤ (k : Int) * b) := by
  have e := Int.mul_ediv_add_emod (M + b - 1) b
  have m1 := Int.emod_nonneg (M + b - 1) (show b ≠ 0 by omega)
  have m2 := Int.emod_lt_of_pos (M + b - 1) (show 0 < b by omega)
  generalize (M + b - 1) / b = n at *
  generalize (M + b - 1) % b = r at *
  constructor
  · intro k hk
    have q : b * ((k : Int) + 1) ≤ b * n := Int.mul_le_mul_of_nonneg_left (by omega) (by omega)
    rw [Int.mul_add, Int.mul_one] at q
    rw [Int.mul_comm (k : Int) b]
    omega
  · intro k hk
    have q : b * n ≤ b * (k : Int) := Int.mul_le_mul_of_nonneg_left hk (by omega)
    rw [Int.mul_comm (k : Int) b]
    omega
theorem halt_small {h : Hs} {s : Sh} (e : h.shaft s = 0) : Hs.haltP h s ≤ 100000 ∧ 0 ≤ Hs.haltP h s := by
  obtain ⟨k1, k2, -⟩ := shaft_parts e
  have c1 := Hs.car_zero k1
  have c2 := Hs.car_zero k2
  have o := c1.ok
  have r1 := o.br1; have r2 := o.pu1; have r3 := o.sp2
  have v1 := c1.v1; have v2 := c1.v2; have v3 := c2.v1; have v4 := c2.v2
  have b1 : 0 ≤ absI s.lo.vel ∧ absI s.lo.vel ≤ 500 := by unfold absI; split <;> omega
  have b2 : 0 ≤ absI s.up.vel ∧ absI s.up.vel ≤ 500 := by unfold absI; split <;> omega
  unfold Hs.haltP
  have q := halt_bd (max (absI s.lo.vel) (absI s.up.vel)) h.br (by omega)
  constructor
  · by_cases c : (max (absI s.lo.vel) (absI s.up.vel) + h.br - 1) / h.br ≤ 100000
    · exact c
    · have := q.1 600 (by omega)
      have e2 : (1 : Int) * 600 ≤ h.br * 600 := Int.mul_le_mul_of_nonneg_right (by omega) (by omega)
      have e3 : ((600 : Nat) : Int) * h.br = h.br * 600 := Int.mul_comm _ _
      omega
  · exact Int.ediv_nonneg (by omega) (by omega)
structure Hk (h : Hs) (s : Sh) (k : Nat) (t : Sh) : Prop where
  ok : h.shaft t = 0
  lo : absI t.lo.vel = left s.lo.vel h.br k
  up : absI t.up.vel = left s.up.vel h.br k
theorem Hk.start {h : Hs} {s : Sh} (e : h.shaft s = 0) : Hk h s 0 s := by
  have z : ∀ v : Int, absI v = left v h.br 0 := fun v => by unfold left absI; split <;> omega
  exact ⟨e, z _, z _⟩
theorem Hk.next {h : Hs} {s t : Sh} {k : Nat} (e : Hk h s k t) : Hk h s (k + 1) (hstep h t) := by
  obtain ⟨k1, k2, -⟩ := shaft_parts e.ok
  have c1 := Hs.car_zero k1
  have c2 := Hs.car_zero k2
  have o := c1.ok
  have r1 := o.br1; have r2 := o.pu1
  refine ⟨(hstep_ok e.ok).2.2, ?_, ?_⟩
  · show absI (stepC h t.lo (bzc t.lo) 0).vel = _
    rw [vel_hstep c1, abs_brk _ _ (by omega), e.lo, left_succ _ _ _ (by omega)]
  · show absI (stepC h t.up (bzc t.up) 0).vel = _
    rw [vel_hstep c2, abs_brk _ _ (by omega), e.up, left_succ _ _ _ (by omega)]
theorem abs_zero (v : Int) : absI v = 0 ↔ v = 0 := by unfold absI; split <;> omega
theorem Hk.on {h : Hs} {s t : Sh} {k : Nat} (e : Hk h s k t) (hk : (k : Int) < Hs.haltP h s) : ¬ (t.lo.vel = 0 ∧ t.up.vel = 0) := by
  obtain ⟨k1, -, -⟩ := shaft_parts e.ok
  have o := (Hs.car_zero k1).ok
  have r1 := o.br1; have r2 := o.pu1
  have q := (halt_bd (max (absI s.lo.vel) (absI s.up.vel)) h.br (by omega)).1 k hk
  rintro ⟨z1, z2⟩
  have y1 := e.lo; have y2 := e.up
  rw [(abs_zero _).2 z1] at y1
  rw [(abs_zero _).2 z2] at y2
  unfold left at y1 y2
  omega
theorem Hk.end_ {h : Hs} {s t : Sh} {k : Nat} (e : Hk h s k t) (hk : Hs.haltP h s ≤ (k : Int)) : t.lo.vel = 0 ∧ t.up.vel = 0 := by
  obtain ⟨k1, -, -⟩ := shaft_parts e.ok
  have o := (Hs.car_zero k1).ok
  have r1 := o.br1; have r2 := o.pu1
  have q := (halt_bd (max (absI s.lo.vel) (absI s.up.vel)) h.br (by omega)).2 k hk
  have y1 := e.lo; have y2 := e.up
  unfold left at y1 y2
  exact ⟨(abs_zero _).1 (by omega), (abs_zero _).1 (by omega)⟩
end Go.Proofs.Ytclfdfcakmgffaa
