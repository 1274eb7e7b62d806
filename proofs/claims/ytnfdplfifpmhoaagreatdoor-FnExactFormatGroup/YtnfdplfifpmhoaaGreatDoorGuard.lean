/-
  The guard, in plain numbers: the worst that a command may do, which pair may go, the pair that the guard tells.
-/
import Derived.Test.YtnfdplfifpmhoaaGreatDoorCarS
import Derived.Test.YtnfdplfifpmhoaaGreatDoorFnd
namespace Go.Proofs.YtnfdplfifpmhoaaGreatDoor
open Go.RowKit Pl

/-- How high, how low a car may come behind a tick, whatever the drift is. -/
def Hs.wh (h : Hs) (c : Cs) (x : Cm) : Int := h.hi (stepC h c x h.dr).pos (stepC h c x h.dr).vel
def Hs.wl (h : Hs) (c : Cs) (x : Cm) : Int := h.lo (stepC h c x (-h.dr)).pos (stepC h c x (-h.dr)).vel
def Hs.asked (h : Hs) (c : Cs) (x : Cm) : Int := if h.car c = 0 then h.cmd x else h.car c
/-- May this pair go? (of a shaft and commands without a fault) -/
def Hs.may (h : Hs) (s : Sh) (a b : Cm) : Bool := decide (h.ln ≤ Hs.wl h s.up b - Hs.wh h s.lo a) && (decide (Hs.wh h s.up b ≤ h.high) && decide (h.low ≤ Hs.wl h s.lo a))
def Hs.pairK (h : Hs) (s : Sh) (a b : Cm) : Int := if h.shaft s = 0 then (if h.cmd a = 0 then h.cmd b else h.cmd a) else h.shaft s
def Hs.mayGo (h : Hs) (s : Sh) (a b : Cm) : Bool := (h.shaft s == 0) && ((h.cmd a == 0) && ((h.cmd b == 0) && Hs.may h s a b))
/-- A brake in place of a command. -/
def brkFor (c : Cs) (x : Cm) : Cm := if c.door ≠ 0 then x else ⟨0, true, false⟩
/-- The pair that the guard tells. -/
def Hs.grd (h : Hs) (s : Sh) (a b : Cm) : Cm × Cm :=
  if Hs.may h s a b = true then (a, b) else if Hs.may h s (brkFor s.lo a) b = true then (brkFor s.lo a, b)
  else if Hs.may h s a (brkFor s.up b) = true then (a, brkFor s.up b) else (brkFor s.lo a, brkFor s.up b)
def Hs.grdL (h : Hs) (s : Sh) (a b : Cm) : Cm := if Hs.pairK h s a b = 0 then (Hs.grd h s a b).1 else ⟨0, false, false⟩
def Hs.grdU (h : Hs) (s : Sh) (a b : Cm) : Cm := if Hs.pairK h s a b = 0 then (Hs.grd h s a b).2 else ⟨0, false, false⟩
def Hs.stepS (h : Hs) (s : Sh) (a b : Cm) (d e : Int) : Sh := ⟨stepC h s.lo (Hs.grd h s a b).1 d, stepC h s.up (Hs.grd h s a b).2 e⟩
def Hs.stepK (h : Hs) (s : Sh) (a b : Cm) (d e : Int) : Int := if Hs.pairK h s a b = 0 then (if inB d (-h.dr) h.dr = true ∧ inB e (-h.dr) h.dr = true then 0 else 3) else Hs.pairK h s a b
def Hs.stepV (h : Hs) (s : Sh) (a b : Cm) (d e : Int) : Sh := if Hs.stepK h s a b d e = 0 then Hs.stepS h s a b d e else ⟨⟨0, 0, 0⟩, ⟨0, 0, 0⟩⟩
def Hs.haltP (h : Hs) (s : Sh) : Int := (max (absI s.lo.vel) (absI s.up.vel) + h.br - 1) / h.br
def Hs.haltV (h : Hs) (s : Sh) : Int := if h.shaft s = 0 then Hs.haltP h s else 0
def Hs.spareP (h : Hs) (s : Sh) : Int := h.lo s.up.pos s.up.vel - h.hi s.lo.pos s.lo.vel - h.ln
def Hs.spareV (h : Hs) (s : Sh) : Int := if h.shaft s = 0 then Hs.spareP h s else 0

theorem Hs.hi_bd {h : Hs} (o : h.Ok) (p v : Int) (p1 : -7000000 ≤ p) (p2 : p ≤ 7000000) (v1 : -500 ≤ v) (v2 : v ≤ 500) : -12000000 ≤ h.hi p v ∧ h.hi p v ≤ 12000000 := by
  have r1 := o.br1; have r3 := o.pu1
  unfold Hs.hi
  split
  · have := stop_small v h.br (by omega) (by omega) (by omega); omega
  · omega
theorem Hs.lo_bd {h : Hs} (o : h.Ok) (p v : Int) (p1 : -7000000 ≤ p) (p2 : p ≤ 7000000) (v1 : -500 ≤ v) (v2 : v ≤ 500) : -12000000 ≤ h.lo p v ∧ h.lo p v ≤ 12000000 := by
  have r1 := o.br1; have r3 := o.pu1
  unfold Hs.lo
  split
  · have := stop_small (-v) h.br (by omega) (by omega) (by omega); omega
  · omega
theorem step_env {h : Hs} {c : Cs} {x : Cm} {d : Int} (k : CarOk h c) : -7000000 ≤ (stepC h c x d).pos ∧ (stepC h c x d).pos ≤ 7000000 ∧ -500 ≤ (stepC h c x d).vel ∧ (stepC h c x d).vel ≤ 500 := by
  have o := k.ok
  have en := car_env k
  have s1 := o.sp1; have s2 := o.sp2; have v1 := k.v1; have v2 := k.v2; have r1 := o.br1; have r3 := o.pu1
  have cb := clip_bd h.sp (c.vel + x.push + d) (by omega)
  have bb := brk_in c.vel h.br h.sp v1 v2 (by omega)
  unfold stepC
  split
  · split <;> (dsimp only; omega)
  · split <;> (dsimp only; omega)
theorem Hs.wh_bd {h : Hs} {c : Cs} (k : CarOk h c) (x : Cm) : -12000000 ≤ Hs.wh h c x ∧ Hs.wh h c x ≤ 12000000 := by
  obtain ⟨a, b, u, v⟩ := step_env (x := x) (d := h.dr) k
  exact Hs.hi_bd k.ok _ _ a b u v
theorem Hs.wl_bd {h : Hs} {c : Cs} (k : CarOk h c) (x : Cm) : -12000000 ≤ Hs.wl h c x ∧ Hs.wl h c x ≤ 12000000 := by
  obtain ⟨a, b, u, v⟩ := step_env (x := x) (d := -h.dr) k
  exact Hs.lo_bd k.ok _ _ a b u v
/-- Who brakes, or stands with its door open, comes no higher and no lower than it would anyway. -/
theorem wh_brake {h : Hs} {c : Cs} (k : CarOk h c) (x : Cm) : Hs.wh h c (brkFor c x) ≤ h.hi c.pos c.vel := by
  have o := k.ok
  have r1 := o.br1; have r3 := o.pu1
  unfold Hs.wh brkFor
  by_cases dz : c.door ≠ 0
  · rw [if_pos dz]
    unfold stepC
    rw [if_pos (Or.inl dz)]
    split <;> exact Int.le_refl _
  · rw [if_neg dz]
    unfold stepC
    rw [if_neg (by simp; omega), if_pos (Or.inl rfl)]
    dsimp only
    unfold Hs.hi
    by_cases v : 0 < c.vel
    · have e := stopP_brk c.vel h.br v (by omega)
      have z := stopP_zero h.br
      have b0 := brk_nonneg c.vel h.br v
      rw [if_pos v]
      split
      · omega
      · have : brk c.vel h.br = 0 := by omega
        rw [this, z] at e
        omega
    · have b0 : brk c.vel h.br ≤ 0 := by have := brk_back (-c.vel) h.br (by omega) (by omega); rwa [Int.neg_neg] at this
      rw [if_neg v, if_neg (by omega)]
      omega
theorem brk_flip (v b : Int) (hb : 1 ≤ b) : brk v b = -(brk (-v) b) := by unfold brk; (repeat' split) <;> omega
theorem wl_brake {h : Hs} {c : Cs} (k : CarOk h c) (x : Cm) : h.lo c.pos c.vel ≤ Hs.wl h c (brkFor c x) := by
  have o := k.ok
  have r1 := o.br1; have r3 := o.pu1
  unfold Hs.wl brkFor
  by_cases dz : c.door ≠ 0
  · rw [if_pos dz]
    unfold stepC
    rw [if_pos (Or.inl dz)]
    split <;> exact Int.le_refl _
  · rw [if_neg dz]
    unfold stepC
    rw [if_neg (by simp; omega), if_pos (Or.inl rfl)]
    dsimp only
    unfold Hs.lo
    by_cases v : c.vel < 0
    · have e := stopP_brk (-c.vel) h.br (by omega) (by omega)
      have z := stopP_zero h.br
      have b0 := brk_nonneg (-c.vel) h.br (by omega)
      have fl := brk_flip c.vel h.br (by omega)
      rw [if_pos v, fl]
      split
      · rw [Int.neg_neg]; omega
      · have : brk (-c.vel) h.br = 0 := by omega
        rw [this, z] at e
        omega
    · have b0 : 0 ≤ brk c.vel h.br := by have := brk_back c.vel h.br (by omega) (by omega); have fl := brk_flip c.vel h.br (by omega); omega
      rw [if_neg v, if_neg (by omega)]
      omega
theorem shaft_parts {h : Hs} {s : Sh} (e : h.shaft s = 0) : h.car s.lo = 0 ∧ h.car s.up = 0 ∧ h.ln ≤ h.lo s.up.pos s.up.vel - h.hi s.lo.pos s.lo.vel ∧ h.hi s.up.pos s.up.vel ≤ h.high ∧ h.low ≤ h.lo s.lo.pos s.lo.vel := by
  unfold Hs.shaft at e
  by_cases k1 : h.car s.lo = 0
  · rw [if_pos k1] at e
    by_cases k2 : h.car s.up = 0
    · rw [if_pos k2] at e
      unfold Hs.shaftC at e
      refine ⟨k1, k2, ?_⟩
      split at e
      · omega
      · split at e <;> omega
    · rw [if_neg k2] at e; exact absurd e k2
  · rw [if_neg k1] at e; exact absurd e k1
/-- Two brakes may always go. -/
theorem may_brakes {h : Hs} {s : Sh} (e : h.shaft s = 0) (a b : Cm) : Hs.may h s (brkFor s.lo a) (brkFor s.up b) = true := by
  obtain ⟨k1, k2, e1, e2, e3⟩ := shaft_parts e
  have a1 := wh_brake (Hs.car_zero k1) a
  have a2 := wl_brake (Hs.car_zero k1) a
  have b1 := wh_brake (Hs.car_zero k2) b
  have b2 := wl_brake (Hs.car_zero k2) b
  unfold Hs.may
  simp only [Bool.and_eq_true, decide_eq_true_eq]
  omega
theorem grd_may {h : Hs} {s : Sh} (e : h.shaft s = 0) (a b : Cm) : Hs.may h s (Hs.grd h s a b).1 (Hs.grd h s a b).2 = true := by
  unfold Hs.grd
  split
  · assumption
  · split
    · assumption
    · split
      · assumption
      · exact may_brakes e a b
/-- A brake is a right command. -/
theorem cmd_brk {h : Hs} (hf : h.fault = 0) (o : h.Ok) (c : Cs) (x : Cm) (hx : h.cmd x = 0) : h.cmd (brkFor c x) = 0 := by
  have r3 := o.pu1
  unfold brkFor
  split
  · exact hx
  · rw [Hs.cmd_ok hf]
    unfold Hs.cmdC Cm.bad
    rw [if_pos (inB_yes (by show -h.pu ≤ 0; omega) (by show 0 ≤ h.pu; omega))]
    rfl
theorem grd_cmd {h : Hs} {s : Sh} (hf : h.fault = 0) (o : h.Ok) (a b : Cm) (ha : h.cmd a = 0) (hb : h.cmd b = 0) : h.cmd (Hs.grd h s a b).1 = 0 ∧ h.cmd (Hs.grd h s a b).2 = 0 := by
  have a' := cmd_brk hf o s.lo a ha
  have b' := cmd_brk hf o s.up b hb
  unfold Hs.grd
  split
  · exact ⟨ha, hb⟩
  · split
    · exact ⟨a', hb⟩
    · split
      · exact ⟨ha, b'⟩
      · exact ⟨a', b'⟩
end Go.Proofs.YtnfdplfifpmhoaaGreatDoor
