/-
  The base of what follows: plain numbers, cells, contracts of the smallest functions.
-/
import Derived.Test.YtclfdfcakmgffaaCarS
import Derived.Test.YtclfdfcakmgffaaFnd
/-
  The guard, in plain numbers: the worst that a command may do, which pair may go, the pair that the guard tells.
-/
namespace Go.Proofs.Ytclfdfcakmgffaa
open Go.RowKit Pl

/-- How high, how low a car may come behind a tick, whatever the drift is. -/
def Hs.wh (h : Hs) (c : Cs) (x : Cm) : Int := h.hi (stepC h c x h.dr).pos (stepC h c x h.dr).vel
def Hs.wl (h : Hs) (c : Cs) (x : Cm) : Int := h.lo (stepC h c x (-h.dr)).pos (stepC h c x (-h.dr)).vel
def Hs.asked (h : Hs) (c : Cs) (x : Cm) : Int := if h.car c = 0 then h.cmd x else h.car c
/-- May this pair go? (of a shaft and commands without a fault) -/
def Hs.may (h : Hs) (s : Sh) (a b : Cm) : Bool := decide (h.ln ≤ Hs.wl h s.up b - Hs.wh h s.lo a) && (decide (Hs.wh h s.up b ≤ h.high) && decide (h.low ≤ Hs.wl h s.lo a))
def Hs.pairK (h : Hs) (s : Sh) (a b : Cm) : Int := if h.shaft s = 0 then (if h.cmd a = 0 then h.cmd b else h.cmd a) else h.shaft s
def Hs.mayGo (h : Hs) (s : Sh) (a b : Cm) : Bool := (h.shaft s == 0) && ((h.cmd a == 0) && ((h.cmd b == 0) && Hs.may h s a b))
/-- A brake in place of a command. -/
def brkFor (c : Cs) (x : Cm) : Cm := if c.door ≠ 0 then x else ⟨0, true, false⟩
/-- The pair that the guard tells. -/
def Hs.grd (h : Hs) (s : Sh) (a b : Cm) : Cm × Cm :=
  if Hs.may h s a b = true then (a, b) else if Hs.may h s (brkFor s.lo a) b = true then (brkFor s.lo a, b)
  else if Hs.may h s a (brkFor s.up b) = true then (a, brkFor s.up b) else (brkFor s.lo a, brkFor s.up b)
def Hs.grdL (h : Hs) (s : Sh) (a b : Cm) : Cm := if Hs.pairK h s a b = 0 then (Hs.grd h s a b).1 else ⟨0, false, false⟩
def Hs.grdU (h : Hs) (s : Sh) (a b : Cm) : Cm := if Hs.pairK h s a b = 0 then (Hs.grd h s a b).2 else ⟨0, false, false⟩
def Hs.stepS (h : Hs) (s : Sh) (a b : Cm) (d e : Int) : Sh := ⟨stepC h s.lo (Hs.grd h s a b).1 d, stepC h s.up (Hs.grd h s a b).2 e⟩
def Hs.stepK (h : Hs) (s : Sh) (a b : Cm) (d e : Int) : Int := if Hs.pairK h s a b = 0 then (if inB d (-h.dr) h.dr = true ∧ inB e (-h.dr) h.dr = true then 0 else 3) else Hs.pairK h s a b
def Hs.stepV (h : Hs) (s : Sh) (a b : Cm) (d e : Int) : Sh := if Hs.stepK h s a b d e = 0 then Hs.stepS h s a b d e else ⟨⟨0, 0, 0⟩, ⟨0, 0, 0⟩⟩
def Hs.haltP (h : Hs) (s : Sh) : Int := (max (absI s.lo.vel) (absI s.up.vel) + h.br - 1) / h.br
def Hs.haltV (h : Hs) (s : Sh) : Int := if h.shaft s = 0 then Hs.haltP h s else 0
def Hs.spareP (h : Hs) (s : Sh) : Int := h.lo s.up.pos s.up.vel - h.hi s.lo.pos s.lo.vel - h.ln
def Hs.spareV (h : Hs) (s : Sh) : Int := if h.shaft s = 0 then Hs.spareP h s else 0

theorem Hs.hi_bd {h : Hs} (o : h.Ok) (p v : Int) (p1 : -7000000 ≤ p) (p2 : p ≤ 7000000) (v1 : -500 ≤ v) (v2 : v ≤ 500) : -12000000 ≤ h.hi p v ∧ h.hi p v ≤ 12000000 := by
  have r1 := o.br1; have r3 := o.pu1
  unfold Hs.hi
  split
  · have := stop_small v h.br (by omega) (by omega) (by omega); omega
  · omega
theorem Hs.lo_bd {h : Hs} (o : h.Ok) (p v : Int) (p1 : -7000000 ≤ p) (p2 : p ≤ 7000000) (v1 : -500 ≤ v) (v2 : v ≤ 500) : -12000000 ≤ h.lo p v ∧ h.lo p v ≤ 12000000 := by
  have r1 := o.br1; have r3 := o.pu1
  unfold Hs.lo
  split
  · have := stop_small (-v) h.br (by omega) (by omega) (by omega); omega
  · omega
theorem step_env {h : Hs} {c : Cs} {x : Cm} {d : Int} (k : CarOk h c) : -7000000 ≤ (stepC h c x d).pos ∧ (stepC h c x d).pos ≤ 7000000 ∧ -500 ≤ (stepC h c x d).vel ∧ (stepC h c x d).vel ≤ 500 := by
  have o := k.ok
  have en := car_env k
  have s1 := o.sp1; have s2 := o.sp2; have v1 := k.v1; have v2 := k.v2; have r1 := o.br1; have r3 := o.pu1
  have cb := clip_bd h.sp (c.vel + x.push + d) (by omega)
  have bb := brk_in c.vel h.br h.sp v1 v2 (by omega)
  unfold stepC
  split
  · split <;> (dsimp only; omega)
  · split <;> (dsimp only; omega)
theorem Hs.wh_bd {h : Hs} {c : Cs} (k : CarOk h c) (x : Cm) : -12000000 ≤ Hs.wh h c x ∧ Hs.wh h c x ≤ 12000000 := by
  obtain ⟨a, b, u, v⟩ := step_env (x := x) (d := h.dr) k
  exact Hs.hi_bd k.ok _ _ a b u v
theorem Hs.wl_bd {h : Hs} {c : Cs} (k : CarOk h c) (x : Cm) : -12000000 ≤ Hs.wl h c x ∧ Hs.wl h c x ≤ 12000000 := by
  obtain ⟨a, b, u, v⟩ := step_env (x := x) (d := -h.dr) k
  exact Hs.lo_bd k.ok _ _ a b u v
/-- Who brakes, or stands with its door open, comes no higher and no lower than it would anyway. -/
theorem wh_brake {h : Hs} {c : Cs} (k : CarOk h c) (x : Cm) : Hs.wh h c (brkFor c x) ≤ h.hi c.pos c.vel := by
  have o := k.ok
  have r1 := o.br1; have r3 := o.pu1
  unfold Hs.wh brkFor
  by_cases dz : c.door ≠ 0
  · rw [if_pos dz]
    unfold stepC
    rw [if_pos (Or.inl dz)]
    split <;> exact Int.le_refl _
  · rw [if_neg dz]
    unfold stepC
    rw [if_neg (by simp; omega), if_pos (Or.inl rfl)]
    dsimp only
    unfold Hs.hi
    by_cases v : 0 < c.vel
    · have e := stopP_brk c.vel h.br v (by omega)
      have z := stopP_zero h.br
      have b0 := brk_nonneg c.vel h.br v
      rw [if_pos v]
      split
      · omega
      · have : brk c.vel h.br = 0 := by omega
        rw [this, z] at e
        omega
    · have b0 : brk c.vel h.br ≤ 0 := by have := brk_back (-c.vel) h.br (by omega) (by omega); rwa [Int.neg_neg] at this
      rw [if_neg v, if_neg (by omega)]
      omega
theorem brk_flip (v b : Int) (hb : 1 ≤ b) : brk v b = -(brk (-v) b) := by unfold brk; (repeat' split) <;> omega
theorem wl_brake {h : Hs} {c : Cs} (k : CarOk h c) (x : Cm) : h.lo c.pos c.vel ≤ Hs.wl h c (brkFor c x) := by
  have o := k.ok
  have r1 := o.br1; have r3 := o.pu1
  unfold Hs.wl brkFor
  by_cases dz : c.door ≠ 0
  · rw [if_pos dz]
    unfold stepC
    rw [if_pos (Or.inl dz)]
    split <;> exact Int.le_refl _
  · rw [if_neg dz]
    unfold stepC
    rw [if_neg (by simp; omega), if_pos (Or.inl rfl)]
    dsimp only
    unfold Hs.lo
    by_cases v : c.vel < 0
    · have e := stopP_brk (-c.vel) h.br (by omega) (by omega)
      have z := stopP_zero h.br
      have b0 := brk_nonneg (-c.vel) h.br (by omega)
      have fl := brk_flip c.vel h.br (by omega)
      rw [if_pos v, fl]
      split
      · rw [Int.neg_neg]; omega
      · have : brk (-c.vel) h.br = 0 := by omega
        rw [this, z] at e
        omega
    · have b0 : 0 ≤ brk c.vel h.br := by have := brk_back c.vel h.br (by omega) (by omega); have fl := brk_flip c.vel h.br (by omega); omega
      rw [if_neg v, if_neg (by omega)]
      omega
theorem shaft_parts {h : Hs} {s : Sh} (e : h.shaft s = 0) : h.car s.lo = 0 ∧ h.car s.up = 0 ∧ h.ln ≤ h.lo s.up.pos s.up.vel - h.hi s.lo.pos s.lo.vel ∧ h.hi s.up.pos s.up.vel ≤ h.high ∧ h.low ≤ h.lo s.lo.pos s.lo.vel := by
  unfold Hs.shaft at e
  by_cases k1 : h.car s.lo = 0
  · rw [if_pos k1] at e
    by_cases k2 : h.car s.up = 0
    · rw [if_pos k2] at e
      unfold Hs.shaftC at e
      refine ⟨k1, k2, ?_⟩
      split at e
      · omega
      · split at e <;> omega
    · rw [if_neg k2] at e; exact absurd e k2
  · rw [if_neg k1] at e; exact absurd e k1
/-- Two brakes may always go. -/
theorem may_brakes {h : Hs} {s : Sh} (e : h.shaft s = 0) (a b : Cm) : Hs.may h s (brkFor s.lo a) (brkFor s.up b) = true := by
  obtain ⟨k1, k2, e1, e2, e3⟩ := shaft_parts e
  have a1 := wh_brake (Hs.car_zero k1) a
  have a2 := wl_brake (Hs.car_zero k1) a
  have b1 := wh_brake (Hs.car_zero k2) b
  have b2 := wl_brake (Hs.car_zero k2) b
  unfold Hs.may
  simp only [Bool.and_eq_true, decide_eq_true_eq]
  omega
theorem grd_may {h : Hs} {s : Sh} (e : h.shaft s = 0) (a b : Cm) : Hs.may h s (Hs.grd h s a b).1 (Hs.grd h s a b).2 = true := by
  unfold Hs.grd
  split
  · assumption
  · split
    · assumption
    · split
      · assumption
      · exact may_brakes e a b
/-- A brake is a right command. -/
theorem cmd_brk {h : Hs} (hf : h.fault = 0) (o : h.Ok) (c : Cs) (x : Cm) (hx : h.cmd x = 0) : h.cmd (brkFor c x) = 0 := by
  have r3 := o.pu1
  unfold brkFor
  split
  · exact hx
  · rw [Hs.cmd_ok hf]
    unfold Hs.cmdC Cm.bad
    rw [if_pos (inB_yes (by show -h.pu ≤ 0; omega) (by show 0 ≤ h.pu; omega))]
    rfl
theorem grd_cmd {h : Hs} {s : Sh} (hf : h.fault = 0) (o : h.Ok) (a b : Cm) (ha : h.cmd a = 0) (hb : h.cmd b = 0) : h.cmd (Hs.grd h s a b).1 = 0 ∧ h.cmd (Hs.grd h s a b).2 = 0 := by
  have a' := cmd_brk hf o s.lo a ha
  have b' := cmd_brk hf o s.up b hb
  unfold Hs.grd
  split
  · exact ⟨ha, hb⟩
  · split
    · exact ⟨a', hb⟩
    · split
      · exact ⟨ha, b'⟩
      · exact ⟨a', b'⟩
end Go.Proofs.Ytclfdfcakmgffaa

/-
  Floors that are kept free, in plain numbers: spans, what a car covers, goals.
-/
namespace Go.Proofs.Ytclfdfcakmgffaa.Pl

/-- A span of floors; the spans of two cars. -/
structure Sp where
  lo : Int
  hi : Int
structure Ss where
  l : Sp
  u : Sp
end Go.Proofs.Ytclfdfcakmgffaa.Pl
namespace Go.Proofs.Ytclfdfcakmgffaa
open Go.RowKit Pl

def Hs.spanR (h : Hs) (x : Ss) : Bool := inB x.l.lo (-1) h.fl && (inB x.l.hi (-1) h.fl && (inB x.u.lo (-1) h.fl && inB x.u.hi (-1) h.fl))
def spanB (x : Ss) : Bool := decide (x.l.hi < x.l.lo) || (decide (x.u.hi < x.u.lo) || decide (x.u.lo ≤ x.l.hi))
def Hs.spanC (h : Hs) (x : Ss) : Int := if Hs.spanR h x = true then (if spanB x = true then 1 else 0) else 3
def Hs.spans (h : Hs) (x : Ss) : Int := if h.fault = 0 then Hs.spanC h x else h.fault
/-- The greatest floor of the first n (from -1 on) that is not above 'low' with its level taken off; -1 if there is none. -/
def Hs.covLo (h : Hs) (low : Int) : Nat → Int
  | 0 => -1
  | n + 1 => if h.level ((n : Int) - 1) - h.lv ≤ low then (n : Int) - 1 else Hs.covLo h low n
/-- The least floor of the last n (from Floors down) that is not below 'high' with its level put on; Floors if there is none. -/
def Hs.covHi (h : Hs) (high : Int) : Nat → Int
  | 0 => h.fl
  | n + 1 => if high ≤ h.level (h.fl - n) + h.lv then h.fl - n else Hs.covHi h high n
def Hs.cover (h : Hs) (c : Cs) : Sp := ⟨Hs.covLo h (h.lo c.pos c.vel) (h.fl + 2).toNat, Hs.covHi h (h.hi c.pos c.vel) (h.fl + 2).toNat⟩
/-- The nearest of the first floors, from -1 on. -/
def Hs.nearF (h : Hs) (p : Int) : Nat → Int
  | 0 => -1
  | n + 1 => if h.dist p n < h.dist p (Hs.nearF h p n) then n else Hs.nearF h p n
theorem Hs.nearF_near (h : Hs) (p : Int) (n : Nat) : h.NearTo p n (Hs.nearF h p n) := by
  induction n with
  | zero => exact Hs.NearTo.start h p
  | succ n ih =>
    unfold Hs.nearF
    by_cases e : h.dist p n < h.dist p (Hs.nearF h p n)
    · rw [if_pos e]; exact ih.take (by omega) e
    · rw [if_neg e]; exact ih.stay e
/-- The floor at which a car is. -/
def Hs.at6 (h : Hs) (p : Int) : Int := Hs.nearF h (max (h.level (-1)) (min (h.level h.fl) p)) (h.fl + 1).toNat
theorem Hs.at6_of {h : Hs} (o : h.Ok) {p r : Int} (a : h.NearTo (max (h.level (-1)) (min (h.level h.fl) p)) (h.fl + 1) r) : Hs.at6 h p = r := by
  have f1 := o.fl1
  have e : (((h.fl + 1).toNat : Nat) : Int) = h.fl + 1 := by omega
  have b := Hs.nearF_near h (max (h.level (-1)) (min (h.level h.fl) p)) (h.fl + 1).toNat
  rw [e] at b
  exact b.one a
theorem nearF_bd (h : Hs) (p : Int) (n : Nat) : -1 ≤ Hs.nearF h p n ∧ Hs.nearF h p n ≤ (n : Int) - 1 := by
  induction n with
  | zero => exact ⟨Int.le_refl _, by simp [Hs.nearF]⟩
  | succ n ih =>
    unfold Hs.nearF
    split <;> omega
theorem Hs.at6_bd {h : Hs} (o : h.Ok) (p : Int) : -1 ≤ Hs.at6 h p ∧ Hs.at6 h p ≤ h.fl := by
  have f1 := o.fl1
  have := nearF_bd h (max (h.level (-1)) (min (h.level h.fl) p)) (h.fl + 1).toNat
  unfold Hs.at6; omega
/-- Spans of the floors at which two cars are. -/
def Hs.sensA (h : Hs) (s : Sh) : Int := if h.fl < (if Hs.at6 h s.up.pos ≤ Hs.at6 h s.lo.pos then Hs.at6 h s.lo.pos + 1 else Hs.at6 h s.up.pos) then Hs.at6 h s.lo.pos - 1 else Hs.at6 h s.lo.pos
def Hs.sensB (h : Hs) (s : Sh) : Int := if h.fl < (if Hs.at6 h s.up.pos ≤ Hs.at6 h s.lo.pos then Hs.at6 h s.lo.pos + 1 else Hs.at6 h s.up.pos) then (if Hs.at6 h s.up.pos ≤ Hs.at6 h s.lo.pos then Hs.at6 h s.lo.pos + 1 else Hs.at6 h s.up.pos) - 1 else (if Hs.at6 h s.up.pos ≤ Hs.at6 h s.lo.pos then Hs.at6 h s.lo.pos + 1 else Hs.at6 h s.up.pos)
def Hs.sensed (h : Hs) (s : Sh) : Ss := ⟨⟨Hs.sensA h s, Hs.sensA h s⟩, ⟨Hs.sensB h s, Hs.sensB h s⟩⟩
/-- The goals of both, one of whom leads: the lower's, the upper's. -/
def Hs.goals (h : Hs) (s : Sh) (lead goal other : Int) : Int × Int :=
  if lead = 0 then (goal, if other = -2 ∨ other ≤ goal then max (goal + 1) (Hs.at6 h s.up.pos) else other)
  else (if other = -2 ∨ goal ≤ other then min (goal - 1) (Hs.at6 h s.lo.pos) else other, goal)
def Hs.goalK (h : Hs) (s : Sh) (lead goal other : Int) : Int :=
  if h.shaft s = 0 then (if inB lead 0 1 = true ∧ inB goal 0 (h.fl - 1) = true ∧ inB other (-2) h.fl = true then 0 else 3) else h.shaft s
def Hs.goalV (h : Hs) (s : Sh) (lead goal other : Int) : Int × Int := if Hs.goalK h s lead goal other = 0 then Hs.goals h s lead goal other else (0, 0)
/-- Goals are in order. -/
theorem goals_order {h : Hs} {s : Sh} (o : h.Ok) {lead goal other : Int} (g0 : 0 ≤ goal) (g1 : goal ≤ h.fl - 1) (r0 : -2 ≤ other) (r1 : other ≤ h.fl) :
    (Hs.goals h s lead goal other).1 < (Hs.goals h s lead goal other).2 ∧ -1 ≤ (Hs.goals h s lead goal other).1 ∧ (Hs.goals h s lead goal other).2 ≤ h.fl := by
  have a := Hs.at6_bd o s.lo.pos
  have b := Hs.at6_bd o s.up.pos
  unfold Hs.goals
  split
  · dsimp only; split <;> omega
  · dsimp only; split <;> omega
/-- Spans that grow toward two goals. -/
def extS (x : Ss) (a b : Int) : Ss :=
  ⟨⟨min x.l.lo a, max x.l.hi (min a (x.u.lo - 1))⟩, ⟨min x.u.lo (max b (max x.l.hi (min a (x.u.lo - 1)) + 1)), max x.u.hi b⟩⟩
def Hs.extK (h : Hs) (x : Ss) (a b : Int) : Int :=
  if Hs.spans h x = 0 then (if inB a (-1) h.fl = true ∧ inB b (-1) h.fl = true then (if a < b then 0 else 1) else 3) else Hs.spans h x
def Hs.extV (h : Hs) (x : Ss) (a b : Int) : Ss := if Hs.extK h x a b = 0 then extS x a b else ⟨⟨0, 0⟩, ⟨0, 0⟩⟩
def cutS (x y : Sp) : Sp := if min x.hi y.hi < max x.lo y.lo then x else ⟨max x.lo y.lo, min x.hi y.hi⟩
def Hs.relS (h : Hs) (x : Ss) (s : Sh) : Ss := ⟨cutS x.l (Hs.cover h s.lo), cutS x.u (Hs.cover h s.up)⟩
def Hs.relK (h : Hs) (x : Ss) (s : Sh) : Int := if Hs.spans h x = 0 then h.shaft s else Hs.spans h x
def Hs.relV (h : Hs) (x : Ss) (s : Sh) : Ss := if Hs.relK h x s = 0 then Hs.relS h x s else ⟨⟨0, 0⟩, ⟨0, 0⟩⟩
def aimS (x : Sp) (g : Int) : Int := max x.lo (min x.hi g)
def Hs.safe (h : Hs) (x : Ss) (a b : Int) : Bool := (Hs.spans h x == 0) && (inB a (-1) h.fl && (inB b (-1) h.fl && (decide (a < b) && (decide (a < x.u.lo) || decide (x.l.hi < b)))))
end Go.Proofs.Ytclfdfcakmgffaa
