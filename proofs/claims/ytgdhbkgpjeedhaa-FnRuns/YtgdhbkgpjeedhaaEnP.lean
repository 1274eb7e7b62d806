/-
  Energy, in plain numbers: what a car has; what goes in, comes out and is lost in a step and in a run.
-/
import Derived.Test.YtgdhbkgpjeedhaaProfR
namespace Go.Proofs.Ytgdhbkgpjeedhaa
open Go.RowKit Pl

def massN (r : Int) : Int := 800 + 75 * r
def movE (c : Cs) (r : Int) : Int := massN r * c.vel * c.vel
def raiE (h : Hs) (c : Cs) (r : Int) : Int := massN r * 20 * (c.pos - h.low)
def enE (h : Hs) (c : Cs) (r : Int) : Int := movE c r + raiE h c r
theorem mul_abs {a b A B : Int} (a1 : -A ≤ a) (a2 : a ≤ A) (b1 : -B ≤ b) (b2 : b ≤ B) : -(A * B) ≤ a * b ∧ a * b ≤ A * B := by
  have h : (a * b).natAbs ≤ A.toNat * B.toNat := by
    rw [Int.natAbs_mul]; exact Nat.mul_le_mul (by omega) (by omega)
  have e : ((A.toNat * B.toNat : Nat) : Int) = A * B := by
    rw [Int.natCast_mul, Int.toNat_of_nonneg (by omega), Int.toNat_of_nonneg (by omega)]
  omega
/-- A car that is in the shaft, or beyond it by a tick at most. -/
structure Nr (h : Hs) (c : Cs) : Prop where
  p1 : h.low - 500 ≤ c.pos
  p2 : c.pos ≤ h.high + 500
  v1 : -500 ≤ c.vel
  v2 : c.vel ≤ 500
theorem nr_of {h : Hs} {c : Cs} (k : CarOk h c) : Nr h c := by
  have o := k.ok
  have a := k.p1; have b := k.p2; have d := k.v1; have e := k.v2; have f := o.sp2
  exact ⟨by omega, by omega, by omega, by omega⟩
theorem Nr.pos {h : Hs} {c : Cs} (k : Nr h c) (o : h.Ok) : -5000000 ≤ c.pos ∧ c.pos ≤ 5000000 := by
  have en := o.ends; have a := k.p1; have b := k.p2
  omega
theorem mass_bd {r : Int} (r1 : 0 ≤ r) (r2 : r ≤ 20) : 800 ≤ massN r ∧ massN r ≤ 2300 := by unfold massN; omega
theorem mov_in {m v : Int} (m1 : 800 ≤ m) (m2 : m ≤ 2300) (v1 : -500 ≤ v) (v2 : v ≤ 500) : wrap64 (wrap64 (m * v) * v) = m * v * v ∧ -575000000 ≤ m * v * v ∧ m * v * v ≤ 575000000 := by
  have a := mul_abs (A := 2300) (B := 500) (a := m) (b := v) (by omega) m2 v1 v2
  have b := mul_abs (A := 1150000) (B := 500) (a := m * v) (b := v) (by omega) (by omega) v1 v2
  have e : wrap64 (m * v) = m * v := IntWalk.wrap64_in _ (by omega)
  rw [e]
  exact ⟨IntWalk.wrap64_in _ (by omega), by omega, by omega⟩
theorem rai_in {m p : Int} (m1 : 800 ≤ m) (m2 : m ≤ 2300) (p1 : -9000000 ≤ p) (p2 : p ≤ 9000000) : wrap64 (wrap64 (m * 20) * p) = m * 20 * p ∧ -414000000000 ≤ m * 20 * p ∧ m * 20 * p ≤ 414000000000 := by
  have b := mul_abs (A := 46000) (B := 9000000) (a := m * 20) (b := p) (by omega) (by omega) p1 p2
  have e : wrap64 (m * 20) = m * 20 := IntWalk.wrap64_in _ (by omega)
  rw [e]
  exact ⟨IntWalk.wrap64_in _ (by omega), by omega, by omega⟩
theorem Nr.mov {h : Hs} {c : Cs} {r : Int} (k : Nr h c) (r1 : 0 ≤ r) (r2 : r ≤ 20) : wrap64 (wrap64 (massN r * c.vel) * c.vel) = movE c r ∧ -575000000 ≤ movE c r ∧ movE c r ≤ 575000000 := by
  have m := mass_bd r1 r2
  exact mov_in m.1 m.2 k.v1 k.v2
theorem Nr.rai {h : Hs} {c : Cs} {r : Int} (o : h.Ok) (k : Nr h c) (r1 : 0 ≤ r) (r2 : r ≤ 20) : wrap64 (wrap64 (massN r * 20) * (c.pos - h.low)) = raiE h c r ∧ -414000000000 ≤ raiE h c r ∧ raiE h c r ≤ 414000000000 := by
  have m := mass_bd r1 r2
  have en := o.ends; have a := k.p1; have b := k.p2
  exact rai_in m.1 m.2 (by omega) (by omega)
theorem Nr.en {h : Hs} {c : Cs} {r : Int} (o : h.Ok) (k : Nr h c) (r1 : 0 ≤ r) (r2 : r ≤ 20) : -500000000000 ≤ enE h c r ∧ enE h c r ≤ 500000000000 := by
  have a := k.mov r1 r2; have b := k.rai o r1 r2
  unfold enE
  omega
/-- What is asked of a car and its riders. -/
def Hs.askK (h : Hs) (c : Cs) (r : Int) : Int := if h.car c = 0 then (if inB r 0 h.ld = true then 0 else 3) else h.car c
def Hs.massK (h : Hs) (r : Int) : Int := if h.fault = 0 then (if inB r 0 h.ld = true then 0 else 3) else h.fault
def Hs.massV (h : Hs) (r : Int) : Int := if Hs.massK h r = 0 then massN r else 0
theorem Hs.ask_zero {h : Hs} {c : Cs} {r : Int} (e : Hs.askK h c r = 0) : h.car c = 0 ∧ 0 ≤ r ∧ r ≤ h.ld := by
  unfold Hs.askK at e
  by_cases k : h.car c = 0
  · rw [if_pos k] at e
    by_cases i : inB r 0 h.ld = true
    · exact ⟨k, (inB_iff.1 i).1, (inB_iff.1 i).2⟩
    · rw [if_neg i] at e; omega
  · rw [if_neg k] at e; exact absurd e k
theorem Hs.ask_car {h : Hs} {c : Cs} {r : Int} (e : h.car c ≠ 0) : Hs.askK h c r = h.car c := by unfold Hs.askK; rw [if_neg e]
theorem Hs.ask_out {h : Hs} {c : Cs} {r : Int} (e : h.car c = 0) (i : inB r 0 h.ld = false) : Hs.askK h c r = 3 := by unfold Hs.askK; rw [if_pos e, i]; rfl
theorem Hs.ask_in {h : Hs} {c : Cs} {r : Int} (e : h.car c = 0) (i : inB r 0 h.ld = true) : Hs.askK h c r = 0 := by unfold Hs.askK; rw [if_pos e, i]; rfl
/-- What goes in, comes out and is lost. -/
structure Bk where
  i : Int
  o : Int
  l : Int
def Bk.add (a b : Bk) : Bk := ⟨a.i + b.i, a.o + b.o, a.l + b.l⟩
def Bk.no : Bk := ⟨0, 0, 0⟩
def oneB (b : Bool) (e : Int) : Bk := if b = true ∧ e < 0 then ⟨0, 0, -e⟩ else if 0 < e then ⟨e, 0, 0⟩ else ⟨0, -e, 0⟩
/-- The same, as the program enters it. -/
def entB (b : Bool) (e : Int) : Bk := if b = true then ⟨max e 0, 0, max (-e) 0⟩ else ⟨max e 0, max (-e) 0, 0⟩
def brkB (c : Cs) (x : Cm) : Bool := x.brk || (x.opn && (c.vel != 0))
def Hs.gain (h : Hs) (c : Cs) (x : Cm) (d r : Int) : Int := enE h (stepC h c x d) r - enE h c r
def Hs.bkS (h : Hs) (c : Cs) (x : Cm) (d r : Int) : Bk := oneB (brkB c x) (Hs.gain h c x d r)
theorem ent_one {h : Hs} {c : Cs} {x : Cm} {d r : Int} : entB (x.brk || x.opn) (Hs.gain h c x d r) = Hs.bkS h c x d r := by
  unfold Hs.bkS
  have key : x.brk = false → x.opn = true → c.vel = 0 → Hs.gain h c x d r = 0 := by
    intro hb ho hv
    unfold Hs.gain
    have e : stepC h c x d = ⟨c.pos, c.vel, min h.dO (c.door + 1)⟩ := by
      unfold stepC
      rw [if_pos (Or.inr ⟨ho, hv⟩), if_pos ho]
    rw [e]
    show enE h c r - enE h c r = 0
    omega
  generalize Hs.gain h c x d r = e at key ⊢
  unfold entB oneB brkB
  cases hb : x.brk
  · cases ho : x.opn
    · rw [if_neg (by simp), if_neg (by simp)]
      split
      · have : max e 0 = e ∧ max (-e) 0 = 0 := by omega
        rw [this.1, this.2]
      · have : max e 0 = 0 ∧ max (-e) 0 = -e := by omega
        rw [this.1, this.2]
    · rw [if_pos (by simp)]
      by_cases hv : c.vel = 0
      · have := key hb ho hv
        subst this
        simp [hv]
      · have hn : (c.vel != 0) = true := by simpa using hv
        rw [hn]
        split
        · have : max e 0 = 0 ∧ max (-e) 0 = -e := by omega
          rw [this.1, this.2]
        · rename_i n
          have n2 : ¬ e < 0 := fun q => n ⟨rfl, q⟩
          split
          · have : max e 0 = e ∧ max (-e) 0 = 0 := by omega
            rw [this.1, this.2]
          · have : e = 0 := by omega
            subst this; rfl
  · rw [if_pos (by simp)]
    split
    · have : max e 0 = 0 ∧ max (-e) 0 = -e := by omega
      rw [this.1, this.2]
    · rename_i n
      have n2 : ¬ e < 0 := fun q => n ⟨rfl, q⟩
      split
      · have : max e 0 = e ∧ max (-e) 0 = 0 := by omega
        rw [this.1, this.2]
      · have : e = 0 := by omega
        subst this; rfl
theorem one_bd {b : Bool} {e : Int} (e1 : -1000000000000 ≤ e) (e2 : e ≤ 1000000000000) : (0 ≤ (oneB b e).i ∧ (oneB b e).i ≤ 1000000000000) ∧ (0 ≤ (oneB b e).o ∧ (oneB b e).o ≤ 1000000000000) ∧ (0 ≤ (oneB b e).l ∧ (oneB b e).l ≤ 1000000000000) := by
  unfold oneB
  split
  · dsimp only; omega
  · split <;> (dsimp only; omega)
theorem one_sum {b : Bool} {e : Int} : (oneB b e).i - (oneB b e).o - (oneB b e).l = e := by
  unfold oneB
  split
  · dsimp only; omega
  · split <;> (dsimp only; omega)
/-- Behind a step a car is right but for its place. -/
theorem step_near {h : Hs} {c : Cs} {x : Cm} {d : Int} (k : CarOk h c) : Nr h (stepC h c x d) ∧ ((h.carC (stepC h c x d) = 0) ↔ inB (stepC h c x d).pos h.low h.high = true) ∧ (inB (stepC h c x d).pos h.low h.high = false → ¬ h.carC (stepC h c x d) = 0) := by
  have o := k.ok
  have s1 := o.sp1; have s2 := o.sp2; have v1 := k.v1; have v2 := k.v2; have r1 := o.br1; have r3 := o.pu1
  have p1 := k.p1; have p2 := k.p2; have d1 := k.d1; have d2 := k.d2; have dv := k.dv; have t1 := o.do1
  have cb := clip_bd h.sp (c.vel + x.push + d) (by omega)
  have bb := brk_in c.vel h.br h.sp v1 v2 (by omega)
  have key : ∀ g : Cs, -h.sp ≤ g.vel → g.vel ≤ h.sp → 0 ≤ g.door → g.door ≤ h.dO → (g.door = 0 ∨ g.vel = 0) → h.low - 500 ≤ g.pos → g.pos ≤ h.high + 500 → Nr h g ∧ ((h.carC g = 0) ↔ inB g.pos h.low h.high = true) ∧ (inB g.pos h.low h.high = false → ¬ h.carC g = 0) := by
    intro g a1 a2 a3 a4 a5 a6 a7
    have e : (h.carC g = 0) ↔ inB g.pos h.low h.high = true := by
      unfold Hs.carC Hs.carR
      rw [inB_yes a1 a2, inB_yes a3 a4]
      cases inB g.pos h.low h.high
      · simp
      · simp only [Bool.and_self, if_true]
        rw [if_neg (by omega)]
        simp
    refine ⟨⟨a6, a7, by omega, by omega⟩, e, fun q z => ?_⟩
    rw [e.1 z] at q
    exact Bool.noConfusion q
  unfold stepC
  split
  · rename_i hd
    have vz : c.vel = 0 := by
      rcases hd with hd | hd
      · omega
      · exact hd.2
    split
    · exact key _ v1 v2 (by show 0 ≤ min h.dO (c.door + 1); omega) (by show min h.dO (c.door + 1) ≤ h.dO; omega) (Or.inr vz) (by show _ ≤ c.pos; omega) (by show c.pos ≤ _; omega)
    · rename_i hn
      have dn : c.door ≠ 0 := by
        rcases hd with hd | hd
        · exact hd
        · exact absurd hd.1 hn
      exact key _ v1 v2 (by show 0 ≤ c.door - 1; omega) (by show c.door - 1 ≤ h.dO; omega) (Or.inr vz) (by show _ ≤ c.pos; omega) (by show c.pos ≤ _; omega)
  · rename_i hd
    have dz : c.door = 0 := by
      by_cases q : c.door = 0
      · exact q
      · exact absurd (Or.inl q) hd
    split
    · exact key _ (by show -h.sp ≤ brk c.vel h.br; omega) (by show brk c.vel h.br ≤ h.sp; omega) d1 d2 (Or.inl dz) (by show _ ≤ c.pos + brk c.vel h.br; omega) (by show c.pos + brk c.vel h.br ≤ _; omega)
    · exact key _ (by show -h.sp ≤ clip h.sp (c.vel + x.push + d); omega) (by show clip h.sp (c.vel + x.push + d) ≤ h.sp; omega) d1 d2 (Or.inl dz) (by show _ ≤ c.pos + clip h.sp (c.vel + x.push + d); omega) (by show c.pos + clip h.sp (c.vel + x.push + d) ≤ _; omega)
theorem gain_bd {h : Hs} {c : Cs} {x : Cm} {d r : Int} (k : CarOk h c) (r1 : 0 ≤ r) (r2 : r ≤ h.ld) : -1000000000000 ≤ Hs.gain h c x d r ∧ Hs.gain h c x d r ≤ 1000000000000 := by
  have o := k.ok
  have l2 := o.ld2
  have a := (nr_of k).en o r1 (by omega)
  have b := (step_near (x := x) (d := d) k).1.en o r1 (by omega)
  unfold Hs.gain
  omega
theorem bkS_bd {h : Hs} {c : Cs} {x : Cm} {d r : Int} (k : CarOk h c) (r1 : 0 ≤ r) (r2 : r ≤ h.ld) : (0 ≤ (Hs.bkS h c x d r).i ∧ (Hs.bkS h c x d r).i ≤ 1000000000000) ∧ (0 ≤ (Hs.bkS h c x d r).o ∧ (Hs.bkS h c x d r).o ≤ 1000000000000) ∧ (0 ≤ (Hs.bkS h c x d r).l ∧ (Hs.bkS h c x d r).l ≤ 1000000000000) := by
  have a := gain_bd (x := x) (d := d) k r1 r2
  exact one_bd a.1 a.2
/-- What BookStep answers: its code, its book, its car. -/
structure Bks where
  k : Int
  b : Bk
  c : Cs
def Bks.bad (k : Int) : Bks := ⟨k, ⟨0, 0, 0⟩, ⟨0, 0, 0⟩⟩
def Hs.bkT (h : Hs) (c : Cs) (x : Cm) (d r : Int) : Bks := if h.carC (stepC h c x d) = 0 then ⟨0, Hs.bkS h c x d r, stepC h c x d⟩ else Bks.bad 3
def Hs.bkA (h : Hs) (c : Cs) (x : Cm) (d r : Int) : Bks :=
  if Hs.askK h c r = 0 then (if h.cmd x = 0 then (if inB d (-h.dr) h.dr = true then Hs.bkT h c x d r else Bks.bad 3) else Bks.bad (h.cmd x)) else Bks.bad (Hs.askK h c r)
/-- A run: so many ticks are left. -/
def Hs.bkR (h : Hs) (f r : Int) : Nat → Cs → Bk → Bks
  | 0, c, s => ⟨0, s, c⟩
  | k + 1, c, s => if Hs.reachB h c f = true then ⟨0, s, c⟩ else if h.carC (stepC h c (Hs.forC h c f) 0) = 0 then Hs.bkR h f r k (stepC h c (Hs.forC h c f) 0) (s.add (Hs.bkS h c (Hs.forC h c f) 0 r)) else Bks.bad 3
def Hs.bkV (h : Hs) (c : Cs) (f r t : Int) : Bks :=
  if Hs.askK h c r = 0 then (if inB f (-1) h.fl = true ∧ inB t 0 3000 = true then (if c.door = 0 then Hs.bkR h f r t.toNat c Bk.no else Bks.bad 1) else Bks.bad 3) else Bks.bad (Hs.askK h c r)
theorem bkR_stop {h : Hs} {f r : Int} {k : Nat} {c : Cs} {s : Bk} (e : Hs.reachB h c f = true) : Hs.bkR h f r k c s = ⟨0, s, c⟩ := by
  cases k with
  | zero => rfl
  | succ k => unfold Hs.bkR; rw [if_pos e]
theorem bkR_go {h : Hs} {f r : Int} {k : Nat} {c : Cs} {s : Bk} (e : Hs.reachB h c f = false) (hc : h.carC (stepC h c (Hs.forC h c f) 0) = 0) : Hs.bkR h f r (k + 1) c s = Hs.bkR h f r k (stepC h c (Hs.forC h c f) 0) (s.add (Hs.bkS h c (Hs.forC h c f) 0 r)) := by
  rw [Hs.bkR, if_neg (by rw [e]; exact Bool.false_ne_true), if_pos hc]
theorem bkR_bad {h : Hs} {f r : Int} {k : Nat} {c : Cs} {s : Bk} (e : Hs.reachB h c f = false) (hc : ¬ h.carC (stepC h c (Hs.forC h c f) 0) = 0) : Hs.bkR h f r (k + 1) c s = Bks.bad 3 := by
  rw [Hs.bkR, if_neg (by rw [e]; exact Bool.false_ne_true), if_neg hc]
end Go.Proofs.Ytgdhbkgpjeedhaa
