/-
  Going somewhere, in plain numbers: the push for a path, the command, the run.
-/
import Derived.Test.YtgdhbkgpjeedhaaCarS
import Derived.Test.YtgdhbkgpjeedhaaSpeed
import Derived.Test.YtgdhbkgpjeedhaaFnd
namespace Go.Proofs.Ytgdhbkgpjeedhaa
open Go.RowKit Pl

/-- The greatest number up to n that fits (0, if none does). -/
def bestN (f : Int → Bool) : Nat → Int
  | 0 => 0
  | n + 1 => if f (n + 1) = true then n + 1 else bestN f n
theorem bestN_best (f : Int → Bool) (n : Nat) : Best f n (bestN f n) := by
  induction n with
  | zero => exact ⟨Int.le_refl _, Int.le_refl _, Or.inl rfl, fun x h1 h2 => by simp [bestN] at h1 h2; omega⟩
  | succ n ih =>
    unfold bestN
    by_cases h : f (n + 1) = true
    · rw [if_pos h]
      exact ⟨by omega, by omega, Or.inr h, fun x h1 h2 => by omega⟩
    · rw [if_neg h]
      obtain ⟨a, b, c, d⟩ := ih
      refine ⟨a, by omega, c, fun x h1 h2 => ?_⟩
      by_cases e : x = n + 1
      · subst e; simpa using h
      · exact d x h1 (by omega)
/-- The speed for a path. -/
def speedP (p b : Int) : Int := bestN (spB p b) 2000
theorem speedP_of {p b r : Int} (h : Best (spB p b) 2000 r) : speedP p b = r := (bestN_best (spB p b) 2000).one h
theorem speedP_bd (p b : Int) : 0 ≤ speedP p b ∧ speedP p b ≤ 2000 := by
  obtain ⟨a, b, _, _⟩ := bestN_best (spB p b) 2000
  exact ⟨a, b⟩
/-- The speed wanted, and the push, for a path that goes up. -/
def Hs.want (h : Hs) (v p : Int) : Int := min (v + h.pu) (min h.sp (speedP p h.pu))
def Hs.upP (h : Hs) (v p : Int) : Int := clip h.pu (max (Hs.want h v p) (v - h.pu) - v)
/-- The command for a floor. -/
def Hs.forC (h : Hs) (c : Cs) (f : Int) : Cm :=
  if absI (h.level f - c.pos) ≤ h.lv ∧ absI c.vel ≤ h.br then ⟨0, true, false⟩
  else if h.level f - c.pos < 0 then ⟨-(Hs.upP h (-c.vel) (-(h.level f - c.pos))), false, false⟩
  else ⟨Hs.upP h c.vel (h.level f - c.pos), false, false⟩
def Hs.cmdFor (h : Hs) (c : Cs) (f : Int) : Cm := if h.car c = 0 ∧ inB f (-1) h.fl = true ∧ c.door = 0 then Hs.forC h c f else ⟨0, false, false⟩
theorem Hs.want_bd {h : Hs} (o : h.Ok) (v p : Int) (v1 : -500 ≤ v) (v2 : v ≤ 500) : -1000 ≤ Hs.want h v p ∧ Hs.want h v p ≤ 500 := by
  have a := speedP_bd p h.pu
  have s1 := o.sp1; have s2 := o.sp2; have p1 := o.pu1; have p2 := o.pu2
  unfold Hs.want; omega
theorem Hs.upP_bd {h : Hs} (o : h.Ok) (v p : Int) : -h.pu ≤ Hs.upP h v p ∧ Hs.upP h v p ≤ h.pu := by
  have p1 := o.pu1
  exact clip_bd h.pu _ (by omega)
/-- A command is answered, and nothing that was there has turned. -/
def isCmd (w : World) (x : Cm) (e : Ending) (w' : World) : Prop := e = .returned (.agg #[.int .i64 x.push, .bool x.brk, .bool x.opn]) ∧ Below w.heap.size w w'
end Go.Proofs.Ytgdhbkgpjeedhaa
