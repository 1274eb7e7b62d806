/-
  The model's RunTo.
-/
import Derived.Test.YtgdhbkgpjeedhaaProfC
import Derived.Test.YtgdhbkgpjeedhaaCellsR
namespace Go.Proofs.Ytgdhbkgpjeedhaa
open Go.RowKit Pl
set_option linter.unusedSimpArgs false
set_option linter.unusedVariables false

/-- What a run answers: its code, its ticks, the car then; so many ticks are left at most. -/
def Hs.runK (h : Hs) (f t : Int) : Nat → Cs → Int → Int × Int × Cs
  | 0, c, n => (0, n, c)
  | k + 1, c, n => if n < t ∧ Hs.reachB h c f = false then (if h.carC (stepC h c (Hs.forC h c f) 0) = 0 then Hs.runK h f t k (stepC h c (Hs.forC h c f) 0) (n + 1) else (3, 0, ⟨0, 0, 0⟩)) else (0, n, c)
theorem runK_stop {h : Hs} {f t : Int} {k : Nat} {c : Cs} {n : Int} (e : ¬ (n < t ∧ Hs.reachB h c f = false)) : Hs.runK h f t k c n = (0, n, c) := by
  cases k with
  | zero => rfl
  | succ k => unfold Hs.runK; rw [if_neg e]
theorem runK_go {h : Hs} {f t : Int} {k : Nat} {c : Cs} {n : Int} (e : n < t ∧ Hs.reachB h c f = false) (hc : h.carC (stepC h c (Hs.forC h c f) 0) = 0) : Hs.runK h f t (k + 1) c n = Hs.runK h f t k (stepC h c (Hs.forC h c f) 0) (n + 1) := by
  rw [Hs.runK, if_pos e, if_pos hc]
theorem runK_bad {h : Hs} {f t : Int} {k : Nat} {c : Cs} {n : Int} (e : n < t ∧ Hs.reachB h c f = false) (hc : ¬ h.carC (stepC h c (Hs.forC h c f) 0) = 0) : Hs.runK h f t (k + 1) c n = (3, 0, ⟨0, 0, 0⟩) := by
  rw [Hs.runK, if_pos e, if_neg hc]
def isRun (w : World) (k n : Int) (g : Cs) (e : Ending) (w' : World) : Prop := e = .returned (.agg #[.int .i64 k, .int .i64 n, .int .i64 g.pos, .int .i64 g.vel, .int .i64 g.door]) ∧ Below w.heap.size w w'
theorem forC_push {h : Hs} (o : h.Ok) (c : Cs) (f : Int) : -h.pu ≤ (Hs.forC h c f).push ∧ (Hs.forC h c f).push ≤ h.pu := by
  have p1 := o.pu1
  have a := Hs.upP_bd o (-c.vel) (-(h.level f - c.pos))
  have b := Hs.upP_bd o c.vel (h.level f - c.pos)
  unfold Hs.forC
  split
  · dsimp only; omega
  · split <;> (dsimp only; omega)
theorem step_door {h : Hs} {c : Cs} {f : Int} (dz : c.door = 0) : (stepC h c (Hs.forC h c f) 0).door = 0 := by
  have e : (Hs.forC h c f).opn = false := by unfold Hs.forC; split; rfl; split <;> rfl
  unfold stepC
  rw [e, if_neg (by simp [dz])]
  split <;> exact dz
end Go.Proofs.Ytgdhbkgpjeedhaa
