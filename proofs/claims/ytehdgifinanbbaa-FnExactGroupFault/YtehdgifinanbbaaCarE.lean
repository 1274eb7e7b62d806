/-
  Where a car without a fault is, and how far it may come, in plain numbers.
-/
import Derived.Test.YtehdgifinanbbaaCar
namespace Go.Proofs.Ytehdgifinanbbaa
open Pl

theorem car_env {h : Hs} {c : Cs} (k : CarOk h c) : -9000000 ≤ h.lo c.pos c.vel ∧ h.lo c.pos c.vel ≤ c.pos ∧ c.pos ≤ h.hi c.pos c.vel ∧ h.hi c.pos c.vel ≤ 9000000 ∧ -5000000 ≤ c.pos ∧ c.pos ≤ 5000000 ∧ -500 ≤ c.vel ∧ c.vel ≤ 500 := by
  have o := k.ok
  have en := o.ends; have s2 := o.sp2; have b1 := o.pu1; have b2 := o.br1
  have p1 := k.p1; have p2 := k.p2; have v1 := k.v1; have v2 := k.v2
  unfold Hs.lo Hs.hi
  by_cases c1 : 0 < c.vel
  · obtain ⟨s3, s4⟩ := stop_small c.vel h.br (by omega) (by omega) (by omega)
    rw [if_neg (by omega), if_pos c1]; omega
  · by_cases c2 : c.vel < 0
    · obtain ⟨s3, s4⟩ := stop_small (-c.vel) h.br (by omega) (by omega) (by omega)
      rw [if_pos c2, if_neg c1]; omega
    · rw [if_neg c2, if_neg c1]; omega

end Go.Proofs.Ytehdgifinanbbaa
