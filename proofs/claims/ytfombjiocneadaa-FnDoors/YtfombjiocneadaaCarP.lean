/-
  StepCar: what the model and the program answer, at every argument.
-/
import Derived.Test.YtfombjiocneadaaCarN
import Derived.Test.YtfombjiocneadaaCellsP
namespace Go.Proofs.Ytfombjiocneadaa
open Go.RowKit Pl

/-- The car that StepCar answers. -/
def Hs.stepG (h : Hs) (c : Cs) (x : Cm) (d : Int) : Cs := if Hs.stepF h c x d = 0 then stepC h c x d else ⟨0, 0, 0⟩
theorem Hs.step_all {P : Int → Cs → Prop} (h : Hs) (c : Cs) (x : Cm) (d : Int)
    (h1 : h.car c ≠ 0 → P (h.car c) ⟨0, 0, 0⟩) (h2 : h.car c = 0 → h.cmd x ≠ 0 → P (h.cmd x) ⟨0, 0, 0⟩) (h3 : h.car c = 0 → h.cmd x = 0 → inB d (-h.dr) h.dr = false → P 3 ⟨0, 0, 0⟩) (h4 : h.car c = 0 → h.cmd x = 0 → inB d (-h.dr) h.dr = true → P 0 (stepC h c x d)) : P (Hs.stepF h c x d) (Hs.stepG h c x d) := by
  unfold Hs.stepG
  by_cases k1 : h.car c = 0
  · by_cases k2 : h.cmd x = 0
    · cases k3 : inB d (-h.dr) h.dr with
      | true =>
        have e : Hs.stepF h c x d = 0 := by unfold Hs.stepF; rw [if_pos k1, if_pos k2, if_pos k3]
        rw [if_pos e, e]; exact h4 k1 k2 k3
      | false =>
        have e : Hs.stepF h c x d = 3 := by unfold Hs.stepF; rw [if_pos k1, if_pos k2, if_neg (by rw [k3]; exact Bool.false_ne_true)]
        rw [if_neg (by rw [e]; decide), e]; exact h3 k1 k2 k3
    · have e : Hs.stepF h c x d = h.cmd x := by unfold Hs.stepF; rw [if_pos k1, if_neg k2]
      rw [if_neg (by rw [e]; exact k2), e]; exact h2 k1 k2
  · have e : Hs.stepF h c x d = h.car c := by unfold Hs.stepF; rw [if_neg k1]
    rw [if_neg (by rw [e]; exact k1), e]; exact h1 k1
theorem specStepCar_all (h : Hs) (c : Cs) (x : Cm) (d : Int) (w : World) :
    Calls Try.prog 10 #[.agg #[.int .i64 h.fl, .int .i64 h.gp, .int .i64 h.ln, .int .i64 h.rf, .int .i64 h.sp, .int .i64 h.pu, .int .i64 h.br, .int .i64 h.dr, .int .i64 h.lv, .int .i64 h.dO, .int .i64 h.ld, .int .i64 h.qu], .agg #[.int .i64 c.pos, .int .i64 c.vel, .int .i64 c.door], .agg #[.int .i64 x.push, .bool x.brk, .bool x.opn], .int .i64 d] w (isCar w (Hs.stepF h c x d) (Hs.stepG h c x d)) :=
  Hs.step_all (P := fun k g => Calls Try.prog 10 #[.agg #[.int .i64 h.fl, .int .i64 h.gp, .int .i64 h.ln, .int .i64 h.rf, .int .i64 h.sp, .int .i64 h.pu, .int .i64 h.br, .int .i64 h.dr, .int .i64 h.lv, .int .i64 h.dO, .int .i64 h.ld, .int .i64 h.qu], .agg #[.int .i64 c.pos, .int .i64 c.vel, .int .i64 c.door], .agg #[.int .i64 x.push, .bool x.brk, .bool x.opn], .int .i64 d] w (isCar w k g)) h c x d (fun k => specStepCar_car h c x d k w) (fun k1 k2 => specStepCar_cmd h c x d k1 k2 w) (fun k1 k2 k3 => specStepCar_out h c x d k1 k2 k3 w) (fun k1 k2 k3 => specStepCar_yes h c x d k1 k2 k3 _ rfl w)
theorem implStepCar_all (h : Hs) (c : Cs) (x : Cm) (d : Int) (w : World) :
    Calls Try.prog 9 #[.agg #[.int .i64 h.fl, .int .i64 h.gp, .int .i64 h.ln, .int .i64 h.rf, .int .i64 h.sp, .int .i64 h.pu, .int .i64 h.br, .int .i64 h.dr, .int .i64 h.lv, .int .i64 h.dO, .int .i64 h.ld, .int .i64 h.qu], .agg #[.int .i64 c.pos, .int .i64 c.vel, .int .i64 c.door], .agg #[.int .i64 x.push, .bool x.brk, .bool x.opn], .int .i64 d] w (isCar w (Hs.stepF h c x d) (Hs.stepG h c x d)) :=
  Hs.step_all (P := fun k g => Calls Try.prog 9 #[.agg #[.int .i64 h.fl, .int .i64 h.gp, .int .i64 h.ln, .int .i64 h.rf, .int .i64 h.sp, .int .i64 h.pu, .int .i64 h.br, .int .i64 h.dr, .int .i64 h.lv, .int .i64 h.dO, .int .i64 h.ld, .int .i64 h.qu], .agg #[.int .i64 c.pos, .int .i64 c.vel, .int .i64 c.door], .agg #[.int .i64 x.push, .bool x.brk, .bool x.opn], .int .i64 d] w (isCar w k g)) h c x d (fun k => implStepCar_car h c x d k w) (fun k1 k2 => implStepCar_cmd h c x d k1 k2 w) (fun k1 k2 k3 => implStepCar_out h c x d k1 k2 k3 w) (fun k1 k2 k3 => implStepCar_yes h c x d k1 k2 k3 _ rfl w)
end Go.Proofs.Ytfombjiocneadaa
