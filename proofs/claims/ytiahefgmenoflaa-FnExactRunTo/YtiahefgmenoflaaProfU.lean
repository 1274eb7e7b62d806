/-
  RunTo and CommandFor: what the model answers at every argument; answers that are the same.
-/
import Derived.Test.YtiahefgmenoflaaProfS
import Derived.Test.YtiahefgmenoflaaCellsX
import Derived.Test.YtiahefgmenoflaaCarT
namespace Go.Proofs.Ytiahefgmenoflaa
open Go.RowKit Pl

/-- What RunTo answers: its code, its ticks, its car. -/
def Hs.runA (h : Hs) (c : Cs) (f t : Int) : Int × Int × Cs :=
  if h.car c = 0 then (if inB f (-1) h.fl = true ∧ inB t 0 3000 = true then (if c.door = 0 then Hs.runK h f t t.toNat c 0 else (1, 0, ⟨0, 0, 0⟩)) else (3, 0, ⟨0, 0, 0⟩)) else (h.car c, 0, ⟨0, 0, 0⟩)
theorem Hs.run_all {P : Int → Int → Cs → Prop} (h : Hs) (c : Cs) (f t : Int) (h1 : h.car c ≠ 0 → P (h.car c) 0 ⟨0, 0, 0⟩) (h2 : h.car c = 0 → inB f (-1) h.fl = false → P 3 0 ⟨0, 0, 0⟩) (h3 : h.car c = 0 → inB f (-1) h.fl = true → inB t 0 3000 = false → P 3 0 ⟨0, 0, 0⟩)
    (h4 : h.car c = 0 → inB f (-1) h.fl = true → inB t 0 3000 = true → c.door ≠ 0 → P 1 0 ⟨0, 0, 0⟩) (h5 : h.car c = 0 → inB f (-1) h.fl = true → inB t 0 3000 = true → c.door = 0 → ∀ R, Hs.runK h f t t.toNat c 0 = R → P R.1 R.2.1 R.2.2) : P (Hs.runA h c f t).1 (Hs.runA h c f t).2.1 (Hs.runA h c f t).2.2 := by
  unfold Hs.runA
  by_cases k : h.car c = 0
  · rw [if_pos k]
    cases hi : inB f (-1) h.fl with
    | false => rw [if_neg (by simp)]; exact h2 k hi
    | true =>
      cases ht : inB t 0 3000 with
      | false => rw [if_neg (by simp)]; exact h3 k hi ht
      | true =>
        rw [if_pos (by simp)]
        by_cases dz : c.door = 0
        · rw [if_pos dz]; exact h5 k hi ht dz _ rfl
        · rw [if_neg dz]; exact h4 k hi ht dz
  · rw [if_neg k]; exact h1 k
theorem specRunTo_all (h : Hs) (c : Cs) (f t : Int) (w : World) :
    Calls Try.prog 27 #[.agg #[.int .i64 h.fl, .int .i64 h.gp, .int .i64 h.ln, .int .i64 h.rf, .int .i64 h.sp, .int .i64 h.pu, .int .i64 h.br, .int .i64 h.dr, .int .i64 h.lv, .int .i64 h.dO, .int .i64 h.ld, .int .i64 h.qu], .agg #[.int .i64 c.pos, .int .i64 c.vel, .int .i64 c.door], .int .i64 f, .int .i64 t] w (isRun w (Hs.runA h c f t).1 (Hs.runA h c f t).2.1 (Hs.runA h c f t).2.2) :=
  Hs.run_all (P := fun a b g => Calls Try.prog 27 #[.agg #[.int .i64 h.fl, .int .i64 h.gp, .int .i64 h.ln, .int .i64 h.rf, .int .i64 h.sp, .int .i64 h.pu, .int .i64 h.br, .int .i64 h.dr, .int .i64 h.lv, .int .i64 h.dO, .int .i64 h.ld, .int .i64 h.qu], .agg #[.int .i64 c.pos, .int .i64 c.vel, .int .i64 c.door], .int .i64 f, .int .i64 t] w (isRun w a b g)) h c f t (fun k => specRunTo_no h c f t k w) (fun k1 k2 => specRunTo_f h c f t k1 k2 w) (fun k1 k2 k3 => specRunTo_t h c f t k1 k2 k3 w) (fun k1 k2 k3 k4 => specRunTo_d h c f t k1 k2 k3 k4 w) (fun k1 k2 k3 k4 R hR => specRunTo_yes h c f t k1 k2 k3 k4 R hR w)
set_option maxHeartbeats 1000000 in
theorem eqRunResult_same (k n : Int) (c : Cs) (w : World) :
    Calls Try.prog 29 #[.agg #[.int .i64 k, .int .i64 n, .int .i64 c.pos, .int .i64 c.vel, .int .i64 c.door], .agg #[.int .i64 k, .int .i64 n, .int .i64 c.pos, .int .i64 c.vel, .int .i64 c.door]] w fun e w' => e = .returned (.bool true) ∧ Below w.heap.size w w' := by
  have FB : Hid (Below w.heap.size w ((w.alloc (.cells #[.int .i64 k, .int .i64 n, .int .i64 c.pos, .int .i64 c.vel, .int .i64 c.door] 65)).alloc (.cells #[.int .i64 k, .int .i64 n, .int .i64 c.pos, .int .i64 c.vel, .int .i64 c.door] 65))) := ((Below.refl _ _).alloc (Nat.le_refl _) _).alloc (by simp) _
  go_enter Try.func29, Try.ntmps29
  go_wp2_with (go_at_call 62; refine (eqCar_same c _).mono ?_; rintro e w1 ⟨rfl, hb⟩; have FB : Hid (Below w.heap.size w w1) := FB.out.trans (hb.mono FB.out.size); clear hb)
  go_ret
  exact ⟨rfl, FB.out⟩
end Go.Proofs.Ytiahefgmenoflaa
