/-
  Braking tick by tick: the path, the ticks and the bound, in plain numbers.
-/
import Derived.Test.YtehdgifinanbbaaStop
import Derived.Test.YtehdgifinanbbaaMove
namespace Go.Proofs.Ytehdgifinanbbaa
open Go.RowKit Pl

/-- How many ticks it takes to brake. -/
def ticks (v b : Int) : Int := (v + b - 1) / b

theorem quot_shift (v b : Int) (hb : 1 ≤ b) : v / b = (v - b) / b + 1 := by
  have h := Int.add_mul_ediv_left (v - b) 1 (show b ≠ 0 by omega)
  rw [show v - b + b * 1 = v by omega] at h
  exact h
theorem stopP_brk (v b : Int) (hv : 0 < v) (hb : 1 ≤ b) : stopP v b = brk v b + stopP (brk v b) b := by
  by_cases h : 0 < v - b
  · have e : brk v b = v - b := by unfold brk; rw [if_neg (by omega), if_pos h]
    rw [e]
    unfold stopP
    have hq := quot_shift v b hb
    obtain ⟨n, hn⟩ : ∃ n, (v - b) / b = n := ⟨_, rfl⟩
    rw [hn] at hq ⊢
    rw [hq]
    have h1 : (n + 1) * v = n * v + v := by rw [Int.add_mul]; omega
    have h2 : n * (v - b) = n * v - b * n := by rw [Int.mul_sub, Int.mul_comm n b]
    have h3 : (n + 1) * (n + 1 + 1) / 2 = n * (n + 1) / 2 + (n + 1) := by
      have : (n + 1) * (n + 1 + 1) = n * (n + 1) + 2 * (n + 1) := by rw [Int.mul_comm (n + 1) (n + 1 + 1), ← Int.add_mul]; congr 1; omega
      omega
    have h4 : b * (n * (n + 1) / 2 + (n + 1)) = b * (n * (n + 1) / 2) + b * n + b := by rw [Int.mul_add, Int.mul_add b n 1]; omega
    rw [h1, h2, h3, h4]; omega
  · have e : brk v b = 0 := by unfold brk; rw [if_neg (by omega), if_neg h]
    rw [e]
    have e0 : stopP 0 b = 0 := by unfold stopP; simp
    rw [e0]
    by_cases hvb : v = b
    · subst hvb
      have h1 : v / v = 1 := Int.ediv_self (by omega)
      unfold stopP; rw [h1]; omega
    · have h1 : v / b = 0 := Int.ediv_eq_zero_of_lt (by omega) (by omega)
      unfold stopP; rw [h1]; simp
theorem ticks_brk (v b : Int) (hv : 0 < v) (hb : 1 ≤ b) : ticks v b = ticks (brk v b) b + 1 := by
  unfold ticks
  have hq := quot_shift (v + b - 1) b hb
  by_cases h : 0 < v - b
  · have e : brk v b = v - b := by unfold brk; rw [if_neg (by omega), if_pos h]
    rw [e, hq]; congr 2; omega
  · have e : brk v b = 0 := by unfold brk; rw [if_neg (by omega), if_neg h]
    rw [e, hq]
    have h1 : (v + b - 1 - b) / b = 0 := Int.ediv_eq_zero_of_lt (by omega) (by omega)
    have h2 : (0 + b - 1) / b = 0 := Int.ediv_eq_zero_of_lt (by omega) (by omega)
    rw [h1, h2]
theorem ticks_zero (b : Int) (hb : 1 ≤ b) : ticks 0 b = 0 := Int.ediv_eq_zero_of_lt (by omega) (by omega)
theorem ticks_bd (v b : Int) (h0 : 0 ≤ v) (h1 : v ≤ 2000) (hb : 1 ≤ b) : 0 ≤ ticks v b ∧ ticks v b ≤ 2000 := by
  unfold ticks
  refine ⟨Int.ediv_nonneg (by omega) (by omega), ?_⟩
  refine Int.ediv_le_of_le_mul (by omega) ?_
  have : 2000 * b = 2000 * (b - 1) + 2000 := by omega
  have : 1 * (b - 1) ≤ 2000 * (b - 1) := Int.mul_le_mul_of_nonneg_right (by omega) (by omega)
  omega
theorem stopP_zero (b : Int) : stopP 0 b = 0 := by unfold stopP; simp
theorem stopP_nonneg (v b : Int) (h0 : 0 ≤ v) (hb : 1 ≤ b) : 0 ≤ stopP v b := by
  have h := stop_le 0 v b (Int.le_refl 0) h0 hb
  rw [stopP_zero] at h
  exact h
/-- The path is within the bound. -/
theorem stop_bound (s b : Int) (h0 : 0 ≤ s) (hb : 1 ≤ b) : stopP s b ≤ (s * s + 2 * b - 1) / (2 * b) := by
  have h : stopP s b * (2 * b) ≤ s * s := by
    unfold stopP
    obtain ⟨n, hn⟩ : ∃ n, s / b = n := ⟨_, rfl⟩
    rw [hn]
    have hh := half n
    obtain ⟨m, hm⟩ : ∃ m, n * (n + 1) / 2 = m := ⟨_, rfl⟩
    rw [hm] at hh ⊢
    have hsq : 0 ≤ (s - b * n) * (s - b * n) := by
      by_cases hs : 0 ≤ s - b * n
      · exact Int.mul_nonneg hs hs
      · have := Int.mul_nonneg (show 0 ≤ -(s - b * n) by omega) (show 0 ≤ -(s - b * n) by omega)
        rwa [Int.neg_mul_neg] at this
    have e1 : (s - b * n) * (s - b * n) = s * s - 2 * (b * n * s) + b * n * (b * n) := by
      rw [Int.sub_mul, Int.mul_sub, Int.mul_sub, Int.mul_comm s (b * n)]; omega
    have e2 : (n * s - b * m) * (2 * b) = 2 * (b * n * s) - b * b * (2 * m) := by
      rw [Int.sub_mul]
      have a1 : n * s * (2 * b) = 2 * (b * n * s) := by
        rw [Int.mul_comm (n * s) (2 * b), Int.mul_assoc 2 b (n * s), Int.mul_assoc b n s]
      have a2 : b * m * (2 * b) = b * b * (2 * m) := by
        rw [Int.mul_assoc b m (2 * b), Int.mul_assoc b b (2 * m)]; congr 1; rw [Int.mul_left_comm m 2 b, Int.mul_left_comm b 2 m, Int.mul_comm m b]
      rw [a1, a2]
    have e3 : b * b * (2 * m) = b * n * (b * n) + b * b * n := by
      rw [← hh, Int.mul_add n n 1, Int.mul_add]
      have : b * b * (n * n) = b * n * (b * n) := by rw [Int.mul_assoc b b, Int.mul_assoc b n, Int.mul_left_comm b n n, Int.mul_left_comm n b n]
      rw [this]; congr 1; rw [Int.mul_one]
    have hn0 : 0 ≤ n := by rw [← hn]; exact Int.ediv_nonneg h0 (by omega)
    have e4 : 0 ≤ b * b * n := Int.mul_nonneg (Int.mul_nonneg (by omega) (by omega)) hn0
    rw [e1] at hsq
    rw [e2, e3]
    omega
  have h2 : stopP s b ≤ s * s / (2 * b) := (Int.le_ediv_iff_mul_le (by omega)).2 h
  have h3 : s * s / (2 * b) ≤ (s * s + 2 * b - 1) / (2 * b) := Int.ediv_le_ediv (by omega) (by omega)
  omega

theorem brk_lt (v b : Int) (hv : 0 < v) (hb : 1 ≤ b) : brk v b < v := by unfold brk; (repeat' split) <;> omega
theorem brk_nonneg (v b : Int) (hv : 0 < v) : 0 ≤ brk v b := by unfold brk; (repeat' split) <;> omega
theorem brk_back (s b : Int) (h : 0 ≤ s) (hb : 1 ≤ b) : brk (-s) b ≤ 0 := by unfold brk; (repeat' split) <;> omega

/-- What holds at each tick of who brakes: the path so far and the path to come are the path that is told; so with the ticks. -/
structure StopInv (s b A V N : Int) : Prop where
  v0 : 0 ≤ V
  v1 : V ≤ s
  a0 : 0 ≤ A
  n0 : 0 ≤ N
  path : A + stopP V b = stopP s b
  tick : N + ticks V b = ticks s b
theorem StopInv.start (s b : Int) (h : 0 ≤ s) : StopInv s b 0 s 0 := ⟨h, Int.le_refl _, Int.le_refl _, Int.le_refl _, by omega, by omega⟩
theorem StopInv.bounds {s b A V N : Int} (h : StopInv s b A V N) (h1 : 0 ≤ s) (h2 : s ≤ 2000) (hb : 1 ≤ b) : 0 ≤ V ∧ V ≤ 2000 ∧ 0 ≤ A ∧ A ≤ 4000000 ∧ 0 ≤ N ∧ N ≤ 2000 := by
  have h3 := stop_bds s b _ h1 h2 hb rfl
  have h4 := stopP_nonneg V b h.v0 hb
  have h5 := ticks_bd s b h1 h2 hb
  have h6 := ticks_bd V b h.v0 (by have := h.v1; omega) hb
  have h7 := h.path
  have h8 := h.tick
  have h9 : stopP s b ≤ 4000000 := by unfold stopP; omega
  exact ⟨h.v0, by have := h.v1; omega, h.a0, by omega, h.n0, by omega⟩
theorem StopInv.next {s b A V N : Int} (h : StopInv s b A V N) (hv : 0 < V) (hb : 1 ≤ b) : StopInv s b (A + brk V b) (brk V b) (N + 1) :=
  ⟨brk_nonneg V b hv, by have := brk_lt V b hv hb; have := h.v1; omega, by have := brk_nonneg V b hv; have := h.a0; omega, by have := h.n0; omega, by have := stopP_brk V b hv hb; have := h.path; omega, by have := ticks_brk V b hv hb; have := h.tick; omega⟩
theorem StopInv.done {s b A V N : Int} (h : StopInv s b A V N) (hv : ¬ 0 < V) (hb : 1 ≤ b) : A = stopP s b ∧ N = (s + b - 1) / b := by
  obtain rfl : V = 0 := by have := h.v0; omega
  have h1 := h.path
  have h2 := h.tick
  rw [stopP_zero] at h1
  rw [ticks_zero b hb] at h2
  unfold ticks at h2
  exact ⟨by omega, by omega⟩
end Go.Proofs.Ytehdgifinanbbaa
