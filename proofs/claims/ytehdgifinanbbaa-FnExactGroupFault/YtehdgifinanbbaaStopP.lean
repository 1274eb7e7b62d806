/-
  The path of whoever brakes, in plain arithmetic.
-/
namespace Go.Proofs.Ytehdgifinanbbaa.Pl

/-- The path to a stop: n whole brakings, n = s / b. -/
def stopP (s b : Int) : Int := s / b * s - b * (s / b * (s / b + 1) / 2)

theorem half (n : Int) : n * (n + 1) = 2 * (n * (n + 1) / 2) := by
  have h : n * (n + 1) % 2 = 0 := by
    rcases Int.emod_two_eq n with h | h
    · rw [Int.mul_emod, h]; simp
    · have : (n + 1) % 2 = 0 := by omega
      rw [Int.mul_emod, this]; simp
  omega
theorem specHalf (b n : Int) : b * n * (n + 1) / 2 = b * (n * (n + 1) / 2) := by
  have h := half n
  have : b * n * (n + 1) = 2 * (b * (n * (n + 1) / 2)) := by rw [Int.mul_assoc, h, Int.mul_left_comm]; congr 2; omega
  omega
theorem quot_bd (s b : Int) (h0 : 0 ≤ s) (hb : 1 ≤ b) : 0 ≤ s / b ∧ s / b ≤ s ∧ b * (s / b) ≤ s ∧ s < b * (s / b) + b := by
  have h1 : 0 ≤ s / b := Int.ediv_nonneg h0 (by omega)
  have h2 := Int.mul_ediv_add_emod s b
  have h3 := Int.emod_nonneg s (b := b) (by omega)
  have h4 := Int.emod_lt_of_pos s (b := b) (by omega)
  have h5 : 1 * (s / b) ≤ b * (s / b) := Int.mul_le_mul_of_nonneg_right hb h1
  exact ⟨h1, by omega, by omega, by omega⟩
theorem mul_bd {x y X Y : Int} (h0 : 0 ≤ x) (h1 : x ≤ X) (h2 : 0 ≤ y) (h3 : y ≤ Y) : 0 ≤ x * y ∧ x * y ≤ X * Y :=
  ⟨Int.mul_nonneg h0 h2, Int.mul_le_mul h1 h3 h2 (by omega)⟩
/-- All numbers on the way are small. -/
theorem stop_bds (s b n : Int) (h0 : 0 ≤ s) (h1 : s ≤ 2000) (hb : 1 ≤ b) (hn : s / b = n) :
    0 ≤ n ∧ n ≤ 2000 ∧ (0 ≤ n * s ∧ n * s ≤ 4000000) ∧ (0 ≤ n * (n + 1) ∧ n * (n + 1) ≤ 4002000) ∧ (0 ≤ b * n ∧ b * n ≤ 2000) ∧ (0 ≤ b * n * (n + 1) ∧ b * n * (n + 1) ≤ 4002000) ∧ (0 ≤ b * (n * (n + 1) / 2) ∧ b * (n * (n + 1) / 2) ≤ 4002000) := by
  have hq := quot_bd s b h0 hb
  rw [hn] at hq
  obtain ⟨q1, q2, q3, q4⟩ := hq
  have m1 := mul_bd (X := 2000) (Y := 2000) q1 (by omega) h0 h1
  have m2 := mul_bd (X := 2000) (Y := 2001) q1 (by omega) (y := n + 1) (by omega) (by omega)
  have m3 : 0 ≤ b * n := Int.mul_nonneg (by omega) q1
  have m4 := mul_bd (X := 2000) (Y := 2001) m3 (by omega) (y := n + 1) (by omega) (by omega)
  have hh := specHalf b n
  exact ⟨q1, by omega, by omega, by omega, by omega, by omega, by omega⟩
/-- One more of speed: as much more path as there are whole brakings. -/
theorem stop_succ (s b : Int) (h0 : 0 ≤ s) (hb : 1 ≤ b) : stopP (s + 1) b = stopP s b + s / b := by
  have q := quot_bd s b h0 hb
  have q' := quot_bd (s + 1) b (by omega) hb
  unfold stopP
  obtain ⟨n, hn⟩ : ∃ n, s / b = n := ⟨_, rfl⟩
  obtain ⟨m, hm⟩ : ∃ m, (s + 1) / b = m := ⟨_, rfl⟩
  rw [hn] at q ⊢; rw [hm] at q' ⊢
  obtain ⟨q1, q2, q3, q4⟩ := q
  obtain ⟨p1, p2, p3, p4⟩ := q'
  have : m = n ∨ m = n + 1 := by
    by_cases h : m ≤ n
    · by_cases h' : m = n
      · exact Or.inl h'
      · have : b * (m + 1) ≤ b * n := Int.mul_le_mul_of_nonneg_left (by omega) (by omega)
        rw [Int.mul_add] at this; omega
    · by_cases h' : m = n + 1
      · exact Or.inr h'
      · have : b * (n + 2) ≤ b * m := Int.mul_le_mul_of_nonneg_left (by omega) (by omega)
        rw [Int.mul_add] at this; omega
  rcases this with rfl | rfl
  · rw [Int.mul_add]; omega
  · have e1 : b * (n + 1) = s + 1 := by
      have : b * (n + 1) = b * n + b := by rw [Int.mul_add]; omega
      omega
    have e2 : (n + 1) * (n + 1 + 1) / 2 = n * (n + 1) / 2 + (n + 1) := by
      have : (n + 1) * (n + 1 + 1) = n * (n + 1) + 2 * (n + 1) := by rw [Int.mul_comm (n + 1) (n + 1 + 1), ← Int.add_mul]; congr 1; omega
      omega
    have e3 : (n + 1) * (s + 1) = n * s + n + s + 1 := by rw [Int.add_mul, Int.mul_add]; omega
    have e4 : b * (n * (n + 1) / 2 + (n + 1)) = b * (n * (n + 1) / 2) + (s + 1) := by rw [Int.mul_add, e1]
    rw [e2, e4, e3]
    omega
theorem stop_mono (s b : Int) (k : Nat) (h0 : 0 ≤ s) (hb : 1 ≤ b) : stopP s b ≤ stopP (s + k) b := by
  induction k with
  | zero => simp
  | succ k ih =>
    have h := stop_succ (s + k) b (by omega) hb
    have hq := quot_bd (s + k) b (by omega) hb
    have e : s + ((k + 1 : Nat) : Int) = s + k + 1 := by omega
    rw [e, h]; omega
theorem stop_le (x y b : Int) (h0 : 0 ≤ x) (h : x ≤ y) (hb : 1 ≤ b) : stopP x b ≤ stopP y b := by
  have := stop_mono x b (y - x).toNat h0 hb
  rwa [show x + ((y - x).toNat : Int) = y by omega] at this
end Go.Proofs.Ytehdgifinanbbaa.Pl
