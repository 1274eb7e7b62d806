/-
  The greatest number that fits, in plain words: what the halving of a range finds.
-/
namespace Go.Proofs.Ytgdhbkgpjeedhaa.Pl

/-- What fits, fits below too. -/
def Falls (f : Int → Bool) (top : Int) : Prop := ∀ x y, 0 ≤ x → x ≤ y → y ≤ top → f y = true → f x = true
/-- r is the greatest number up to top that fits (0, if none does). -/
def Best (f : Int → Bool) (top r : Int) : Prop := 0 ≤ r ∧ r ≤ top ∧ (r = 0 ∨ f r = true) ∧ ∀ x, r < x → x ≤ top → f x = false
/-- The range from lo to hi holds the greatest number that fits. -/
def Within (f : Int → Bool) (top lo hi : Int) : Prop := 0 ≤ lo ∧ lo ≤ hi ∧ hi ≤ top ∧ (lo = 0 ∨ f lo = true) ∧ ∀ x, hi < x → x ≤ top → f x = false

theorem Best.one {f : Int → Bool} {top r s : Int} (h : Best f top r) (g : Best f top s) : r = s := by
  obtain ⟨h1, h2, h3, h4⟩ := h
  obtain ⟨g1, g2, g3, g4⟩ := g
  by_cases hlt : r < s
  · have := h4 s hlt g2
    rcases g3 with g3 | g3
    · omega
    · rw [this] at g3; cases g3
  · by_cases hgt : s < r
    · have := g4 r hgt h2
      rcases h3 with h3 | h3
      · omega
      · rw [this] at h3; cases h3
    · omega
theorem Within.start (f : Int → Bool) {top : Int} (h : 0 ≤ top) : Within f top 0 top := ⟨by omega, h, by omega, Or.inl rfl, fun x h1 h2 => by omega⟩
theorem Within.done {f : Int → Bool} {top lo hi : Int} (h : Within f top lo hi) (hge : ¬ lo < hi) : Best f top lo := by
  obtain ⟨h1, h2, h3, h4, h5⟩ := h
  obtain rfl : lo = hi := by omega
  exact ⟨h1, h3, h4, h5⟩
theorem Within.yes {f : Int → Bool} {top lo hi m : Int} (h : Within f top lo hi) (h1 : lo < m) (h2 : m ≤ hi) (hf : f m = true) : Within f top m hi := by
  obtain ⟨g1, g2, g3, g4, g5⟩ := h
  exact ⟨by omega, h2, g3, Or.inr hf, g5⟩
theorem Within.no {f : Int → Bool} {top lo hi m : Int} (hfall : Falls f top) (h : Within f top lo hi) (h1 : lo < m) (h2 : m ≤ hi) (hf : f m = false) : Within f top lo (m - 1) := by
  obtain ⟨g1, g2, g3, g4, g5⟩ := h
  refine ⟨g1, by omega, by omega, g4, fun x hx hx2 => ?_⟩
  cases hfx : f x with
  | false => rfl
  | true => have := hfall m x (by omega) (by omega) hx2 hfx; rw [hf] at this; cases this

/-- The root's test: a square that is not above n. -/
def sqB (n r : Int) : Bool := decide (r * r ≤ n)
theorem sqB_falls (n top : Int) : Falls (sqB n) top := by
  intro x y h0 h1 h2 h3
  unfold sqB at *
  have h3 : y * y ≤ n := of_decide_eq_true h3
  have : x * x ≤ y * y := Int.mul_le_mul h1 h1 h0 (by omega)
  exact decide_eq_true (by omega)
theorem sq_bd (m : Int) (h0 : 0 ≤ m) (h1 : m ≤ 33554432) : 0 ≤ m * m ∧ m * m ≤ 1125899906842624 := by
  refine ⟨Int.mul_nonneg h0 h0, ?_⟩
  have : m * m ≤ 33554432 * 33554432 := Int.mul_le_mul h1 h1 h0 (by omega)
  omega
end Go.Proofs.Ytgdhbkgpjeedhaa.Pl
