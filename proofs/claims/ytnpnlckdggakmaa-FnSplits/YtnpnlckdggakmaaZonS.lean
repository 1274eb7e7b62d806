/-
  Zones that are split, in plain numbers.
-/
import Derived.Test.YtnpnlckdggakmaaZonQ
namespace Go.Proofs.Ytnpnlckdggakmaa.Pl
set_option linter.unusedSimpArgs false
set_option linter.unusedVariables false

/-- Floor 0 and the floors from lo on, so many. -/
def spanM (lo : Nat) : Nat → Nat
  | 0 => 1
  | c + 1 => spanM lo c ||| 2 ^ (lo + c)
theorem spanM_bit (lo c f : Nat) : (spanM lo c).testBit f = (decide (f = 0) || (decide (lo ≤ f) && decide (f < lo + c))) := by
  induction c with
  | zero =>
    show (1 : Nat).testBit f = _
    rw [show (1 : Nat) = 2 ^ 0 from rfl, Nat.testBit_two_pow]
    have : (decide (lo ≤ f) && decide (f < lo + 0)) = false := by
      cases h : decide (lo ≤ f) with
      | false => rfl
      | true => rw [Bool.true_and]; exact decide_eq_false (by have := of_decide_eq_true h; omega)
    rw [this, Bool.or_false]
    exact decide_eq_decide.2 (by omega)
  | succ c ih =>
    show (spanM lo c ||| 2 ^ (lo + c)).testBit f = _
    rw [Nat.testBit_or, ih, Nat.testBit_two_pow, Bool.or_assoc]
    congr 1
    rw [Bool.eq_iff_iff]
    simp only [Bool.or_eq_true, Bool.and_eq_true, decide_eq_true_eq]
    omega
theorem spanM_lt {lo c n : Nat} (h : lo + c ≤ n) (hn : 0 < n) : spanM lo c < 2 ^ n := by
  apply Nat.lt_pow_two_of_testBit
  intro i hi
  rw [spanM_bit]
  simp
  omega
theorem spanM_ne {lo c : Nat} (h1 : 1 ≤ lo) (h : 0 < c) : spanM lo c ≠ 1 := by
  intro e
  have q := spanM_bit lo c lo
  rw [e, show (1 : Nat) = 2 ^ 0 from rfl, Nat.testBit_two_pow] at q
  have a : decide (0 = lo) = false := decide_eq_false (by omega)
  rw [a] at q
  have b : (decide (lo = 0) || (decide (lo ≤ lo) && decide (lo < lo + c))) = true := by simp; omega
  rw [b] at q
  cases q
/-- How many floors of its share there are. -/
def cntM (n q k : Nat) : Nat := min q (n - (1 + k * q))
/-- The zone of a car. -/
def zoneM (n q k : Nat) : Nat := if 1 + k * q < n then spanM (1 + k * q) (cntM n q k) else 1 ||| 2 ^ (n - 1)
theorem zoneM_lt {n q k : Nat} (hn : 2 ≤ n) : zoneM n q k < 2 ^ n := by
  unfold zoneM cntM
  split
  · exact spanM_lt (by omega) (by omega)
  · have e : 1 ||| 2 ^ (n - 1) = spanM (n - 1) 1 := rfl
    rw [e]
    exact spanM_lt (by omega) (by omega)
theorem zoneM_bit {n q k : Nat} (hn : 2 ≤ n) (hq : 1 ≤ q) (f : Nat) : (zoneM n q k).testBit f = true ↔ f = 0 ∨ (f < n ∧ ((1 + k * q ≤ f ∧ f < 1 + k * q + q) ∨ (n ≤ 1 + k * q ∧ f = n - 1))) := by
  unfold zoneM
  split
  · rename_i h
    rw [spanM_bit]
    unfold cntM
    simp only [Bool.or_eq_true, Bool.and_eq_true, decide_eq_true_eq]
    generalize k * q = z at *
    omega
  · rename_i h
    have e : 1 ||| 2 ^ (n - 1) = spanM (n - 1) 1 := rfl
    rw [e, spanM_bit]
    simp only [Bool.or_eq_true, Bool.and_eq_true, decide_eq_true_eq]
    generalize k * q = z at *
    omega
def upQ (a b : Nat) : Nat := (a + b - 1) / b
def splitL (n c : Nat) : List Int := (List.range c).map (fun k => ((zoneM n (upQ (n - 1) c) k : Nat) : Int))
def Hs.spK (h : Hs) (c : Int) : Int := if h.fault = 0 then (if inB c 1 6 = true then 0 else 3) else h.fault
def Hs.spL (h : Hs) (c : Int) : List Int := if h.spK c = 0 then splitL h.fl.toNat c.toNat else []
theorem spL_len (h : Hs) (c : Int) : (h.spL c).length ≤ 1048576 := by
  unfold Hs.spL Hs.spK
  by_cases hf : h.fault = 0
  · rw [if_pos hf]
    cases hc : inB c 1 6 with
    | false => simp
    | true =>
      have := inB_iff.1 hc
      simp [splitL]
      omega
  · rw [if_neg hf, if_neg hf]; simp
theorem upQ_pos {n c : Nat} (hn : 2 ≤ n) (hc : 1 ≤ c) : 1 ≤ upQ (n - 1) c := by
  unfold upQ
  exact (Nat.le_div_iff_mul_le (by omega)).2 (by omega)
theorem upQ_le {n c : Nat} (hc : 1 ≤ c) (h2 : 2 ≤ n) (hn : n ≤ 12) : upQ (n - 1) c ≤ 11 := by
  unfold upQ
  have : (n - 1 + c - 1) / c ≤ n - 1 := by
    refine Nat.div_le_of_le_mul ?_
    obtain ⟨d, rfl⟩ : ∃ d, c = d + 1 := ⟨c - 1, by omega⟩
    rw [Nat.add_mul]
    have := Nat.mul_le_mul_left d (show 1 ≤ n - 1 by omega)
    omega
  omega
/-- The first zones. -/
def spP (n q k : Nat) : List Int := (List.range k).map (fun j => ((zoneM n q j : Nat) : Int))
theorem spP_succ (n q k : Nat) : spP n q (k + 1) = spP n q k ++ [((zoneM n q k : Nat) : Int)] := by unfold spP; rw [List.range_succ, List.map_append]; rfl
theorem spP_len (n q k : Nat) : (spP n q k).length = k := by simp [spP]
theorem upQ_eq (n c : Nat) (n2 : 2 ≤ n) : ((n : Int) - 1 + (c : Int) - 1) / (c : Int) = ((upQ (n - 1) c : Nat) : Int) := by
  have e : (n : Int) - 1 + (c : Int) - 1 = ((n - 1 + c - 1 : Nat) : Int) := by omega
  rw [e]
  exact (Int.natCast_ediv _ _).symm
theorem p12n {n : Nat} (h : n ≤ 12) : 2 ^ n ≤ 4096 := by
  have := Nat.pow_le_pow_right (show 0 < 2 by decide) h
  simpa using this
end Go.Proofs.Ytnpnlckdggakmaa.Pl
