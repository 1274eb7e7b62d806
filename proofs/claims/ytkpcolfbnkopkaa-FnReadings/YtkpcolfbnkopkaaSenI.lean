/-
  Sensors: a reading is told again by its bits, and with one bit turned it is none.
-/
import Derived.Test.YtkpcolfbnkopkaaSenF
import Derived.Test.YtkpcolfbnkopkaaSenH
namespace Go.Proofs.Ytkpcolfbnkopkaa
open Go.RowKit Pl
set_option linter.unusedSimpArgs false
set_option linter.unusedVariables false
theorem packP_range (p v : Int) : 0 ≤ packP p v ∧ packP p v < 4294967296 := by
  have := packB_nat p v
  rw [packP_num]
  generalize popc (packB p v).toNat = c
  omega
theorem packP_self (p v : Int) : selfB (packP p v).toNat := by
  obtain ⟨h0, h1⟩ := packB_nat p v
  unfold selfB
  rw [packP_num]
  obtain ⟨a, ha⟩ : ∃ a : Nat, packB p v = (a : Int) := ⟨(packB p v).toNat, by omega⟩
  rw [ha, Int.toNat_natCast]
  have e : ((a : Int) * 4 + ((popc a % 4 : Nat) : Int)).toNat = 4 * a + popc a % 4 := by omega
  rw [e]
  have e2 : (4 * a + popc a % 4) / 4 = a := by omega
  rw [e2]
  omega
theorem unP_pack {p v : Int} (h : isReading p v = true) : unP (packP p v) = p ∧ unQ (packP p v) = v := by
  unfold isReading at h
  rw [Bool.and_eq_true] at h
  obtain ⟨p1, p2⟩ := inB_iff.1 h.1
  obtain ⟨v1, v2⟩ := inB_iff.1 h.2
  have hb := packB_num p v
  have hx := packP_num p v
  obtain ⟨c, hc⟩ : ∃ c : Nat, popc (packB p v).toNat % 4 = c := ⟨_, rfl⟩
  have hc4 : c < 4 := by rw [← hc]; exact Nat.mod_lt _ (by decide)
  rw [hc] at hx
  clear hc
  unfold unP unQ
  rw [and10]
  generalize packP p v = x at *
  generalize packB p v = b at *
  have w1 : wrap64 (x / 4096 - 1048576) = x / 4096 - 1048576 := by unfold wrap64; omega
  have w2 : wrap64 (x / 4 % 1024 - 1024) = x / 4 % 1024 - 1024 := by unfold wrap64; omega
  rw [w1, w2]
  constructor <;> split <;> omega
theorem inB_of {x a b : Int} (h1 : a ≤ x) (h2 : x ≤ b) : inB x a b = true := inB_iff.2 ⟨h1, h2⟩
/-- Told again. -/
theorem un_pack {p v : Int} (h : isReading p v = true) : unK (packP p v) = 0 ∧ unA (packP p v) = p ∧ unB (packP p v) = v := by
  obtain ⟨e1, e2⟩ := unP_pack h
  obtain ⟨r1, r2⟩ := packP_range p v
  have k : unK (packP p v) = 0 := by
    unfold unK
    rw [if_pos (inB_of r1 (by omega)), e1, e2]
    unfold packV
    rw [if_pos h, if_pos rfl]
  unfold unA unB
  rw [if_pos k, if_pos k]
  exact ⟨k, e1, e2⟩
theorem unK_self {x : Int} (h : unK x = 0) : selfB x.toNat := by
  unfold unK at h
  split at h
  · split at h
    · rename_i hx q
      unfold packV at q
      split at q
      · rw [← q]; exact packP_self _ _
      · rw [← q]; show 0 % 4 = popc (0 / 4) % 4; rw [show 0 / 4 = 0 from rfl, popc_zero]
    · omega
  · omega
theorem unK_or (x : Int) (h : inB x 0 4294967295 = true) : unK x = 0 ∨ unK x = 1 := by
  unfold unK
  rw [if_pos h]
  split
  · exact Or.inl rfl
  · exact Or.inr rfl
/-- With one bit turned it is none. -/
theorem un_bent {p v : Int} {k : Nat} (hk : k < 32) : unK (((packP p v).toNat ^^^ 2 ^ k : Nat) : Int) = 1 := by
  obtain ⟨r1, r2⟩ := packP_range p v
  have l1 : (packP p v).toNat < 2 ^ 32 := by omega
  have l2 : 2 ^ k < 2 ^ 32 := Nat.pow_lt_pow_right (by decide) hk
  have l := Nat.xor_lt_two_pow l1 l2
  have s := packP_self p v
  rcases unK_or (((packP p v).toNat ^^^ 2 ^ k : Nat) : Int) (inB_of (by omega) (by omega)) with z | z
  · have t := unK_self z
    rw [Int.toNat_natCast] at t
    exact absurd t (selfB_flip s)
  · exact z
end Go.Proofs.Ytkpcolfbnkopkaa
