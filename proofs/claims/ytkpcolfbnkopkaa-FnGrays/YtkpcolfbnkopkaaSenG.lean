/-
  Sensors: a reading's bits as numbers.
-/
import Derived.Test.YtkpcolfbnkopkaaSenE
namespace Go.Proofs.Ytkpcolfbnkopkaa
open Go.RowKit Pl
set_option linter.unusedSimpArgs false
set_option linter.unusedVariables false
theorem bits_nat {x : Nat} (h : x < 2 ^ 63) : (if 9223372036854775808 ≤ ((x : Nat) : Int) % 18446744073709551616 then ((x : Nat) : Int) % 18446744073709551616 - 18446744073709551616 else ((x : Nat) : Int) % 18446744073709551616) = ((x : Nat) : Int) := by
  rw [if_neg (by omega)]
  omega
theorem ofInt_toNat (p : Int) : (BitVec.ofInt 64 p).toNat = (p % 18446744073709551616).toNat := by
  rw [BitVec.toNat_ofInt]; rfl
theorem and20 (p : Int) : bits BinOp.and IntKind.i64 p 1048575 = p % 1048576 := by
  have q : (BitVec.ofInt 64 p &&& 1048575#64).toNat = (p % 18446744073709551616).toNat % 1048576 := by
    rw [BitVec.toNat_and, ofInt_toNat]
    exact Nat.and_two_pow_sub_one_eq_mod _ 20
  simp [bits, IntKind.wrap, IntKind.bits, IntKind.signed]
  refine Eq.trans (congrArg (fun z : Nat => if 9223372036854775808 ≤ (z : Int) % 18446744073709551616 then (z : Int) % 18446744073709551616 - 18446744073709551616 else (z : Int) % 18446744073709551616) q) ?_
  refine (bits_nat (by omega)).trans ?_
  omega
theorem and10 (p : Int) : bits BinOp.and IntKind.i64 p 1023 = p % 1024 := by
  have q : (BitVec.ofInt 64 p &&& 1023#64).toNat = (p % 18446744073709551616).toNat % 1024 := by
    rw [BitVec.toNat_and, ofInt_toNat]
    exact Nat.and_two_pow_sub_one_eq_mod _ 10
  simp [bits, IntKind.wrap, IntKind.bits, IntKind.signed]
  refine Eq.trans (congrArg (fun z : Nat => if 9223372036854775808 ≤ (z : Int) % 18446744073709551616 then (z : Int) % 18446744073709551616 - 18446744073709551616 else (z : Int) % 18446744073709551616) q) ?_
  refine (bits_nat (by omega)).trans ?_
  omega
theorem and2 (p : Int) : bits BinOp.and IntKind.i64 p 3 = p % 4 := by
  have q : (BitVec.ofInt 64 p &&& 3#64).toNat = (p % 18446744073709551616).toNat % 4 := by
    rw [BitVec.toNat_and, ofInt_toNat]
    exact Nat.and_two_pow_sub_one_eq_mod _ 2
  simp [bits, IntKind.wrap, IntKind.bits, IntKind.signed]
  refine Eq.trans (congrArg (fun z : Nat => if 9223372036854775808 ≤ (z : Int) % 18446744073709551616 then (z : Int) % 18446744073709551616 - 18446744073709551616 else (z : Int) % 18446744073709551616) q) ?_
  refine (bits_nat (by omega)).trans ?_
  omega
theorem or_low {a b : Nat} (k : Nat) (hb : b < 2 ^ k) (hs : 2 ^ k * a + b < 2 ^ 63) : bits BinOp.or IntKind.i64 (((2 ^ k * a : Nat)) : Int) (b : Int) = ((2 ^ k * a + b : Nat) : Int) := by
  have q : (BitVec.ofNat 64 (2 ^ k * a) ||| BitVec.ofNat 64 b).toNat = 2 ^ k * a + b := by
    rw [BitVec.toNat_or, BitVec.toNat_ofNat, BitVec.toNat_ofNat, Nat.mod_eq_of_lt (by omega), Nat.mod_eq_of_lt (by omega)]
    exact (Nat.two_pow_add_eq_or_of_lt hb a).symm
  generalize hA : 2 ^ k * a = A at *
  simp [bits, IntKind.wrap, IntKind.bits, IntKind.signed]
  refine Eq.trans (congrArg (fun z : Nat => if 9223372036854775808 ≤ (z : Int) % 18446744073709551616 then (z : Int) % 18446744073709551616 - 18446744073709551616 else (z : Int) % 18446744073709551616) q) ?_
  refine (bits_nat (by omega)).trans ?_
  omega
theorem packB_num (p v : Int) : packB p v = p % 1048576 * 1024 + v % 1024 := by
  unfold packB
  rw [and20, and10]
  obtain ⟨a, ha⟩ : ∃ a : Nat, p % 1048576 = (a : Int) := ⟨(p % 1048576).toNat, by omega⟩
  obtain ⟨b, hb⟩ : ∃ b : Nat, v % 1024 = (b : Int) := ⟨(v % 1024).toNat, by omega⟩
  have la : a < 1048576 := by omega
  have lb : b < 1024 := by omega
  rw [ha, hb]
  have e : wrap64 ((a : Int) * 1024) = ((2 ^ 10 * a : Nat) : Int) := by unfold wrap64; omega
  rw [e, or_low 10 (by omega) (by omega)]
  omega
theorem packB_nat (p v : Int) : 0 ≤ packB p v ∧ packB p v < 1073741824 := by rw [packB_num]; omega
theorem packP_num (p v : Int) : packP p v = packB p v * 4 + ((popc (packB p v).toNat % 4 : Nat) : Int) := by
  unfold packP
  rw [and2]
  obtain ⟨h0, h1⟩ := packB_nat p v
  obtain ⟨a, ha⟩ : ∃ a : Nat, packB p v = (a : Int) := ⟨(packB p v).toNat, by omega⟩
  rw [ha] at h0 h1 ⊢
  have e1 : bitsW (a : Int) = ((popc a : Nat) : Int) := by
    unfold bitsW
    have : IntKind.u64.wrap (a : Int) = (a : Int) := by simp [IntKind.wrap, IntKind.bits, IntKind.signed]; omega
    rw [this, Int.toNat_natCast]
  rw [e1, Int.toNat_natCast]
  generalize popc a = c
  have e : wrap64 ((a : Int) * 4) = ((2 ^ 2 * a : Nat) : Int) := by unfold wrap64; omega
  have e2 : ((c : Nat) : Int) % 4 = ((c % 4 : Nat) : Int) := by omega
  rw [e, e2, or_low 2 (by omega) (by omega)]
  omega
end Go.Proofs.Ytkpcolfbnkopkaa
