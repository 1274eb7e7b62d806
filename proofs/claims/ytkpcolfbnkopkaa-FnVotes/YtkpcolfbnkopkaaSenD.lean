/-
  Sensors: the number whose bits turn one at a time, told again (the model).
-/
import Derived.Test.YtkpcolfbnkopkaaSenB
namespace Go.Proofs.Ytkpcolfbnkopkaa
open Go.RowKit Pl
set_option linter.unusedSimpArgs false
set_option linter.unusedVariables false

theorem xor_nat {a b : Nat} (ha : a < 65536) (hb : b < 65536) : bits BinOp.xor IntKind.i64 (a : Int) (b : Int) = ((a ^^^ b : Nat) : Int) := by
  have hx : a ^^^ b < 65536 := Nat.xor_lt_two_pow (n := 16) ha hb
  have q : (BitVec.ofNat 64 a ^^^ BitVec.ofNat 64 b).toNat = a ^^^ b := by
    rw [BitVec.toNat_xor, BitVec.toNat_ofNat, BitVec.toNat_ofNat, Nat.mod_eq_of_lt (by omega), Nat.mod_eq_of_lt (by omega)]
  simp [bits, IntKind.wrap, IntKind.bits, IntKind.signed]
  refine Eq.trans (congrArg (fun z : Nat => if 9223372036854775808 ≤ (z : Int) % 18446744073709551616 then (z : Int) % 18446744073709551616 - 18446744073709551616 else (z : Int) % 18446744073709551616) q) ?_
  show (if 9223372036854775808 ≤ ((a ^^^ b : Nat) : Int) % 18446744073709551616 then ((a ^^^ b : Nat) : Int) % 18446744073709551616 - 18446744073709551616 else ((a ^^^ b : Nat) : Int) % 18446744073709551616) = ((a ^^^ b : Nat) : Int)
  rw [if_neg (by omega)]
  omega
/-- A number and all its halves, bit by bit. -/
def fromF : Nat → Nat → Nat
  | 0, _ => 0
  | k + 1, g => if g = 0 then 0 else g ^^^ fromF k (g / 2)
theorem fromF_same : ∀ (k m x : Nat), x ≤ k → x ≤ m → fromF k x = fromF m x
  | 0, 0, _, _, _ => rfl
  | 0, m + 1, x, h, _ => by
    have e : x = 0 := by omega
    subst e
    rfl
  | k + 1, 0, x, _, h => by
    have e : x = 0 := by omega
    subst e
    rfl
  | k + 1, m + 1, x, h1, h2 => by
    show (if x = 0 then 0 else x ^^^ fromF k (x / 2)) = (if x = 0 then 0 else x ^^^ fromF m (x / 2))
    by_cases z : x = 0
    · rw [if_pos z, if_pos z]
    · rw [if_neg z, if_neg z, fromF_same k m (x / 2) (by omega) (by omega)]
def fromG (g : Nat) : Nat := fromF g g
theorem fromG_zero : fromG 0 = 0 := rfl
theorem fromG_step {g : Nat} (h : g ≠ 0) : fromG g = g ^^^ fromG (g / 2) := by
  obtain ⟨k, rfl⟩ : ∃ k, g = k + 1 := ⟨g - 1, by omega⟩
  show (if k + 1 = 0 then 0 else (k + 1) ^^^ fromF k ((k + 1) / 2)) = (k + 1) ^^^ fromF ((k + 1) / 2) ((k + 1) / 2)
  rw [if_neg h, fromF_same k ((k + 1) / 2) ((k + 1) / 2) (by omega) (Nat.le_refl _)]
def fromK (g : Int) : Int := if isCount g = true then 0 else 3
def fromV (g : Int) : Int := if isCount g = true then (fromG g.toNat : Nat) else 0
set_option maxRecDepth 20000 in
set_option maxHeartbeats 8000000 in
theorem specFrom_any (g : Int) (w : World) :
    Calls Try.prog 28 #[.int .i64 g] w fun e w' => e = .returned (.agg #[.int .i64 (fromK g), .int .i64 (fromV g)]) ∧ Below w.heap.size w w' := by
  have F : Hid (Blk (w.alloc (.cells #[.int .i64 0, .int .i64 0] 26)) w.heap.size [.int .i64 0, .int .i64 0]) := Blk.at_ w _ _ _ rfl
  have FB : Hid (Below w.heap.size w (w.alloc (.cells #[.int .i64 0, .int .i64 0] 26))) := (Below.refl _ _).alloc (Nat.le_refl _) _
  unfold fromK fromV isCount
  cases h : inB g 0 65535
  · rw [if_neg (by decide), if_neg (by decide)]
    go_enter Try.func28, Try.ntmps28
    go_wp2_with (first | (go_at_call 32; refine (l1In_any _ _ _ _).mono ?_; rw [h]; rintro e w' ⟨rfl, hw⟩; obtain rfl := hw.symm; clear hw) | (refine store_blk [.int .i64 3, .int .i64 0] 26 _ _ (by kernel_rfl) (by kernel_rfl) (by kernel_rfl) F.out rfl rfl rfl rfl ?_))
    exact bodyPost_ret (v := .agg #[.int .i64 3, .int .i64 0]) ((F.out.row [.int .i64 3, .int .i64 0]).res _ Try.results28 Try.underlying26 (by kernel_rfl) rfl) rfl ⟨rfl, below_row FB.out (Nat.le_refl _) _⟩
  · rw [if_pos rfl, if_pos rfl]
    obtain ⟨g1, g2⟩ := inB_iff.1 h
    obtain ⟨x0, hx0⟩ : ∃ x0 : Nat, g = (x0 : Int) := ⟨g.toNat, by omega⟩
    subst hx0
    have hlt : x0 < 65536 := by omega
    obtain ⟨R, hR⟩ : ∃ R, fromG x0 = R := ⟨_, rfl⟩
    rw [Int.toNat_natCast, hR]
    clear g1 g2
    go_enter Try.func28, Try.ntmps28
    go_wp2_with (go_at_call 32; refine (l1In_any _ _ _ _).mono ?_; rw [h]; rintro e w' ⟨rfl, hw⟩; obtain rfl := hw.symm; clear hw)
    clear h
    obtain ⟨W0, hW0⟩ : ∃ W0, W0 = w.alloc (.cells #[.int .i64 0, .int .i64 0] 26) := ⟨_, rfl⟩
    have F : Hid (Blk W0 w.heap.size [.int .i64 0, .int .i64 0]) := by rw [hW0]; exact F.out
    have FB : Hid (Below w.heap.size w W0) := by rw [hW0]; exact FB.out
    rw [← hW0]
    clear hW0
    go_loopw [0, 3] (fun gg nn wr => ∃ (x n : Nat), gg = .int .i64 x ∧ nn = .int .i64 n ∧ n ^^^ fromG x = R ∧ x < 65536 ∧ n < 65536 ∧ wr = W0) (fun gg _ _ => (intOf gg).toNat)
    case atStart => exact ⟨x0, 0, rfl, rfl, by rw [Nat.zero_xor]; exact hR, hlt, by omega, rfl⟩
    case round =>
      obtain ⟨x, n, rfl, rfl, hn, hx, hnl, hw⟩ := hrel
      obtain rfl := hw.symm
      clear hw
      by_cases z : x = 0
      · subst z
        rw [fromG_zero, Nat.xor_zero] at hn
        subst hn
        go_wp2_with (refine store_blk [.int .i64 0, .int .i64 (n : Int)] 26 _ _ (by kernel_rfl) (by kernel_rfl) (by kernel_rfl) F.out rfl rfl rfl rfl ?_)
        exact bodyPost_ret (v := .agg #[.int .i64 0, .int .i64 (n : Int)]) ((F.out.row [.int .i64 0, .int .i64 (n : Int)]).res _ Try.results28 Try.underlying26 (by kernel_rfl) rfl) rfl ⟨rfl, below_row FB.out (Nat.le_refl _) _⟩
      · have d : decide ((0 : Int) < (x : Int)) = true := decide_eq_true (by omega)
        have hs := fromG_step z
        have HB : Hid (bits BinOp.xor IntKind.i64 (n : Int) (x : Int) = ((n ^^^ x : Nat) : Int)) := xor_nat hnl hx
        have hnx : n ^^^ x < 65536 := Nat.xor_lt_two_pow (n := 16) hnl hx
        have HN : Hid ((n ^^^ x) ^^^ fromG (x / 2) = R) := by show _ = R; rw [Nat.xor_assoc, ← hs]; exact hn
        go_wp2_with fail
        refine ⟨⟨x / 2, n ^^^ x, by simp, by rw [HB.out], HN.out, by omega, hnx, by first | rfl | trivial⟩, by simp [intOf]; omega⟩
end Go.Proofs.Ytkpcolfbnkopkaa
