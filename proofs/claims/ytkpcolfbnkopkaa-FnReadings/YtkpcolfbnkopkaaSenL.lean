/-
  Sensors: how many bits are 1 (the program: by masks of every other bit, of two, of four).
-/
import Derived.Test.YtkpcolfbnkopkaaSenH
import Derived.Test.YtkpcolfbnkopkaaSenK
namespace Go.Proofs.Ytkpcolfbnkopkaa
open Go.RowKit Pl
set_option linter.unusedSimpArgs false
set_option linter.unusedVariables false

/-- The same byte n times. -/
def mkM (m : Nat) : Nat → Nat
  | 0 => 0
  | n + 1 => m + 256 * mkM m n
theorem and_byte {m : Nat} (hm : m < 256) (a M : Nat) : a &&& (m + 256 * M) = (a % 256 &&& m) + 256 * (a / 256 &&& M) := by
  have h1 : (a &&& (m + 256 * M)) % 2 ^ 8 = (a % 2 ^ 8 &&& (m + 256 * M) % 2 ^ 8) := Nat.and_mod_two_pow
  have h2 : (a &&& (m + 256 * M)) / 2 ^ 8 = (a / 2 ^ 8 &&& (m + 256 * M) / 2 ^ 8) := Nat.and_div_two_pow
  rw [show (m + 256 * M) % 2 ^ 8 = m by omega] at h1
  rw [show (m + 256 * M) / 2 ^ 8 = M by omega] at h2
  have e := Nat.mod_add_div (a &&& (m + 256 * M)) (2 ^ 8)
  rw [h1, h2] at e
  exact e.symm
def sw1 (n x : Nat) : Nat := (x / 2 &&& mkM 85 n) + (x &&& mkM 85 n)
def sw2 (n x : Nat) : Nat := (x / 4 &&& mkM 51 n) + (x &&& mkM 51 n)
def sw3 (n x : Nat) : Nat := (x / 16 + x) &&& mkM 15 n
def t1 (b : Nat) : Nat := (b / 2 &&& 85) + (b &&& 85)
def t2 (b : Nat) : Nat := (b / 4 &&& 51) + (b &&& 51)
theorem drop1 : ∀ b, b < 256 → ∀ c, c < 2 → (b / 2 + 128 * c) &&& 85 = b / 2 &&& 85 := by decide +kernel
theorem drop2 : ∀ b, b < 256 → ∀ c, c < 4 → (b / 4 + 64 * c) &&& 51 = b / 4 &&& 51 := by decide +kernel
theorem sw1_step (n x : Nat) : sw1 (n + 1) x = t1 (x % 256) + 256 * sw1 n (x / 256) := by
  unfold sw1 t1
  show (x / 2 &&& (85 + 256 * mkM 85 n)) + (x &&& (85 + 256 * mkM 85 n)) = _
  rw [and_byte (by decide), and_byte (by decide), show x / 2 % 256 = x % 256 / 2 + 128 * (x / 256 % 2) by omega, drop1 _ (Nat.mod_lt _ (by decide)) _ (Nat.mod_lt _ (by decide)), show x / 2 / 256 = x / 256 / 2 by omega]
  omega
theorem sw2_step (n x : Nat) : sw2 (n + 1) x = t2 (x % 256) + 256 * sw2 n (x / 256) := by
  unfold sw2 t2
  show (x / 4 &&& (51 + 256 * mkM 51 n)) + (x &&& (51 + 256 * mkM 51 n)) = _
  rw [and_byte (by decide), and_byte (by decide), show x / 4 % 256 = x % 256 / 4 + 64 * (x / 256 % 4) by omega, drop2 _ (Nat.mod_lt _ (by decide)) _ (Nat.mod_lt _ (by decide)), show x / 4 / 256 = x / 256 / 4 by omega]
  omega
/-- A byte's bits. -/
def pcb (b : Nat) : Nat := b % 2 + (b / 2 % 2 + (b / 4 % 2 + (b / 8 % 2 + (b / 16 % 2 + (b / 32 % 2 + (b / 64 % 2 + b / 128 % 2))))))
theorem byte_all : ∀ b, b < 256 → t1 b < 256 ∧ t2 (t1 b) ≤ 68 ∧ t2 (t1 b) % 16 ≤ 4 ∧ (t2 (t1 b) / 16 + t2 (t1 b)) % 16 = pcb b ∧ pcb b ≤ 8 := by decide +kernel
def bys : Nat → Nat → Nat
  | 0, _ => 0
  | n + 1, x => pcb (x % 256) + 256 * bys n (x / 256)
theorem sw_all : ∀ n x, sw2 n (sw1 n x) % 16 ≤ 4 ∧ sw3 n (sw2 n (sw1 n x)) = bys n x := by
  intro n
  induction n with
  | zero =>
    intro x
    simp [sw1, sw2, sw3, mkM, bys]
  | succ n ih =>
    intro x
    obtain ⟨i1, i2⟩ := ih (x / 256)
    obtain ⟨b1, b2, b3, b4, _⟩ := byte_all (x % 256) (Nat.mod_lt _ (by decide))
    have e1 := sw1_step n x
    have m1 : sw1 (n + 1) x % 256 = t1 (x % 256) := by omega
    have d1 : sw1 (n + 1) x / 256 = sw1 n (x / 256) := by omega
    have e2 := sw2_step n (sw1 (n + 1) x)
    rw [m1, d1] at e2
    obtain ⟨d, hd⟩ : ∃ d, t2 (t1 (x % 256)) = d := ⟨_, rfl⟩
    obtain ⟨z, hz⟩ : ∃ z, sw2 n (sw1 n (x / 256)) = z := ⟨_, rfl⟩
    rw [hd] at e2 b2 b3 b4
    rw [hz] at e2 i1 i2
    rw [e2]
    refine ⟨by omega, ?_⟩
    unfold sw3 at i2 ⊢
    show ((d + 256 * z) / 16 + (d + 256 * z)) &&& (15 + 256 * mkM 15 n) = pcb (x % 256) + 256 * bys n (x / 256)
    rw [and_byte (by decide), show ((d + 256 * z) / 16 + (d + 256 * z)) / 256 = z / 16 + z by omega, i2]
    rw [show (15 : Nat) = 2 ^ 4 - 1 from rfl, Nat.and_two_pow_sub_one_eq_mod, ← b4]
    congr 1
    omega
theorem popc_byte (x : Nat) : popc x = pcb (x % 256) + popc (x / 256) := by
  rw [popc_all x, popc_all (x / 2), popc_all (x / 2 / 2), popc_all (x / 2 / 2 / 2), popc_all (x / 2 / 2 / 2 / 2), popc_all (x / 2 / 2 / 2 / 2 / 2), popc_all (x / 2 / 2 / 2 / 2 / 2 / 2), popc_all (x / 2 / 2 / 2 / 2 / 2 / 2 / 2)]
  rw [show x / 2 / 2 / 2 / 2 / 2 / 2 / 2 / 2 = x / 256 by omega]
  unfold pcb
  omega
theorem pcb_le (x : Nat) : pcb x ≤ 8 := by unfold pcb; omega
/-- The eight bytes' numbers, added up. -/
theorem fold_up {p0 p1 p2 p3 p4 p5 p6 p7 y z4 z5 z6 : Nat} (h0 : p0 ≤ 8) (h1 : p1 ≤ 8) (h2 : p2 ≤ 8) (h3 : p3 ≤ 8) (h4 : p4 ≤ 8) (h5 : p5 ≤ 8) (h6 : p6 ≤ 8) (h7 : p7 ≤ 8)
    (hy : y = p0 + 256 * (p1 + 256 * (p2 + 256 * (p3 + 256 * (p4 + 256 * (p5 + 256 * (p6 + 256 * (p7 + 256 * 0)))))))) (h8 : z4 = y + y / 256) (h9 : z5 = z4 + z4 / 65536) (h10 : z6 = z5 + z5 / 4294967296) :
    z4 < 2 ^ 64 ∧ z5 < 2 ^ 64 ∧ z6 < 2 ^ 64 ∧ z6 % 128 = p0 + (p1 + (p2 + (p3 + (p4 + (p5 + (p6 + p7)))))) := by
  obtain ⟨A7, k7⟩ : ∃ A, A = p7 := ⟨_, rfl⟩
  obtain ⟨A6, k6⟩ : ∃ A, A = p6 + 256 * A7 := ⟨_, rfl⟩
  obtain ⟨A5, k5⟩ : ∃ A, A = p5 + 256 * A6 := ⟨_, rfl⟩
  obtain ⟨A4, k4⟩ : ∃ A, A = p4 + 256 * A5 := ⟨_, rfl⟩
  obtain ⟨A3, k3⟩ : ∃ A, A = p3 + 256 * A4 := ⟨_, rfl⟩
  obtain ⟨A2, k2⟩ : ∃ A, A = p2 + 256 * A3 := ⟨_, rfl⟩
  obtain ⟨A1, k1⟩ : ∃ A, A = p1 + 256 * A2 := ⟨_, rfl⟩
  have k0 : y = p0 + 256 * A1 := by rw [hy, k1, k2, k3, k4, k5, k6, k7]; rfl
  clear hy
  have b7 : A7 ≤ 8 := by omega
  have b6 : A6 ≤ 2056 := by omega
  have b5 : A5 ≤ 526344 := by omega
  have b4 : A4 ≤ 134744072 := by omega
  have a1 : y / 256 = A1 := by clear k1 k2 k3 k4 k5 k6 k7 h8 h9 h10; omega
  rw [a1] at h8
  have q0 : y = (p0 + 256 * p1) + 65536 * A2 := by clear h8 h9 h10 a1; omega
  have q1 : A1 = (p1 + 256 * p2) + 65536 * A3 := by clear h8 h9 h10 a1; omega
  have a2 : z4 / 65536 = A2 + A3 := by
    rw [h8, q0, q1]
    clear k0 k1 k2 k3 k4 k5 k6 k7 h8 h9 h10 a1 q0 q1
    omega
  rw [a2] at h9
  obtain ⟨L0, m0⟩ : ∃ L, L = p0 + 256 * p1 + 65536 * p2 + 16777216 * p3 := ⟨_, rfl⟩
  obtain ⟨L1, m1⟩ : ∃ L, L = p1 + 256 * p2 + 65536 * p3 + 16777216 * p4 := ⟨_, rfl⟩
  obtain ⟨L2, m2⟩ : ∃ L, L = p2 + 256 * p3 + 65536 * p4 + 16777216 * p5 := ⟨_, rfl⟩
  obtain ⟨L3, m3⟩ : ∃ L, L = p3 + 256 * p4 + 65536 * p5 + 16777216 * p6 := ⟨_, rfl⟩
  have r0 : y = L0 + 4294967296 * A4 := by clear h8 h9 h10 a1 a2 m1 m2 m3; omega
  have r1 : A1 = L1 + 4294967296 * A5 := by clear h8 h9 h10 a1 a2 m0 m2 m3; omega
  have r2 : A2 = L2 + 4294967296 * A6 := by clear h8 h9 h10 a1 a2 m0 m1 m3; omega
  have r3 : A3 = L3 + 4294967296 * A7 := by clear h8 h9 h10 a1 a2 m0 m1 m2; omega
  have s0 : L0 ≤ 134744072 := by clear r0 r1 r2 r3 k0 k1 k2 k3 k4 k5 k6 k7 h8 h9 h10 a1 a2 q0 q1; omega
  have s1 : L1 ≤ 134744072 := by clear r0 r1 r2 r3 k0 k1 k2 k3 k4 k5 k6 k7 h8 h9 h10 a1 a2 q0 q1; omega
  have s2 : L2 ≤ 134744072 := by clear r0 r1 r2 r3 k0 k1 k2 k3 k4 k5 k6 k7 h8 h9 h10 a1 a2 q0 q1; omega
  have s3 : L3 ≤ 134744072 := by clear r0 r1 r2 r3 k0 k1 k2 k3 k4 k5 k6 k7 h8 h9 h10 a1 a2 q0 q1; omega
  have a3 : z5 / 4294967296 = A4 + A5 + A6 + A7 := by
    rw [h9, h8, r0, r1, r2, r3]
    clear k0 k1 k2 k3 k4 k5 k6 k7 h8 h9 h10 a1 a2 q0 q1 r0 r1 r2 r3 m0 m1 m2 m3
    omega
  rw [a3] at h10
  have b3 : A3 ≤ 34494482440 := by clear k0 k1 k2 k3 k4 k5 k6 k7 h8 h9 h10 a1 a2 a3 q0 q1; omega
  have b2 : A2 ≤ 8830587504648 := by clear k0 k1 k2 k3 k4 k5 k6 k7 h8 h9 h10 a1 a2 a3 q0 q1; omega
  have b1 : A1 ≤ 2260630401189896 := by clear k0 k1 k2 k3 k4 k5 k6 k7 h8 h9 h10 a1 a2 a3 q0 q1; omega
  have b0 : y ≤ 578721382704613384 := by clear k0 k1 k2 k3 k4 k5 k6 k7 h8 h9 h10 a1 a2 a3 q0 q1; omega
  refine ⟨by clear k0 k1 k2 k3 k4 k5 k6 k7 r0 r1 r2 r3 q0 q1; omega, by clear k0 k1 k2 k3 k4 k5 k6 k7 r0 r1 r2 r3 q0 q1; omega, by clear k0 k1 k2 k3 k4 k5 k6 k7 r0 r1 r2 r3 q0 q1; omega, ?_⟩
  have e : z6 = (p0 + (p1 + (p2 + (p3 + (p4 + (p5 + (p6 + p7))))))) + 256 * (A1 + A2 + A3 + A4 + A5 + A6 + A7) := by
    clear r0 r1 r2 r3 q0 q1 m0 m1 m2 m3 s0 s1 s2 s3 a1 a2 a3 b0 b1 b2 b3 b4 b5 b6 b7
    omega
  rw [e]
  clear k0 k1 k2 k3 k4 k5 k6 k7 r0 r1 r2 r3 q0 q1 h8 h9 h10 m0 m1 m2 m3 e a1 a2 a3
  omega
theorem and_u64 {x m : Nat} (hx : x < 2 ^ 64) (hm : m < 2 ^ 64) : bits BinOp.and IntKind.u64 (x : Int) (m : Int) = ((x &&& m : Nat) : Int) := by
  have q : (BitVec.ofNat 64 x &&& BitVec.ofNat 64 m).toNat = x &&& m := by
    rw [BitVec.toNat_and, BitVec.toNat_ofNat, BitVec.toNat_ofNat, Nat.mod_eq_of_lt hx, Nat.mod_eq_of_lt hm]
  have l : x &&& m < 2 ^ 64 := Nat.and_lt_two_pow _ hm
  simp [bits, IntKind.wrap, IntKind.bits, IntKind.signed]
  refine Eq.trans (congrArg (fun z : Nat => (z : Int) % 18446744073709551616) q) ?_
  show ((x &&& m : Nat) : Int) % 18446744073709551616 = ((x &&& m : Nat) : Int)
  omega
/-- The program's way, from number to number. -/
theorem ones_way {x : Nat} (hx : x < 2 ^ 64) : ∃ y1 y2 y3 z4 z5 z6 : Nat,
    y1 < 2 ^ 64 ∧ y2 < 2 ^ 64 ∧ y3 < 2 ^ 64 ∧ z4 < 2 ^ 64 ∧ z5 < 2 ^ 64 ∧ z6 < 2 ^ 64 ∧ y2 / 16 + y2 < 2 ^ 64 ∧
    y1 = (x / 2 &&& 6148914691236517205) + (x &&& 6148914691236517205) ∧ y2 = (y1 / 4 &&& 3689348814741910323) + (y1 &&& 3689348814741910323) ∧ y3 = (y2 / 16 + y2) &&& 1085102592571150095 ∧
    z4 = y3 + y3 / 256 ∧ z5 = z4 + z4 / 65536 ∧ z6 = z5 + z5 / 4294967296 ∧ z6 % 128 = popc x := by
  have k5 : mkM 85 8 = 6148914691236517205 := by decide +kernel
  have k3 : mkM 51 8 = 3689348814741910323 := by decide +kernel
  have kf : mkM 15 8 = 1085102592571150095 := by decide +kernel
  obtain ⟨_, hs⟩ := sw_all 8 x
  obtain ⟨y1, hy1⟩ : ∃ y, sw1 8 x = y := ⟨_, rfl⟩
  obtain ⟨y2, hy2⟩ : ∃ y, sw2 8 y1 = y := ⟨_, rfl⟩
  obtain ⟨y3, hy3⟩ : ∃ y, sw3 8 y2 = y := ⟨_, rfl⟩
  rw [hy1, hy2, hy3] at hs
  unfold sw1 at hy1
  unfold sw2 at hy2
  unfold sw3 at hy3
  rw [k5] at hy1
  rw [k3] at hy2
  rw [kf] at hy3
  have l1 : x / 2 &&& 6148914691236517205 ≤ 6148914691236517205 := Nat.and_le_right
  have l2 : x &&& 6148914691236517205 ≤ 6148914691236517205 := Nat.and_le_right
  have l3 : y1 / 4 &&& 3689348814741910323 ≤ 3689348814741910323 := Nat.and_le_right
  have l4 : y1 &&& 3689348814741910323 ≤ 3689348814741910323 := Nat.and_le_right
  have l5 : (y2 / 16 + y2) &&& 1085102592571150095 ≤ 1085102592571150095 := Nat.and_le_right
  obtain ⟨f1, f2, f3, f4⟩ := fold_up (pcb_le (x % 256)) (pcb_le (x / 256 % 256)) (pcb_le (x / 256 / 256 % 256)) (pcb_le (x / 256 / 256 / 256 % 256)) (pcb_le (x / 256 / 256 / 256 / 256 % 256)) (pcb_le (x / 256 / 256 / 256 / 256 / 256 % 256)) (pcb_le (x / 256 / 256 / 256 / 256 / 256 / 256 % 256)) (pcb_le (x / 256 / 256 / 256 / 256 / 256 / 256 / 256 % 256)) hs rfl rfl rfl
  refine ⟨y1, y2, y3, _, _, _, by omega, by omega, by omega, f1, f2, f3, by omega, hy1.symm, hy2.symm, hy3.symm, rfl, rfl, rfl, ?_⟩
  rw [f4, popc_byte x, popc_byte (x / 256), popc_byte (x / 256 / 256), popc_byte (x / 256 / 256 / 256), popc_byte (x / 256 / 256 / 256 / 256), popc_byte (x / 256 / 256 / 256 / 256 / 256), popc_byte (x / 256 / 256 / 256 / 256 / 256 / 256), popc_byte (x / 256 / 256 / 256 / 256 / 256 / 256 / 256)]
  rw [show x / 256 / 256 / 256 / 256 / 256 / 256 / 256 / 256 = 0 by omega, popc_zero]
  rfl
theorem and7 (p : Int) : bits BinOp.and IntKind.i64 p 127 = p % 128 := by
  have q : (BitVec.ofInt 64 p &&& 127#64).toNat = (p % 18446744073709551616).toNat % 128 := by
    rw [BitVec.toNat_and, ofInt_toNat]
    exact Nat.and_two_pow_sub_one_eq_mod _ 7
  have l : (p % 18446744073709551616).toNat % 128 < 128 := Nat.mod_lt _ (by decide)
  simp [bits, IntKind.wrap, IntKind.bits, IntKind.signed]
  refine Eq.trans (congrArg (fun z : Nat => if 9223372036854775808 ≤ (z : Int) % 18446744073709551616 then (z : Int) % 18446744073709551616 - 18446744073709551616 else (z : Int) % 18446744073709551616) q) ?_
  refine (bits_nat (by omega)).trans ?_
  omega
theorem wrap_low (z : Nat) : wrap64 (z : Int) % 128 = ((z % 128 : Nat) : Int) := by
  unfold wrap64
  omega
theorem sum_div {a b : Nat} (k : Nat) (h : b = a + a / k) : (a : Int) + (a : Int) / (k : Int) = (b : Int) := by
  rw [h, Int.natCast_add, Int.natCast_ediv]
theorem u64_n {x : Nat} (h : x < 2 ^ 64) : IntKind.u64.wrap (x : Int) = (x : Int) := by
  simp [IntKind.wrap, IntKind.bits, IntKind.signed]
  omega
set_option maxRecDepth 20000 in
set_option maxHeartbeats 8000000 in
theorem ones_any (x : Nat) (hx : x < 2 ^ 64) (w : World) :
    Calls Try.prog 33 #[.int .u64 x] w fun e w' => e = .returned (.int .i64 (popc x : Nat)) ∧ w' = w := by
  obtain ⟨y1, y2, y3, z4, z5, z6, l1, l2, l3, l4, l5, l6, l7, e1, e2, e3, e4, e5, e6, e7⟩ := ones_way hx
  have r1 : IntKind.u64.wrap (bits BinOp.and IntKind.u64 ((x : Int) / 2) 6148914691236517205 + bits BinOp.and IntKind.u64 (x : Int) 6148914691236517205) = (y1 : Int) := by
    have a := and_u64 (x := x / 2) (m := 6148914691236517205) (Nat.lt_of_le_of_lt (Nat.div_le_self _ _) hx) (by decide)
    have b := and_u64 (x := x) (m := 6148914691236517205) hx (by decide)
    rw [show ((x / 2 : Nat) : Int) = (x : Int) / 2 from Int.natCast_ediv _ _] at a
    refine (congrArg IntKind.u64.wrap (show _ = (y1 : Int) from ?_)).trans (u64_n l1)
    refine (congr (congrArg HAdd.hAdd a) b).trans ?_
    rw [e1]; rfl
  have r2 : IntKind.u64.wrap (bits BinOp.and IntKind.u64 ((y1 : Int) / 4) 3689348814741910323 + bits BinOp.and IntKind.u64 (y1 : Int) 3689348814741910323) = (y2 : Int) := by
    have a := and_u64 (x := y1 / 4) (m := 3689348814741910323) (Nat.lt_of_le_of_lt (Nat.div_le_self _ _) l1) (by decide)
    have b := and_u64 (x := y1) (m := 3689348814741910323) l1 (by decide)
    rw [show ((y1 / 4 : Nat) : Int) = (y1 : Int) / 4 from Int.natCast_ediv _ _] at a
    refine (congrArg IntKind.u64.wrap (show _ = (y2 : Int) from ?_)).trans (u64_n l2)
    refine (congr (congrArg HAdd.hAdd a) b).trans ?_
    rw [e2]; rfl
  have r3 : bits BinOp.and IntKind.u64 (IntKind.u64.wrap ((y2 : Int) / 16 + (y2 : Int))) 1085102592571150095 = (y3 : Int) := by
    have a := and_u64 (x := y2 / 16 + y2) (m := 1085102592571150095) l7 (by decide)
    have b := u64_n l7
    rw [show ((y2 / 16 + y2 : Nat) : Int) = (y2 : Int) / 16 + (y2 : Int) from Int.natCast_add _ _] at a b
    rw [b]
    refine a.trans ?_
    rw [e3]
  have r4 : IntKind.u64.wrap ((y3 : Int) + (y3 : Int) / 256) = (z4 : Int) := by
    rw [show (y3 : Int) + (y3 : Int) / 256 = (z4 : Int) from sum_div 256 e4]; exact u64_n l4
  have r5 : IntKind.u64.wrap ((z4 : Int) + (z4 : Int) / 65536) = (z5 : Int) := by
    rw [show (z4 : Int) + (z4 : Int) / 65536 = (z5 : Int) from sum_div 65536 e5]; exact u64_n l5
  have r6 : IntKind.u64.wrap ((z5 : Int) + (z5 : Int) / 4294967296) = (z6 : Int) := by
    rw [show (z5 : Int) + (z5 : Int) / 4294967296 = (z6 : Int) from sum_div 4294967296 e6]; exact u64_n l6
  have HV : Hid (bits BinOp.and IntKind.i64 (wrap64 (z6 : Int)) 127 = ((popc x : Nat) : Int)) := by
    show bits BinOp.and IntKind.i64 (wrap64 (z6 : Int)) 127 = _
    rw [and7, ← e7]
    exact wrap_low z6
  clear e1 e2 e3 e4 e5 e6 e7 l1 l2 l3 l4 l5 l6 l7
  go_enter Try.func33, Try.ntmps33
  go_wp2
  go_ret
  exact ⟨ret_int HV.out, rfl⟩
set_option maxRecDepth 20000 in
set_option maxHeartbeats 8000000 in
theorem implBits_any (v : Int) (w : World) :
    Calls Try.prog 14 #[.int .i64 v] w fun e w' => e = .returned (.int .i64 (bitsW v)) ∧ w' = w := by
  have hpos : 0 ≤ IntKind.u64.wrap v := by simp [IntKind.wrap, IntKind.bits, IntKind.signed]; omega
  obtain ⟨x0, hx0⟩ : ∃ x0 : Nat, IntKind.u64.wrap v = (x0 : Int) := ⟨(IntKind.u64.wrap v).toNat, by omega⟩
  clear hpos
  have hlt : x0 < 2 ^ 64 := by
    have : IntKind.u64.wrap v < 18446744073709551616 := by simp [IntKind.wrap, IntKind.bits, IntKind.signed]; omega
    omega
  have e0 : bitsW v = (popc x0 : Nat) := by unfold bitsW; rw [hx0]; simp
  have hp := popc_le 64 x0 hlt
  rw [e0]
  obtain ⟨p, hpp⟩ : ∃ p, popc x0 = p := ⟨_, rfl⟩
  rw [hpp] at hp ⊢
  have HV : Hid (wrap64 (p : Int) = (p : Int)) := w64 (by omega) (by omega)
  have HP : Hid (popc x0 = p) := hpp
  clear hp hpp e0
  go_enter Try.func14, Try.ntmps14
  go_wp2_with (go_at_call 33; refine (ones_any x0 hlt _).mono ?_; rw [HP.out]; rintro e w' ⟨rfl, hw⟩; obtain rfl := hw.symm; clear hw)
  go_ret
  exact ⟨by first | rfl | exact ret_int HV.out, rfl⟩
end Go.Proofs.Ytkpcolfbnkopkaa
