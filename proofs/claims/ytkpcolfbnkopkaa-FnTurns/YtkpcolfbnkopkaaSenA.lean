/-
  Sensors: the model's numbers and bits.
-/
import Derived.Test.YtkpcolfbnkopkaaFnd
namespace Go.Proofs.Ytkpcolfbnkopkaa
open Go.RowKit Pl
set_option linter.unusedSimpArgs false
set_option linter.unusedVariables false

/-- n and its half, bit by bit: what of them differs. -/
def grayP (n : Int) : Int := bits BinOp.xor .i64 n (n / 2)
def isCount (n : Int) : Bool := inB n 0 65535
def grayK (n : Int) : Int := if isCount n = true then 0 else 3
def grayV (n : Int) : Int := if isCount n = true then grayP n else 0
/-- The shorter way round. -/
def turnP (a b : Int) : Int := if 32767 < b - a then b - a - 65536 else if b - a < -32768 then b - a + 65536 else b - a
def turnK (a b : Int) : Int := if isCount a = true ∧ isCount b = true then 0 else 3
def turnV (a b : Int) : Int := if isCount a = true ∧ isCount b = true then turnP a b else 0
theorem turn_wrap {a b : Int} (a1 : 0 ≤ a) (a2 : a ≤ 65535) (b1 : 0 ≤ b) (b2 : b ≤ 65535) : wrap64 (IntKind.i16.wrap (IntKind.u16.wrap (b - a))) = turnP a b := by
  have h1 : IntKind.u16.wrap (b - a) = (b - a) % 65536 := by simp [IntKind.wrap, IntKind.bits, IntKind.signed]
  have h2 : ∀ x : Int, IntKind.i16.wrap x = if 32768 ≤ x % 65536 then x % 65536 - 65536 else x % 65536 := by intro x; simp [IntKind.wrap, IntKind.bits, IntKind.signed]
  have h3 : ∀ x : Int, -32768 ≤ x → x ≤ 32767 → wrap64 x = x := fun x l u => by unfold wrap64; omega
  rw [h1, h2, h3 _ (by split <;> omega) (by split <;> omega)]
  unfold turnP
  (repeat' split) <;> omega
set_option maxRecDepth 20000 in
set_option maxHeartbeats 8000000 in
theorem specGray_any (n : Int) (w : World) :
    Calls Try.prog 12 #[.int .i64 n] w fun e w' => e = .returned (.agg #[.int .i64 (grayK n), .int .i64 (grayV n)]) ∧ Below w.heap.size w w' := by
  have F : Hid (Blk (w.alloc (.cells #[.int .i64 0, .int .i64 0] 26)) w.heap.size [.int .i64 0, .int .i64 0]) := Blk.at_ w _ _ _ rfl
  have FB : Hid (Below w.heap.size w (w.alloc (.cells #[.int .i64 0, .int .i64 0] 26))) := (Below.refl _ _).alloc (Nat.le_refl _) _
  unfold grayK grayV isCount grayP
  cases h : inB n 0 65535
  · rw [if_neg (by decide), if_neg (by decide)]
    go_enter Try.func12, Try.ntmps12
    go_wp2_with (first | (go_at_call 32; refine (l1In_any _ _ _ _).mono ?_; rw [h]; rintro e w' ⟨rfl, hw⟩; obtain rfl := hw.symm; clear hw) | (refine store_blk [.int .i64 3, .int .i64 0] 26 _ _ (by kernel_rfl) (by kernel_rfl) (by kernel_rfl) F.out rfl rfl rfl rfl ?_))
    exact bodyPost_ret (v := .agg #[.int .i64 3, .int .i64 0]) ((F.out.row [.int .i64 3, .int .i64 0]).res _ Try.results12 Try.underlying26 (by kernel_rfl) rfl) rfl ⟨rfl, below_row FB.out (Nat.le_refl _) _⟩
  · rw [if_pos rfl, if_pos rfl]
    go_enter Try.func12, Try.ntmps12
    go_wp2_with (first | (go_at_call 32; refine (l1In_any _ _ _ _).mono ?_; rw [h]; rintro e w' ⟨rfl, hw⟩; obtain rfl := hw.symm; clear hw) | (refine store_blk [.int .i64 0, .int .i64 (bits BinOp.xor .i64 n (n / 2))] 26 _ _ (by kernel_rfl) (by kernel_rfl) (by kernel_rfl) F.out rfl rfl rfl rfl ?_))
    exact bodyPost_ret (v := .agg #[.int .i64 0, .int .i64 (bits BinOp.xor .i64 n (n / 2))]) ((F.out.row [.int .i64 0, .int .i64 (bits BinOp.xor .i64 n (n / 2))]).res _ Try.results12 Try.underlying26 (by kernel_rfl) rfl) rfl ⟨rfl, below_row FB.out (Nat.le_refl _) _⟩
set_option maxRecDepth 20000 in
set_option maxHeartbeats 8000000 in
theorem l11Turn_any (a b : Int) (ha : isCount a = true) (hb : isCount b = true) (w : World) :
    Calls Try.prog 38 #[.int .i64 a, .int .i64 b] w fun e w' => e = .returned (.int .i64 (turnP a b)) ∧ w' = w := by
  obtain ⟨a1, a2⟩ := inB_iff.1 ha
  obtain ⟨b1, b2⟩ := inB_iff.1 hb
  have HT : Hid (wrap64 (IntKind.i16.wrap (IntKind.u16.wrap (b - a))) = turnP a b) := turn_wrap a1 a2 b1 b2
  go_enter Try.func38, Try.ntmps38
  go_wp2
  go_ret
  exact ⟨ret_int HT.out, rfl⟩
set_option maxRecDepth 20000 in
set_option maxHeartbeats 8000000 in
theorem specTurn_any (a b : Int) (w : World) :
    Calls Try.prog 19 #[.int .i64 a, .int .i64 b] w fun e w' => e = .returned (.agg #[.int .i64 (turnK a b), .int .i64 (turnV a b)]) ∧ Below w.heap.size w w' := by
  have F : Hid (Blk (w.alloc (.cells #[.int .i64 0, .int .i64 0] 26)) w.heap.size [.int .i64 0, .int .i64 0]) := Blk.at_ w _ _ _ rfl
  have FB : Hid (Below w.heap.size w (w.alloc (.cells #[.int .i64 0, .int .i64 0] 26))) := (Below.refl _ _).alloc (Nat.le_refl _) _
  obtain ⟨K, hK⟩ : ∃ K, turnK a b = K := ⟨_, rfl⟩
  obtain ⟨V, hV⟩ : ∃ V, turnV a b = V := ⟨_, rfl⟩
  rw [hK, hV]
  unfold turnK isCount at hK
  unfold turnV isCount at hV
  cases h1 : inB a 0 65535
  · have HK : Hid ((3 : Int) = K) := by show (3 : Int) = K; rw [h1] at hK; simpa using hK
    have HV : Hid ((0 : Int) = V) := by show (0 : Int) = V; rw [h1] at hV; simpa using hV
    clear hK hV
    go_enter Try.func19, Try.ntmps19
    go_wp2_with (first | (go_at_call 32; refine (l1In_any _ _ _ _).mono ?_; rintro e w' ⟨rfl, hw⟩; obtain rfl := hw.symm; clear hw) | (refine store_blk [.int .i64 3, .int .i64 0] 26 _ _ (by kernel_rfl) (by kernel_rfl) (by kernel_rfl) F.out rfl rfl rfl rfl ?_))
    exact bodyPost_ret (v := .agg #[.int .i64 3, .int .i64 0]) ((F.out.row [.int .i64 3, .int .i64 0]).res _ Try.results19 Try.underlying26 (by kernel_rfl) rfl) rfl ⟨by rw [← HK.out, ← HV.out], below_row FB.out (Nat.le_refl _) _⟩
  cases h2 : inB b 0 65535
  · have HK : Hid ((3 : Int) = K) := by show (3 : Int) = K; rw [h1, h2] at hK; simpa using hK
    have HV : Hid ((0 : Int) = V) := by show (0 : Int) = V; rw [h1, h2] at hV; simpa using hV
    clear hK hV
    go_enter Try.func19, Try.ntmps19
    go_wp2_with (first | (go_at_call 32; refine (l1In_any _ _ _ _).mono ?_; rintro e w' ⟨rfl, hw⟩; obtain rfl := hw.symm; clear hw) | (refine store_blk [.int .i64 3, .int .i64 0] 26 _ _ (by kernel_rfl) (by kernel_rfl) (by kernel_rfl) F.out rfl rfl rfl rfl ?_))
    exact bodyPost_ret (v := .agg #[.int .i64 3, .int .i64 0]) ((F.out.row [.int .i64 3, .int .i64 0]).res _ Try.results19 Try.underlying26 (by kernel_rfl) rfl) rfl ⟨by rw [← HK.out, ← HV.out], below_row FB.out (Nat.le_refl _) _⟩
  · have HK : Hid ((0 : Int) = K) := by show (0 : Int) = K; rw [h1, h2] at hK; simpa using hK
    have HV : Hid (turnP a b = V) := by show turnP a b = V; rw [h1, h2] at hV; simpa using hV
    clear hK hV
    go_enter Try.func19, Try.ntmps19
    go_wp2_with (first | (go_at_call 32; refine (l1In_any _ _ _ _).mono ?_; rintro e w' ⟨rfl, hw⟩; obtain rfl := hw.symm; clear hw) | (go_at_call 38; refine (l11Turn_any a b h1 h2 _).mono ?_; rw [HV.out]; rintro e w' ⟨rfl, hw⟩; obtain rfl := hw.symm; clear hw) | (refine store_blk [.int .i64 0, .int .i64 V] 26 _ _ (by kernel_rfl) (by kernel_rfl) (by kernel_rfl) F.out rfl rfl rfl rfl ?_))
    exact bodyPost_ret (v := .agg #[.int .i64 0, .int .i64 V]) ((F.out.row [.int .i64 0, .int .i64 V]).res _ Try.results19 Try.underlying26 (by kernel_rfl) rfl) rfl ⟨by rw [← HK.out], below_row FB.out (Nat.le_refl _) _⟩
end Go.Proofs.Ytkpcolfbnkopkaa
