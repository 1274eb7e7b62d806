/-
  Sensors: a reading laid into 32 bits (the model).
-/
import Derived.Test.YtkpcolfbnkopkaaSenB
namespace Go.Proofs.Ytkpcolfbnkopkaa
open Go.RowKit Pl
set_option linter.unusedSimpArgs false
set_option linter.unusedVariables false
/-- The 30 bits of a reading. -/
def packB (p v : Int) : Int := bits BinOp.or IntKind.i64 (wrap64 (bits BinOp.and IntKind.i64 p 1048575 * 1024)) (bits BinOp.and IntKind.i64 v 1023)
/-- And the two that count them. -/
def packP (p v : Int) : Int := bits BinOp.or IntKind.i64 (wrap64 (packB p v * 4)) (bits BinOp.and IntKind.i64 (bitsW (packB p v)) 3)
def isReading (p v : Int) : Bool := inB p (-524288) 524287 && inB v (-512) 511
def packK (p v : Int) : Int := if isReading p v = true then 0 else 3
def packV (p v : Int) : Int := if isReading p v = true then packP p v else 0
set_option maxRecDepth 20000 in
set_option maxHeartbeats 8000000 in
theorem specPack_any (p v : Int) (w : World) :
    Calls Try.prog 25 #[.agg #[.int .i64 p, .int .i64 v]] w fun e w' => e = .returned (.agg #[.int .i64 (packK p v), .int .i64 (packV p v)]) ∧ Below w.heap.size w w' := by
  have F : Hid (Blk ((w.alloc (.cells #[.int .i64 p, .int .i64 v] 39)).alloc (.cells #[.int .i64 0, .int .i64 0] 26)) (w.heap.size + 1) [.int .i64 0, .int .i64 0]) := Blk.at_ _ _ _ _ (by simp)
  have FB : Hid (Below w.heap.size w ((w.alloc (.cells #[.int .i64 p, .int .i64 v] 39)).alloc (.cells #[.int .i64 0, .int .i64 0] 26))) := ((Below.refl _ _).alloc (Nat.le_refl _) _).alloc (by simp) _
  obtain ⟨K, hK⟩ : ∃ K, packK p v = K := ⟨_, rfl⟩
  obtain ⟨V, hV⟩ : ∃ V, packV p v = V := ⟨_, rfl⟩
  rw [hK, hV]
  unfold packK isReading at hK
  unfold packV isReading at hV
  cases h1 : inB p (-524288) 524287
  · have HK : Hid ((3 : Int) = K) := by show (3 : Int) = K; rw [h1] at hK; simpa using hK
    have HV : Hid ((0 : Int) = V) := by show (0 : Int) = V; rw [h1] at hV; simpa using hV
    clear hK hV
    go_enter Try.func25, Try.ntmps25
    go_wp2_with (first | (go_at_call 32; refine (l1In_any _ _ _ _).mono ?_; rintro e w' ⟨rfl, hw⟩; obtain rfl := hw.symm; clear hw) | (refine store_blk [.int .i64 3, .int .i64 0] 26 _ _ (by kernel_rfl) (by kernel_rfl) (by kernel_rfl) F.out rfl rfl rfl rfl ?_))
    exact bodyPost_ret (v := .agg #[.int .i64 3, .int .i64 0]) ((F.out.row [.int .i64 3, .int .i64 0]).res _ Try.results25 Try.underlying26 (by kernel_rfl) rfl) rfl ⟨by rw [← HK.out, ← HV.out], below_row FB.out (by omega) _⟩
  cases h2 : inB v (-512) 511
  · have HK : Hid ((3 : Int) = K) := by show (3 : Int) = K; rw [h1, h2] at hK; simpa using hK
    have HV : Hid ((0 : Int) = V) := by show (0 : Int) = V; rw [h1, h2] at hV; simpa using hV
    clear hK hV
    go_enter Try.func25, Try.ntmps25
    go_wp2_with (first | (go_at_call 32; refine (l1In_any _ _ _ _).mono ?_; rintro e w' ⟨rfl, hw⟩; obtain rfl := hw.symm; clear hw) | (refine store_blk [.int .i64 3, .int .i64 0] 26 _ _ (by kernel_rfl) (by kernel_rfl) (by kernel_rfl) F.out rfl rfl rfl rfl ?_))
    exact bodyPost_ret (v := .agg #[.int .i64 3, .int .i64 0]) ((F.out.row [.int .i64 3, .int .i64 0]).res _ Try.results25 Try.underlying26 (by kernel_rfl) rfl) rfl ⟨by rw [← HK.out, ← HV.out], below_row FB.out (by omega) _⟩
  · have HK : Hid ((0 : Int) = K) := by show (0 : Int) = K; rw [h1, h2] at hK; simpa using hK
    have HV : Hid (bits BinOp.or IntKind.i64 (wrap64 (bits BinOp.or IntKind.i64 (wrap64 (bits BinOp.and IntKind.i64 p 1048575 * 1024)) (bits BinOp.and IntKind.i64 v 1023) * 4)) (bits BinOp.and IntKind.i64 (bitsW (bits BinOp.or IntKind.i64 (wrap64 (bits BinOp.and IntKind.i64 p 1048575 * 1024)) (bits BinOp.and IntKind.i64 v 1023))) 3) = V) := by show packP p v = V; rw [h1, h2] at hV; simpa using hV
    clear hK hV
    go_enter Try.func25, Try.ntmps25
    go_wp2_with (first | (go_at_call 32; refine (l1In_any _ _ _ _).mono ?_; rintro e w' ⟨rfl, hw⟩; obtain rfl := hw.symm; clear hw) | (go_at_call 46; refine (specBits_any _ _).mono ?_; rintro e w' ⟨rfl, hw⟩; obtain rfl := hw.symm; clear hw) | (rw [HV.out]; refine store_blk [.int .i64 0, .int .i64 V] 26 _ _ (by kernel_rfl) (by kernel_rfl) (by kernel_rfl) F.out rfl rfl rfl rfl ?_))
    exact bodyPost_ret (v := .agg #[.int .i64 0, .int .i64 V]) ((F.out.row [.int .i64 0, .int .i64 V]).res _ Try.results25 Try.underlying26 (by kernel_rfl) rfl) rfl ⟨by rw [← HK.out], below_row FB.out (by omega) _⟩
end Go.Proofs.Ytkpcolfbnkopkaa
