/-
  Sensors: readings, packed and unpacked (the program).
-/
import Derived.Test.YtkpcolfbnkopkaaSenI
import Derived.Test.YtkpcolfbnkopkaaSenL
namespace Go.Proofs.Ytkpcolfbnkopkaa
open Go.RowKit Pl
set_option linter.unusedSimpArgs false
set_option linter.unusedVariables false

set_option maxRecDepth 20000 in
set_option maxHeartbeats 8000000 in
theorem lowBits2 (w : World) : Calls Try.prog 47 #[.int .i64 2] w fun e w' => e = .returned (.int .i64 3) ∧ w' = w := by
  go_enter Try.func47, Try.ntmps47
  go_wp2
  go_ret
  exact ⟨by first | rfl | (simp [wrap64]), rfl⟩
set_option maxRecDepth 20000 in
set_option maxHeartbeats 8000000 in
theorem lowBits10 (w : World) : Calls Try.prog 47 #[.int .i64 10] w fun e w' => e = .returned (.int .i64 1023) ∧ w' = w := by
  go_enter Try.func47, Try.ntmps47
  go_wp2
  go_ret
  exact ⟨by first | rfl | (simp [wrap64]), rfl⟩
set_option maxRecDepth 20000 in
set_option maxHeartbeats 8000000 in
theorem lowBits20 (w : World) : Calls Try.prog 47 #[.int .i64 20] w fun e w' => e = .returned (.int .i64 1048575) ∧ w' = w := by
  go_enter Try.func47, Try.ntmps47
  go_wp2
  go_ret
  exact ⟨by first | rfl | (simp [wrap64]), rfl⟩
set_option maxRecDepth 20000 in
set_option maxHeartbeats 8000000 in
theorem lowBits32 (w : World) : Calls Try.prog 47 #[.int .i64 32] w fun e w' => e = .returned (.int .i64 4294967295) ∧ w' = w := by
  go_enter Try.func47, Try.ntmps47
  go_wp2
  go_ret
  exact ⟨by first | rfl | (simp [wrap64]), rfl⟩
set_option maxRecDepth 20000 in
set_option maxHeartbeats 8000000 in
theorem fits20 (n : Int) (w : World) : Calls Try.prog 44 #[.int .i64 n, .int .i64 20] w fun e w' => e = .returned (.bool (inB n (-524288) 524287)) ∧ w' = w := by
  go_enter Try.func44, Try.ntmps44
  go_wp2_with (go_at_call 34; refine (isWithin_any _ _ _ _).mono ?_; rintro e w' ⟨rfl, hw⟩; obtain rfl := hw.symm; clear hw)
  go_ret
  exact ⟨rfl, rfl⟩
def sig20 (n : Int) : Int := if n < 524288 then n else n - 1048576
set_option maxRecDepth 20000 in
set_option maxHeartbeats 8000000 in
theorem signed20 (n : Int) (h1 : 0 ≤ n) (h2 : n < 1048576) (w : World) : Calls Try.prog 53 #[.int .i64 n, .int .i64 20] w fun e w' => e = .returned (.int .i64 (sig20 n)) ∧ w' = w := by
  unfold sig20
  have ew : IntKind.i64.wrap (n - 1048576) = n - 1048576 := IntWalk.i64_in _ (by omega)
  have ew2 : wrap64 (n - 1048576) = n - 1048576 := by unfold wrap64; omega
  by_cases c : n < 524288
  · rw [if_pos c]
    have d : decide (524288 ≤ n) = false := decide_eq_false (by omega)
    go_enter Try.func53, Try.ntmps53
    go_wp2
    go_ret
    exact ⟨rfl, rfl⟩
  · rw [if_neg c]
    have d : decide (524288 ≤ n) = true := decide_eq_true (by omega)
    go_enter Try.func53, Try.ntmps53
    go_wp2
    go_ret
    exact ⟨by first | rfl | exact ret_int ew2, rfl⟩
set_option maxRecDepth 20000 in
set_option maxHeartbeats 8000000 in
theorem fits10 (n : Int) (w : World) : Calls Try.prog 44 #[.int .i64 n, .int .i64 10] w fun e w' => e = .returned (.bool (inB n (-512) 511)) ∧ w' = w := by
  go_enter Try.func44, Try.ntmps44
  go_wp2_with (go_at_call 34; refine (isWithin_any _ _ _ _).mono ?_; rintro e w' ⟨rfl, hw⟩; obtain rfl := hw.symm; clear hw)
  go_ret
  exact ⟨rfl, rfl⟩
def sig10 (n : Int) : Int := if n < 512 then n else n - 1024
set_option maxRecDepth 20000 in
set_option maxHeartbeats 8000000 in
theorem signed10 (n : Int) (h1 : 0 ≤ n) (h2 : n < 1024) (w : World) : Calls Try.prog 53 #[.int .i64 n, .int .i64 10] w fun e w' => e = .returned (.int .i64 (sig10 n)) ∧ w' = w := by
  unfold sig10
  have ew : IntKind.i64.wrap (n - 1024) = n - 1024 := IntWalk.i64_in _ (by omega)
  have ew2 : wrap64 (n - 1024) = n - 1024 := by unfold wrap64; omega
  by_cases c : n < 512
  · rw [if_pos c]
    have d : decide (512 ≤ n) = false := decide_eq_false (by omega)
    go_enter Try.func53, Try.ntmps53
    go_wp2
    go_ret
    exact ⟨rfl, rfl⟩
  · rw [if_neg c]
    have d : decide (512 ≤ n) = true := decide_eq_true (by omega)
    go_enter Try.func53, Try.ntmps53
    go_wp2
    go_ret
    exact ⟨by first | rfl | exact ret_int ew2, rfl⟩
theorem popc_four (n : Nat) : popc (4 * n) = popc n := by
  rw [popc_all (4 * n), popc_all (4 * n / 2), show 4 * n / 2 / 2 = n by omega]
  omega
/-- The program's bits, as numbers: the same. -/
theorem told_num (p v : Int) : bits BinOp.or IntKind.i64 (wrap64 (bits BinOp.and IntKind.i64 p 1048575 * 4096)) (wrap64 (bits BinOp.and IntKind.i64 v 1023 * 4)) = packB p v * 4 := by
  rw [and20, and10, packB_num]
  have e1 : wrap64 (p % 1048576 * 4096) = p % 1048576 * 4096 := by unfold wrap64; omega
  have e2 : wrap64 (v % 1024 * 4) = v % 1024 * 4 := by unfold wrap64; omega
  rw [e1, e2]
  have q := or_low (a := (p % 1048576).toNat) (b := (v % 1024 * 4).toNat) 12 (by omega) (by omega)
  rw [show (((2 ^ 12 * (p % 1048576).toNat : Nat)) : Int) = p % 1048576 * 4096 by omega, show (((v % 1024 * 4).toNat : Nat) : Int) = v % 1024 * 4 by omega] at q
  rw [q]
  omega
theorem bitsW_told (p v : Int) : bitsW (packB p v * 4) = ((popc (packB p v).toNat : Nat) : Int) := by
  have r := packB_nat p v
  unfold bitsW
  have e : IntKind.u64.wrap (packB p v * 4) = packB p v * 4 := by
    simp [IntKind.wrap, IntKind.bits, IntKind.signed]; omega
  rw [e, show (packB p v * 4).toNat = 4 * (packB p v).toNat by omega, popc_four]
theorem packed_num (p v : Int) : bits BinOp.or IntKind.i64 (packB p v * 4) (bits BinOp.and IntKind.i64 (bitsW (packB p v * 4)) 3) = packP p v := by
  have r := packB_nat p v
  rw [packP_num, bitsW_told, and2]
  have q := or_low (a := (packB p v).toNat) (b := popc (packB p v).toNat % 4) 2 (by omega) (by omega)
  rw [show (((2 ^ 2 * (packB p v).toNat : Nat)) : Int) = packB p v * 4 by omega, show ((popc (packB p v).toNat % 4 : Nat) : Int) = ((popc (packB p v).toNat : Nat) : Int) % 4 by omega] at q
  rw [q]
  omega
set_option maxRecDepth 20000 in
set_option maxHeartbeats 8000000 in
theorem packed_any (p v : Int) (w : World) :
    Calls Try.prog 45 #[.agg #[.int .i64 p, .int .i64 v]] w fun e w' => e = .returned (.int .i64 (packP p v)) ∧ Below w.heap.size w w' := by
  have F : Hid (Blk (w.alloc (.cells #[.int .i64 p, .int .i64 v] 39)) w.heap.size [.int .i64 p, .int .i64 v]) := Blk.at_ w _ _ _ rfl
  have FB : Hid (Below w.heap.size w (w.alloc (.cells #[.int .i64 p, .int .i64 v] 39))) := (Below.refl _ _).alloc (Nat.le_refl _) _
  have n1 := told_num p v
  have n2 := packed_num p v
  obtain ⟨T, hT⟩ : ∃ T, packB p v * 4 = T := ⟨_, rfl⟩
  obtain ⟨R, hR⟩ : ∃ R, packP p v = R := ⟨_, rfl⟩
  rw [hT] at n1 n2
  rw [hR] at n2 ⊢
  have N2 : Hid (bits BinOp.or IntKind.i64 T (bits BinOp.and IntKind.i64 (bitsW T) 3) = R) := n2
  clear hT hR n2
  obtain ⟨W0, hW0⟩ : ∃ W0, W0 = w.alloc (.cells #[.int .i64 p, .int .i64 v] 39) := ⟨_, rfl⟩
  rw [← hW0] at F FB
  have HW0 : Hid (W0 = w.alloc (.cells #[.int .i64 p, .int .i64 v] 39)) := hW0
  clear hW0
  go_enter Try.func45, Try.ntmps45
  go_wp2_with fail
  rw [← HW0.out]
  have F : Hid (Blk W0.drew w.heap.size [.int .i64 p, .int .i64 v]) := F.out.below (Below.refl _ _).drew F.out.lt
  have FB : Hid (Below w.heap.size w W0.drew) := FB.out.drew
  refine wp_region_held_drew (S := (fun w'' => Blk w'' w.heap.size ([.int .i64 p, .int .i64 v]))) (by kernel_rfl) (by (try dsimp only); first | exact F.out | go_keep) (fun hHeld => ?_)
  obtain ⟨v_1, hw1⟩ : ∃ v_1, v_1 = W0.drew := ⟨_, rfl⟩
  have F : Hid (Blk v_1 w.heap.size [.int .i64 p, .int .i64 v]) := by rw [hw1]; exact F.out
  have FB : Hid (Below w.heap.size w v_1) := by rw [hw1]; exact FB.out
  rw [← hw1] at hHeld ⊢
  clear hw1
  refine tkz 0 rfl ?_
  refine tkz 1 rfl ?_ (hy := Or.inl ⟨by kernel_rfl, by (intro wx hSw; have hq0_0 := hSw.c 0 _ rfl; (try dsimp only at hSw); go_simp <;> with_reducible rfl)⟩)
  refine tkz 4 rfl ?_
  refine tkz 5 rfl ?_ (hy := Or.inl ⟨by kernel_rfl, by (intro wx hSw; have hq0_1 := hSw.c 1 _ rfl; (try dsimp only at hSw); go_simp <;> with_reducible rfl)⟩)
  refine wpAnyH_ready (rs := [2]) (by kernel_rfl) (by simp) ?_
  refine (AllReadyH.cons rfl (fun K hK => ?_) AllReadyH.nil)
  go_simp
  refine (lowBits20 _).mono ?_
  rintro e w_ ⟨rfl, hw⟩
  obtain rfl := hw.symm
  clear hw
  try dsimp only
  refine hK.out _ _ (by (try dsimp only); first | exact F.out | go_keep) (fun hHeld => ?_)
  clear hK K
  try simp only [Act.put, List.getElem_toArray, List.getElem_cons_succ, List.getElem_cons_zero, List.setIfInBounds_toArray, List.set_cons_zero, List.set_cons_succ]
  refine tkz 3 rfl ?_
  refine wpAnyH_ready (rs := [6]) (by kernel_rfl) (by simp) ?_
  refine (AllReadyH.cons rfl (fun K hK => ?_) AllReadyH.nil)
  go_simp
  refine (lowBits10 _).mono ?_
  rintro e w_ ⟨rfl, hw⟩
  obtain rfl := hw.symm
  clear hw
  try dsimp only
  refine hK.out _ _ (by (try dsimp only); first | exact F.out | go_keep) (fun hHeld => ?_)
  clear hK K
  try simp only [Act.put, List.getElem_toArray, List.getElem_cons_succ, List.getElem_cons_zero, List.setIfInBounds_toArray, List.set_cons_zero, List.set_cons_succ]
  refine tkz 7 rfl ?_
  refine tkz 8 rfl ?_
  refine tkz 9 rfl ?_
  refine wpAnyH_done (by kernel_rfl) ?_ _
  go_wp2_with (first | (go_at_call 47; refine (lowBits2 _).mono ?_; rintro e w' ⟨rfl, hw⟩; obtain rfl := hw.symm; clear hw) | (go_at_call 14; refine (implBits_any _ _).mono ?_; rintro e w' ⟨rfl, hw⟩; obtain rfl := hw.symm; clear hw))
  go_ret
  exact ⟨ret_int N2.out, by first | exact FB.out | exact FB.out.drew⟩
set_option maxRecDepth 20000 in
set_option maxHeartbeats 8000000 in
theorem implPack_any (p v : Int) (w : World) :
    Calls Try.prog 24 #[.agg #[.int .i64 p, .int .i64 v]] w fun e w' => e = .returned (.agg #[.int .i64 (packK p v), .int .i64 (packV p v)]) ∧ Below w.heap.size w w' := by
  have F : Hid (Blk ((w.alloc (.cells #[.int .i64 p, .int .i64 v] 39)).alloc (.cells #[.int .i64 0, .int .i64 0] 26)) (w.heap.size + 1) [.int .i64 0, .int .i64 0]) := Blk.at_ _ _ _ _ (by simp)
  have FB : Hid (Below w.heap.size w ((w.alloc (.cells #[.int .i64 p, .int .i64 v] 39)).alloc (.cells #[.int .i64 0, .int .i64 0] 26))) := ((Below.refl _ _).alloc (Nat.le_refl _) _).alloc (by simp) _
  obtain ⟨K, hK⟩ : ∃ K, packK p v = K := ⟨_, rfl⟩
  obtain ⟨V, hV⟩ : ∃ V, packV p v = V := ⟨_, rfl⟩
  rw [hK, hV]
  unfold packK isReading at hK
  unfold packV isReading at hV
  cases h1 : inB p (-524288) 524287
  · have HK : Hid ((3 : Int) = K) := by show (3 : Int) = K; rw [h1] at hK; simpa using hK
    have HV : Hid ((0 : Int) = V) := by show (0 : Int) = V; rw [h1] at hV; simpa using hV
    clear hK hV
    go_enter Try.func24, Try.ntmps24
    go_wp2_with (first | (go_at_call 44; (fail_if_success have := Gf0); refine (fits20 _ _).mono ?_; rintro e w' ⟨rfl, hw⟩; obtain rfl := hw.symm; clear hw; have Gf0 : Hid True := trivial) | (go_at_call 44; (fail_if_success have := Gf1); refine (fits10 _ _).mono ?_; rintro e w' ⟨rfl, hw⟩; obtain rfl := hw.symm; clear hw; have Gf1 : Hid True := trivial) | (refine store_blk [.int .i64 (3), .int .i64 (0)] 26 _ _ (by kernel_rfl) (by kernel_rfl) (by kernel_rfl) F.out rfl rfl rfl rfl ?_))
    exact bodyPost_ret (v := .agg #[.int .i64 (3), .int .i64 (0)]) ((F.out.row [.int .i64 (3), .int .i64 (0)]).res _ Try.results24 Try.underlying26 (by kernel_rfl) rfl) rfl ⟨ret_two2 HK.out HV.out, below_row FB.out (by simp) _⟩
  cases h2 : inB v (-512) 511
  · have HK : Hid ((3 : Int) = K) := by show (3 : Int) = K; rw [h1, h2] at hK; simpa using hK
    have HV : Hid ((0 : Int) = V) := by show (0 : Int) = V; rw [h1, h2] at hV; simpa using hV
    clear hK hV
    go_enter Try.func24, Try.ntmps24
    go_wp2_with (first | (go_at_call 44; (fail_if_success have := Gf0); refine (fits20 _ _).mono ?_; rintro e w' ⟨rfl, hw⟩; obtain rfl := hw.symm; clear hw; have Gf0 : Hid True := trivial) | (go_at_call 44; (fail_if_success have := Gf1); refine (fits10 _ _).mono ?_; rintro e w' ⟨rfl, hw⟩; obtain rfl := hw.symm; clear hw; have Gf1 : Hid True := trivial) | (refine store_blk [.int .i64 (3), .int .i64 (0)] 26 _ _ (by kernel_rfl) (by kernel_rfl) (by kernel_rfl) F.out rfl rfl rfl rfl ?_))
    exact bodyPost_ret (v := .agg #[.int .i64 (3), .int .i64 (0)]) ((F.out.row [.int .i64 (3), .int .i64 (0)]).res _ Try.results24 Try.underlying26 (by kernel_rfl) rfl) rfl ⟨ret_two2 HK.out HV.out, below_row FB.out (by simp) _⟩
  · have HK : Hid ((0 : Int) = K) := by show (0 : Int) = K; rw [h1, h2] at hK; simpa using hK
    have HV : Hid (packP p v = V) := by show packP p v = V; rw [h1, h2] at hV; simpa using hV
    clear hK hV
    go_enter Try.func24, Try.ntmps24
    go_wp2_with (first | (go_at_call 44; (fail_if_success have := Gf0); refine (fits20 _ _).mono ?_; rintro e w' ⟨rfl, hw⟩; obtain rfl := hw.symm; clear hw; have Gf0 : Hid True := trivial) | (go_at_call 44; (fail_if_success have := Gf1); refine (fits10 _ _).mono ?_; rintro e w' ⟨rfl, hw⟩; obtain rfl := hw.symm; clear hw; have Gf1 : Hid True := trivial) | (go_at_call 45; refine (packed_any p v _).mono ?_; rw [HV.out]; rintro e w1 ⟨rfl, hb⟩; have F : Hid (Blk w1 (w.heap.size + 1) [.int .i64 0, .int .i64 0]) := F.out.below hb (by simp); have FB : Hid (Below w.heap.size w w1) := FB.out.trans (hb.mono (by simp <;> omega)); clear hb) | (refine store_blk [.int .i64 (0), .int .i64 (V)] 26 _ _ (by kernel_rfl) (by kernel_rfl) (by kernel_rfl) F.out rfl rfl rfl rfl ?_))
    exact bodyPost_ret (v := .agg #[.int .i64 (0), .int .i64 (V)]) ((F.out.row [.int .i64 (0), .int .i64 (V)]).res _ Try.results24 Try.underlying26 (by kernel_rfl) rfl) rfl ⟨ret_two2 HK.out rfl, below_row FB.out (by simp) _⟩
set_option maxRecDepth 20000 in
set_option maxHeartbeats 8000000 in
theorem unpacked_any (x : Int) (h1 : 0 ≤ x) (h2 : x ≤ 4294967295) (w : World) :
    Calls Try.prog 48 #[.int .i64 x] w fun e w' => e = .returned (.agg #[.int .i64 (unP x), .int .i64 (unQ x)]) ∧ Below w.heap.size w w' := by
  have F : Hid (Blk (w.alloc (.cells #[.int .i64 0, .int .i64 0] 39)) w.heap.size [.int .i64 0, .int .i64 0]) := Blk.at_ w _ _ _ rfl
  have FB : Hid (Below w.heap.size w (w.alloc (.cells #[.int .i64 0, .int .i64 0] 39))) := (Below.refl _ _).alloc (Nat.le_refl _) _
  have a1 : bits BinOp.and IntKind.i64 (x / 4096) 1048575 = x / 4096 := by rw [and20]; omega
  have a2 := and10 (x / 4)
  have g1 : sig20 (x / 4096) = unP x := by
    unfold sig20 unP wrap64
    by_cases c : x / 4096 < 524288
    · rw [if_pos c, if_neg (by omega)]
    · rw [if_neg c, if_pos (by omega)]; omega
  have g2 : sig10 (x / 4 % 1024) = unQ x := by
    unfold sig10 unQ wrap64
    rw [and10]
    by_cases c : x / 4 % 1024 < 512
    · rw [if_pos c, if_neg (by omega)]
    · rw [if_neg c, if_pos (by omega)]; omega
  obtain ⟨P, hP⟩ : ∃ P, unP x = P := ⟨_, rfl⟩
  obtain ⟨Q, hQ⟩ : ∃ Q, unQ x = Q := ⟨_, rfl⟩
  rw [hP] at g1 ⊢
  rw [hQ] at g2 ⊢
  have G1 : Hid (sig20 (x / 4096) = P) := g1
  have G2 : Hid (sig10 (x / 4 % 1024) = Q) := g2
  clear hP hQ g1 g2
  have x1 : 0 ≤ x / 4096 := by omega
  have x2 : x / 4096 < 1048576 := by omega
  have y1 : 0 ≤ x / 4 % 1024 := by omega
  have y2 : x / 4 % 1024 < 1024 := by omega
  go_enter Try.func48, Try.ntmps48
  go_wp2_with (first | (go_at_call 47; (fail_if_success have := Gl0); refine (lowBits20 _).mono ?_; rintro e w' ⟨rfl, hw⟩; obtain rfl := hw.symm; clear hw; have Gl0 : Hid True := trivial) | (go_at_call 47; (fail_if_success have := Gl1); refine (lowBits10 _).mono ?_; rintro e w' ⟨rfl, hw⟩; obtain rfl := hw.symm; clear hw; have Gl1 : Hid True := trivial) | (go_at_call 53; (fail_if_success have := GS); refine (signed20 (x / 4096) x1 x2 _).mono ?_; rw [G1.out]; rintro e w' ⟨rfl, hw⟩; obtain rfl := hw.symm; clear hw; have GS : Hid True := trivial) | (go_at_call 53; refine (signed10 (x / 4 % 1024) y1 y2 _).mono ?_; rw [G2.out]; rintro e w' ⟨rfl, hw⟩; obtain rfl := hw.symm; clear hw) | (refine store_blk [.int .i64 P, .int .i64 Q] 39 _ _ (by kernel_rfl) (by kernel_rfl) (by kernel_rfl) F.out rfl rfl rfl rfl ?_))
  exact bodyPost_ret (v := .agg #[.int .i64 P, .int .i64 Q]) ((F.out.row [.int .i64 P, .int .i64 Q]).res _ Try.results48 Try.underlying39 (by kernel_rfl) rfl) rfl ⟨rfl, below_row FB.out (Nat.le_refl _) _⟩
theorem un_reading {x : Int} (h : inB x 0 4294967295 = true) : isReading (unP x) (unQ x) = true := by
  obtain ⟨h1, h2⟩ := inB_iff.1 h
  unfold isReading unP unQ wrap64
  rw [and10, Bool.and_eq_true]
  refine ⟨inB_iff.2 ?_, inB_iff.2 ?_⟩
  · split <;> omega
  · split <;> omega
theorem ret_tri {a b c a' b' c' : Int} (h : a = a') (k : b = b') (m : c = c') : Ending.returned (.agg #[.int .i64 a, .int .i64 b, .int .i64 c]) = .returned (.agg #[.int .i64 a', .int .i64 b', .int .i64 c']) := by rw [h, k, m]
set_option maxRecDepth 20000 in
set_option maxHeartbeats 8000000 in
theorem implUnpack_any (x : Int) (w : World) :
    Calls Try.prog 26 #[.int .i64 x] w fun e w' => e = .returned (.agg #[.int .i64 (unK x), .int .i64 (unA x), .int .i64 (unB x)]) ∧ Below w.heap.size w w' := by
  have F0 : Hid (Blk (w.alloc (.cells #[.int .i64 0, .int .i64 0, .int .i64 0] 43)) w.heap.size [.int .i64 0, .int .i64 0, .int .i64 0]) := Blk.at_ w _ _ _ rfl
  have FB : Hid (Below w.heap.size w (w.alloc (.cells #[.int .i64 0, .int .i64 0, .int .i64 0] 43))) := (Below.refl _ _).alloc (Nat.le_refl _) _
  cases h1 : inB x 0 4294967295
  · have k : unK x = 3 := by unfold unK; rw [h1]; rfl
    have ka : unA x = 0 := by unfold unA; rw [k]; rfl
    have kb : unB x = 0 := by unfold unB; rw [k]; rfl
    rw [k, ka, kb]
    clear k ka kb
    go_enter Try.func26, Try.ntmps26
    go_wp2_with (first | (go_at_call 47; refine (lowBits32 _).mono ?_; rintro e w' ⟨rfl, hw⟩; obtain rfl := hw.symm; clear hw) | (go_at_call 34; refine (isWithin_any _ _ _ _).mono ?_; rw [h1]; rintro e w' ⟨rfl, hw⟩; obtain rfl := hw.symm; clear hw) | (refine store_blk [.int .i64 3, .int .i64 0, .int .i64 0] 43 _ _ (by kernel_rfl) (by kernel_rfl) (by kernel_rfl) F0.out rfl rfl rfl rfl ?_))
    exact bodyPost_ret (v := .agg #[.int .i64 3, .int .i64 0, .int .i64 0]) ((F0.out.row [.int .i64 3, .int .i64 0, .int .i64 0]).res _ Try.results26 Try.underlying43 (by kernel_rfl) rfl) rfl ⟨rfl, below_row FB.out (Nat.le_refl _) _⟩
  have hr := un_reading h1
  obtain ⟨x1, x2⟩ := inB_iff.1 h1
  have k : unK x = if packP (unP x) (unQ x) = x then 0 else 1 := by unfold unK packV; rw [h1, if_pos rfl, if_pos hr]
  have ka : unA x = if packP (unP x) (unQ x) = x then unP x else 0 := by
    unfold unA; rw [k]; by_cases c : packP (unP x) (unQ x) = x
    · rw [if_pos c, if_pos rfl, if_pos c]
    · rw [if_neg c, if_neg (by decide), if_neg c]
  have kb : unB x = if packP (unP x) (unQ x) = x then unQ x else 0 := by
    unfold unB; rw [k]; by_cases c : packP (unP x) (unQ x) = x
    · rw [if_pos c, if_pos rfl, if_pos c]
    · rw [if_neg c, if_neg (by decide), if_neg c]
  rw [k, ka, kb]
  clear k ka kb hr
  obtain ⟨P, hP⟩ : ∃ P, unP x = P := ⟨_, rfl⟩
  obtain ⟨Q, hQ⟩ : ∃ Q, unQ x = Q := ⟨_, rfl⟩
  obtain ⟨R, hR⟩ : ∃ R, packP P Q = R := ⟨_, rfl⟩
  rw [hP, hQ, hR]
  have HP : Hid (unP x = P) := hP
  have HQ : Hid (unQ x = Q) := hQ
  have HR : Hid (packP P Q = R) := hR
  clear hP hQ hR
  by_cases c : R = x
  · rw [if_pos c, if_pos c, if_pos c]
    have d : decide (R ≠ x) = false := decide_eq_false (fun z => z c)
    have d2 : (R == x) = true := by rw [c]; simp
    have HC : Hid (R = x) := c
    clear c
    go_enter Try.func26, Try.ntmps26
    go_wp2_with (first | (go_at_call 47; refine (lowBits32 _).mono ?_; rintro e w' ⟨rfl, hw⟩; obtain rfl := hw.symm; clear hw) | (go_at_call 34; refine (isWithin_any _ _ _ _).mono ?_; rw [h1]; rintro e w' ⟨rfl, hw⟩; obtain rfl := hw.symm; clear hw) | (go_at_call 48; refine (unpacked_any x x1 x2 _).mono ?_; rw [HP.out, HQ.out]; rintro e w1 ⟨rfl, hb⟩; have F0 : Hid (Blk w1 w.heap.size [.int .i64 0, .int .i64 0, .int .i64 0]) := F0.out.below hb (by simp); have FB : Hid (Below w.heap.size w w1) := FB.out.trans (hb.mono (by simp)); have l1 := F0.out.lt; clear hb) | (go_at_call 45; refine (packed_any P Q _).mono ?_; rw [HR.out]; rintro e w2 ⟨rfl, hb⟩; have F1 : Hid (Blk w2 w1.heap.size [.int .i64 P, .int .i64 Q]) := (Blk.at_ w1 #[.int .i64 P, .int .i64 Q] _ _ rfl).below hb (by simp); have F0 : Hid (Blk w2 w.heap.size [.int .i64 0, .int .i64 0, .int .i64 0]) := (F0.out.alloc _).below hb (by simp; omega); have FB : Hid (Below w.heap.size w w2) := (FB.out.alloc FB.out.size _).trans (hb.mono (by have := FB.out.size; simp; omega)); have v0 := F1.out.c 0 _ rfl; have v1 := F1.out.c 1 _ rfl; clear hb) | (refine store_blk [.int .i64 0, .int .i64 P, .int .i64 Q] 43 _ _ (by kernel_rfl) (by kernel_rfl) (by kernel_rfl) F0.out rfl rfl rfl rfl ?_))
    exact bodyPost_ret (v := .agg #[.int .i64 0, .int .i64 P, .int .i64 Q]) ((F0.out.row [.int .i64 0, .int .i64 P, .int .i64 Q]).res _ Try.results26 Try.underlying43 (by kernel_rfl) rfl) rfl ⟨rfl, below_row FB.out (Nat.le_refl _) _⟩
  · rw [if_neg c, if_neg c, if_neg c]
    have d : decide (R ≠ x) = true := decide_eq_true c
    have d2 : (R == x) = false := by simp [c]
    go_enter Try.func26, Try.ntmps26
    go_wp2_with (first | (go_at_call 47; refine (lowBits32 _).mono ?_; rintro e w' ⟨rfl, hw⟩; obtain rfl := hw.symm; clear hw) | (go_at_call 34; refine (isWithin_any _ _ _ _).mono ?_; rw [h1]; rintro e w' ⟨rfl, hw⟩; obtain rfl := hw.symm; clear hw) | (go_at_call 48; refine (unpacked_any x x1 x2 _).mono ?_; rw [HP.out, HQ.out]; rintro e w1 ⟨rfl, hb⟩; have F0 : Hid (Blk w1 w.heap.size [.int .i64 0, .int .i64 0, .int .i64 0]) := F0.out.below hb (by simp); have FB : Hid (Below w.heap.size w w1) := FB.out.trans (hb.mono (by simp)); have l1 := F0.out.lt; clear hb) | (go_at_call 45; refine (packed_any P Q _).mono ?_; rw [HR.out]; rintro e w2 ⟨rfl, hb⟩; have F1 : Hid (Blk w2 w1.heap.size [.int .i64 P, .int .i64 Q]) := (Blk.at_ w1 #[.int .i64 P, .int .i64 Q] _ _ rfl).below hb (by simp); have F0 : Hid (Blk w2 w.heap.size [.int .i64 0, .int .i64 0, .int .i64 0]) := (F0.out.alloc _).below hb (by simp; omega); have FB : Hid (Below w.heap.size w w2) := (FB.out.alloc FB.out.size _).trans (hb.mono (by have := FB.out.size; simp; omega)); have v0 := F1.out.c 0 _ rfl; have v1 := F1.out.c 1 _ rfl; clear hb) | (refine store_blk [.int .i64 1, .int .i64 0, .int .i64 0] 43 _ _ (by kernel_rfl) (by kernel_rfl) (by kernel_rfl) F0.out rfl rfl rfl rfl ?_))
    exact bodyPost_ret (v := .agg #[.int .i64 1, .int .i64 0, .int .i64 0]) ((F0.out.row [.int .i64 1, .int .i64 0, .int .i64 0]).res _ Try.results26 Try.underlying43 (by kernel_rfl) rfl) rfl ⟨rfl, below_row FB.out (Nat.le_refl _) _⟩
end Go.Proofs.Ytkpcolfbnkopkaa
