/-
  FnGrays: from each number to the next just one bit turns.
-/
import Derived.Test.YtkpcolfbnkopkaaSenP
import Derived.Test.YtkpcolfbnkopkaaSenL
import Derived.Test.YtkpcolfbnkopkaaSenK
import Derived.Test.YtkpcolfbnkopkaaSenH
import Derived.Test.YtkpcolfbnkopkaaAt
import Derived.Deep.RegionHeld3
import Derived.BigGuardPart
namespace Go.Proofs.Ytkpcolfbnkopkaa
open Go.RowKit Pl
set_option linter.unusedSimpArgs false
set_option linter.unusedVariables false

theorem gray_nat {x : Nat} (hx : x < 65536) : grayP (x : Int) = ((grayN x : Nat) : Int) := by
  unfold grayP grayN
  have e := xor_nat (a := x) (b := x / 2) hx (by omega)
  rw [show ((x / 2 : Nat) : Int) = (x : Int) / 2 from Int.natCast_ediv _ _] at e
  exact e
theorem grayN_lt {x : Nat} (hx : x < 65536) : grayN x < 65536 := Nat.xor_lt_two_pow (n := 16) hx (by omega)
theorem bitsW_nat {x : Nat} (hx : x < 65536) : bitsW (x : Int) = ((popc x : Nat) : Int) := by
  unfold bitsW
  have e : IntKind.u64.wrap (x : Int) = (x : Int) := by
    simp [IntKind.wrap, IntKind.bits, IntKind.signed]
    omega
  rw [e, Int.toNat_natCast]
theorem gray_round {x y : Nat} (hx : x < 65536) (hy : y = (x + 1) % 65536) : popc (grayN x ^^^ grayN y) = 1 := by
  by_cases c : x + 1 < 65536
  · rw [Nat.mod_eq_of_lt c] at hy
    rw [hy]
    exact gray_next x x (Nat.le_refl _)
  · have e : x = 65535 := by omega
    subst e
    have e2 : y = 0 := by omega
    subst e2
    have e3 : grayN 65535 ^^^ grayN 0 = 32768 := by decide +kernel
    rw [e3]
    rw [popc_byte, popc_byte (32768 / 256), show 32768 / 256 / 256 = 0 from rfl, popc_zero]
    decide
set_option maxRecDepth 20000 in
set_option maxHeartbeats 32000000 in
theorem grays_walk (a0 : Option Addr) (len0 cap0 : Nat) (w : World) (hc : ∀ sb, w.heap.size ≤ sb → CodeIn w sb a0 len0) (hlt : CodeLt w a0 len0) (hbig : len0 ≤ 1048576) :
    Calls Try.prog 3 #[.slice a0 len0 cap0] w fun e w' => e = .returned (.bool true) ∧ Below w.heap.size w w' := by
  have HC : Hid (∀ sb, w.heap.size ≤ sb → CodeIn w sb a0 len0) := hc
  have HLT : Hid (CodeLt w a0 len0) := hlt
  clear hc hlt
  go_enter Try.func3, Try.ntmps3
  go_wp2_with (go_at_call 9; refine (lwBig_no _ _ _ hbig _).mono ?_; rintro e w' ⟨rfl, hw⟩; obtain rfl := hw.symm; clear hw)
  refine (DrawGrayOfP a0 len0 cap0 _ (HC.out _ (Nat.le_refl _))).mono ?_
  rintro e w1 ⟨n, rfl, hn, hb⟩
  have HC : Hid (∀ sb, w.heap.size ≤ sb → CodeIn w1 sb a0 len0) := codeIn_below HC.out HLT.out hb
  have FB : Hid (Below w.heap.size w w1) := hb
  clear hb
  cases hr : isCount n
  · have CI : ∀ W, Calls Try.prog 11 #[.int .i64 n] W fun e w' => e = .returned (.agg #[.int .i64 3, .int .i64 0]) ∧ Below W.heap.size W w' := by
      intro W
      have q := implGray_any n W
      unfold grayK grayV at q
      rw [hr] at q
      exact q
    have CS : ∀ W, Calls Try.prog 12 #[.int .i64 n] W fun e w' => e = .returned (.agg #[.int .i64 3, .int .i64 0]) ∧ Below W.heap.size W w' := by
      intro W
      have q := specGray_any n W
      unfold grayK grayV at q
      rw [hr] at q
      exact q
    have fp : ∀ W, (Instr.field 26 (.agg #[.int .i64 3, .int .i64 0]) 0).run Try.prog W = .ok (.int .i64 3) W := fun W => by kernel_rfl
    go_upto_region 6 with (go_at_call 11; refine (CI _).mono ?_; rintro e w3 ⟨rfl, hb⟩; have HC : Hid (∀ sb, w.heap.size ≤ sb → CodeIn w3 sb a0 len0) := codeIn_below HC.out HLT.out (hb.mono FB.out.size); have FB : Hid (Below w.heap.size w w3) := FB.out.trans (hb.mono FB.out.size); clear hb)
    obtain ⟨b2, hbb⟩ : ∃ b2, b2 = w3.heap.size := ⟨_, rfl⟩
    obtain ⟨w4, hw2⟩ : ∃ w4, w4 = w3.alloc (.cells #[.int .i64 3, .int .i64 0] 26) := ⟨_, rfl⟩
    have leb2 : w.heap.size ≤ b2 := by rw [hbb]; exact FB.out.size
    have F2 : Hid (Blk w4 b2 [.int .i64 3, .int .i64 0]) := by rw [hw2]; exact Blk.at_ w3 #[.int .i64 3, .int .i64 0] _ _ hbb
    have HC : Hid (∀ sb, w.heap.size ≤ sb → CodeIn w4 sb a0 len0) := codeIn_below HC.out HLT.out (by rw [hw2]; exact (Below.refl _ _).alloc FB.out.size _)
    have FB : Hid (Below w.heap.size w w4) := by rw [hw2]; exact FB.out.alloc FB.out.size _
    rw [← hw2, ← hbb]
    clear hbb hw2
    have F2c0 := F2.out.c 0 _ rfl
    have F2c1 := F2.out.c 1 _ rfl
    have F2l := F2.out.lt
    have F2 : Hid (Blk w4.drew b2 [.int .i64 3, .int .i64 0]) := F2.out.below (Below.refl _ _).drew F2.out.lt
    have FB : Hid (Below w.heap.size w w4.drew) := FB.out.drew
    refine wp_region_held_drew (S := (fun w'' => Blk w'' b2 ([.int .i64 3, .int .i64 0]))) (by kernel_rfl) (by (try dsimp only); first | exact F2.out | go_keep) (fun hHeld => ?_)
    obtain ⟨v_1, hw1⟩ : ∃ v_1, v_1 = w4.drew := ⟨_, rfl⟩
    have F2 : Hid (Blk v_1 b2 [.int .i64 3, .int .i64 0]) := by rw [hw1]; exact F2.out
    have FB : Hid (Below w.heap.size w v_1) := by rw [hw1]; exact FB.out
    rw [← hw1] at hHeld ⊢
    clear hw1
    refine tkz 0 rfl ?_
    refine tkz 3 rfl ?_
    refine tkz 4 rfl ?_ (hy := Or.inl ⟨by kernel_rfl, by (intro wx hSw; have hq0_0 := hSw.c 0 _ rfl; (try dsimp only at hSw); go_simp <;> with_reducible rfl)⟩)
    refine wpAnyH_ready (rs := [1]) (by kernel_rfl) (by simp) ?_
    refine (AllReadyH.cons rfl (fun K hK => ?_) AllReadyH.nil)
    go_simp
    refine (CS _).mono ?_
    rintro e v_2 ⟨rfl, hb⟩
    have F2 : Hid (Blk v_2 b2 [.int .i64 3, .int .i64 0]) := F2.out.below hb F2.out.lt
    have FB : Hid (Below w.heap.size w v_2) := FB.out.trans (hb.mono FB.out.size)
    clear hb
    try dsimp only
    refine hK.out _ _ (by (try dsimp only); first | exact F2.out | go_keep) (fun hHeld => ?_)
    clear hK K
    try simp only [Act.put, List.getElem_toArray, List.getElem_cons_succ, List.getElem_cons_zero, List.setIfInBounds_toArray, List.set_cons_zero, List.set_cons_succ]
    refine tkz 2 rfl ?_
    refine tkz 5 rfl ?_
    refine tkz 6 rfl ?_
    refine wpAnyH_done (by kernel_rfl) ?_ _
    go_wp2_with fail
    go_ret
    exact ⟨by simp, FB.out⟩
  · obtain ⟨n1, n2⟩ := inB_iff.1 hr
    obtain ⟨x, rfl⟩ : ∃ x : Nat, n = (x : Int) := ⟨n.toNat, by omega⟩
    have hx : x < 65536 := by omega
    obtain ⟨y, hy⟩ : ∃ y : Nat, y = (x + 1) % 65536 := ⟨_, rfl⟩
    have hyl : y < 65536 := by omega
    have em : ((x : Int) + 1).tmod 65536 = (y : Int) := by
      rw [Int.tmod_eq_emod_of_nonneg (by omega)]
      omega
    have em2 : ((x : Int) + 1) % 65536 = (y : Int) := by omega
    have ew : IntKind.i64.wrap ((x : Int) + 1) = (x : Int) + 1 := IntWalk.i64_in _ (by omega)
    have hyc : isCount (y : Int) = true := inB_iff.2 (by omega)
    have gx := grayN_lt hx
    have gy := grayN_lt hyl
    have gr := gray_round hx hy
    have fg := fromG_gray x x (Nat.le_refl _)
    obtain ⟨G, hG⟩ : ∃ G, grayN x = G := ⟨_, rfl⟩
    obtain ⟨N, hN⟩ : ∃ N, grayN y = N := ⟨_, rfl⟩
    have CI : ∀ W, Calls Try.prog 11 #[.int .i64 (x : Int)] W fun e w' => e = .returned (.agg #[.int .i64 0, .int .i64 (G : Int)]) ∧ Below W.heap.size W w' := by
      intro W
      have q := implGray_any (x : Int) W
      unfold grayK grayV at q
      rw [hr, gray_nat hx, hG] at q
      exact q
    have CN : ∀ W, Calls Try.prog 11 #[.int .i64 (y : Int)] W fun e w' => e = .returned (.agg #[.int .i64 0, .int .i64 (N : Int)]) ∧ Below W.heap.size W w' := by
      intro W
      have q := implGray_any (y : Int) W
      unfold grayK grayV at q
      rw [hyc, gray_nat hyl, hN] at q
      exact q
    rw [hG] at gx gr
    rw [hN] at gy gr
    have hGc : isCount (G : Int) = true := inB_iff.2 (by omega)
    have CF : ∀ W, Calls Try.prog 13 #[.int .i64 (G : Int)] W fun e w' => e = .returned (.agg #[.int .i64 0, .int .i64 (x : Int)]) ∧ Below W.heap.size W w' := by
      intro W
      have q := implFrom_any (G : Int) W
      unfold fromK fromV at q
      rw [hGc, if_pos rfl, if_pos rfl, Int.toNat_natCast, ← hG, show fromG (grayN x) = x from fg, hG] at q
      exact q
    have CB : ∀ W, Calls Try.prog 14 #[.int .i64 (bits BinOp.xor IntKind.i64 (G : Int) (N : Int))] W fun e w' => e = .returned (.int .i64 1) ∧ w' = W := by
      intro W
      have q := implBits_any (bits BinOp.xor IntKind.i64 (G : Int) (N : Int)) W
      rw [show bitsW (bits BinOp.xor IntKind.i64 (G : Int) (N : Int)) = 1 by rw [xor_nat gx gy, bitsW_nat (Nat.xor_lt_two_pow (n := 16) gx gy), gr]; rfl] at q
      exact q
    clear hy hyl hyc gr fg hG hN hr n1 n2 hGc
    go_upto_region 7 with (go_at_call 11; refine (CI _).mono ?_; rintro e w3 ⟨rfl, hb⟩; have HC : Hid (∀ sb, w.heap.size ≤ sb → CodeIn w3 sb a0 len0) := codeIn_below HC.out HLT.out (hb.mono FB.out.size); have FB : Hid (Below w.heap.size w w3) := FB.out.trans (hb.mono FB.out.size); clear hb)
    obtain ⟨b2, hbb⟩ : ∃ b2, b2 = w3.heap.size := ⟨_, rfl⟩
    obtain ⟨w4, hw2⟩ : ∃ w4, w4 = w3.alloc (.cells #[.int .i64 0, .int .i64 ((G : Int))] 26) := ⟨_, rfl⟩
    have leb2 : w.heap.size ≤ b2 := by rw [hbb]; exact FB.out.size
    have F2 : Hid (Blk w4 b2 [.int .i64 0, .int .i64 ((G : Int))]) := by rw [hw2]; exact Blk.at_ w3 #[.int .i64 0, .int .i64 ((G : Int))] _ _ hbb
    have HC : Hid (∀ sb, w.heap.size ≤ sb → CodeIn w4 sb a0 len0) := codeIn_below HC.out HLT.out (by rw [hw2]; exact (Below.refl _ _).alloc FB.out.size _)
    have FB : Hid (Below w.heap.size w w4) := by rw [hw2]; exact FB.out.alloc FB.out.size _
    rw [← hw2, ← hbb]
    clear hbb hw2
    have F2c0 := F2.out.c 0 _ rfl
    have F2c1 := F2.out.c 1 _ rfl
    have F2l := F2.out.lt
    go_upto_region 8 with (go_at_call 13; refine (CF _).mono ?_; rintro e w5 ⟨rfl, hb⟩; have F2 : Hid (Blk w5 b2 [.int .i64 0, .int .i64 ((G : Int))]) := F2.out.below hb F2.out.lt; have HC : Hid (∀ sb, w.heap.size ≤ sb → CodeIn w5 sb a0 len0) := codeIn_below HC.out HLT.out (hb.mono FB.out.size); have FB : Hid (Below w.heap.size w w5) := FB.out.trans (hb.mono FB.out.size); have F2c0 := F2.out.c 0 _ rfl; have F2c1 := F2.out.c 1 _ rfl; have F2l := F2.out.lt; clear hb)
    obtain ⟨b3, hbb⟩ : ∃ b3, b3 = w5.heap.size := ⟨_, rfl⟩
    obtain ⟨w6, hw2⟩ : ∃ w6, w6 = w5.alloc (.cells #[.int .i64 0, .int .i64 ((x : Int))] 26) := ⟨_, rfl⟩
    have neb3F2 : b2 < b3 := by rw [hbb]; exact F2.out.lt
    have leb3 : w.heap.size ≤ b3 := by rw [hbb]; exact FB.out.size
    have F2 : Hid (Blk w6 b2 [.int .i64 0, .int .i64 ((G : Int))]) := by rw [hw2]; exact F2.out.alloc _
    have F3 : Hid (Blk w6 b3 [.int .i64 0, .int .i64 ((x : Int))]) := by rw [hw2]; exact Blk.at_ w5 #[.int .i64 0, .int .i64 ((x : Int))] _ _ hbb
    have HC : Hid (∀ sb, w.heap.size ≤ sb → CodeIn w6 sb a0 len0) := codeIn_below HC.out HLT.out (by rw [hw2]; exact (Below.refl _ _).alloc FB.out.size _)
    have FB : Hid (Below w.heap.size w w6) := by rw [hw2]; exact FB.out.alloc FB.out.size _
    rw [← hw2, ← hbb]
    clear hbb hw2
    have F2c0 := F2.out.c 0 _ rfl
    have F2c1 := F2.out.c 1 _ rfl
    have F3c0 := F3.out.c 0 _ rfl
    have F3c1 := F3.out.c 1 _ rfl
    have F2l := F2.out.lt
    have F3l := F3.out.lt
    go_upto_region 9 with (go_at_call 11; refine (CN _).mono ?_; rintro e w7 ⟨rfl, hb⟩; have F2 : Hid (Blk w7 b2 [.int .i64 0, .int .i64 ((G : Int))]) := F2.out.below hb F2.out.lt; have F3 : Hid (Blk w7 b3 [.int .i64 0, .int .i64 ((x : Int))]) := F3.out.below hb F3.out.lt; have HC : Hid (∀ sb, w.heap.size ≤ sb → CodeIn w7 sb a0 len0) := codeIn_below HC.out HLT.out (hb.mono FB.out.size); have FB : Hid (Below w.heap.size w w7) := FB.out.trans (hb.mono FB.out.size); have F2c0 := F2.out.c 0 _ rfl; have F2c1 := F2.out.c 1 _ rfl; have F3c0 := F3.out.c 0 _ rfl; have F3c1 := F3.out.c 1 _ rfl; have F2l := F2.out.lt; have F3l := F3.out.lt; clear hb)
    obtain ⟨b4, hbb⟩ : ∃ b4, b4 = w7.heap.size := ⟨_, rfl⟩
    obtain ⟨w8, hw2⟩ : ∃ w8, w8 = w7.alloc (.cells #[.int .i64 0, .int .i64 ((N : Int))] 26) := ⟨_, rfl⟩
    have neb4F2 : b2 < b4 := by rw [hbb]; exact F2.out.lt
    have neb4F3 : b3 < b4 := by rw [hbb]; exact F3.out.lt
    have leb4 : w.heap.size ≤ b4 := by rw [hbb]; exact FB.out.size
    have F2 : Hid (Blk w8 b2 [.int .i64 0, .int .i64 ((G : Int))]) := by rw [hw2]; exact F2.out.alloc _
    have F3 : Hid (Blk w8 b3 [.int .i64 0, .int .i64 ((x : Int))]) := by rw [hw2]; exact F3.out.alloc _
    have F4 : Hid (Blk w8 b4 [.int .i64 0, .int .i64 ((N : Int))]) := by rw [hw2]; exact Blk.at_ w7 #[.int .i64 0, .int .i64 ((N : Int))] _ _ hbb
    have HC : Hid (∀ sb, w.heap.size ≤ sb → CodeIn w8 sb a0 len0) := codeIn_below HC.out HLT.out (by rw [hw2]; exact (Below.refl _ _).alloc FB.out.size _)
    have FB : Hid (Below w.heap.size w w8) := by rw [hw2]; exact FB.out.alloc FB.out.size _
    rw [← hw2, ← hbb]
    clear hbb hw2
    have F2c0 := F2.out.c 0 _ rfl
    have F2c1 := F2.out.c 1 _ rfl
    have F3c0 := F3.out.c 0 _ rfl
    have F3c1 := F3.out.c 1 _ rfl
    have F4c0 := F4.out.c 0 _ rfl
    have F4c1 := F4.out.c 1 _ rfl
    have F2l := F2.out.lt
    have F3l := F3.out.lt
    have F4l := F4.out.lt
    go_wp2_with (go_at_call 14; refine (CB _).mono ?_; rintro e w' ⟨rfl, hw⟩; obtain rfl := hw.symm; clear hw)
    go_ret
    exact ⟨by simp, FB.out⟩
end Go.Proofs.Ytkpcolfbnkopkaa
