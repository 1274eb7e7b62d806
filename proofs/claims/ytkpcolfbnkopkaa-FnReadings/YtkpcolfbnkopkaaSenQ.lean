/-
  FnReadings: a reading is told again, and one turned bit is found.
-/
import Derived.Test.YtkpcolfbnkopkaaSenP
import Derived.Test.YtkpcolfbnkopkaaSenM
import Derived.Test.YtkpcolfbnkopkaaSenI
import Derived.Test.YtkpcolfbnkopkaaAt
import Derived.Deep.RegionHeld3
import Derived.BigGuardPart
namespace Go.Proofs.Ytkpcolfbnkopkaa
open Go.RowKit Pl
set_option linter.unusedSimpArgs false
set_option linter.unusedVariables false

theorem lwAtB (a : Option Addr) (len cap : Nat) (i n : Int) (w : World) (h0 : 0 ≤ i) (hi : i ≤ 1000000) (hn : 2 ≤ n) (hn2 : n ≤ 1000000000) (sb : Nat) (hc : CodeIn w sb a len) :
    Calls Try.prog 15 #[.slice a len cap, .int .i64 i, .int .i64 n] w fun e w' => ∃ v : Nat, e = .returned (.int .i64 v) ∧ (v : Int) < n ∧ Below w.heap.size w w' := by
  refine (lwAt_int sb a len cap i n w h0 hi hn hn2 hc).mono ?_
  rintro e w' ⟨v, k, he, hv, hw⟩
  exact ⟨v, he, hv, below_drawn (Below.refl _ _) hw⟩
theorem bit_at {k : Nat} (hk : k < 32) {V : Nat} (hV : V < 4294967296) : bits BinOp.xor IntKind.i64 (V : Int) (((2 ^ k : Nat) : Int)) = ((V ^^^ 2 ^ k : Nat) : Int) := by
  have h2 : 2 ^ k < 4294967296 := Nat.pow_lt_pow_of_lt (a := 2) (by decide) hk
  have hx : V ^^^ 2 ^ k < 4294967296 := Nat.xor_lt_two_pow (n := 32) hV h2
  have q : (BitVec.ofNat 64 V ^^^ BitVec.ofNat 64 (2 ^ k)).toNat = V ^^^ 2 ^ k := by
    rw [BitVec.toNat_xor, BitVec.toNat_ofNat, BitVec.toNat_ofNat, Nat.mod_eq_of_lt (by omega), Nat.mod_eq_of_lt (by omega)]
  simp only [bits, BitVec.ofInt_natCast]
  refine (congrArg (fun z : Nat => IntKind.i64.wrap (z : Int)) q).trans ?_
  exact IntWalk.i64_in _ (by omega)
theorem shl_at {k : Nat} (hk : k < 32) : IntKind.i64.wrap ((2 : Int) ^ min (IntKind.u64.wrap (k : Int)).toNat 64) = ((2 ^ k : Nat) : Int) := by
  have h2 : 2 ^ k < 4294967296 := Nat.pow_lt_pow_of_lt (a := 2) (by decide) hk
  have e : IntKind.u64.wrap (k : Int) = (k : Int) := by
    simp [IntKind.wrap, IntKind.bits, IntKind.signed]
    omega
  rw [e, Int.toNat_natCast, Nat.min_eq_left (by omega), show ((2 : Int) ^ k) = ((2 ^ k : Nat) : Int) by rw [Int.natCast_pow]; rfl]
  obtain ⟨M, hM⟩ : ∃ M : Nat, 2 ^ k = M := ⟨_, rfl⟩
  rw [hM] at h2 ⊢
  exact IntWalk.i64_in _ (by omega)
set_option maxRecDepth 20000 in
set_option maxHeartbeats 32000000 in
theorem readings_walk (a0 : Option Addr) (len0 cap0 : Nat) (w : World) (hc : ∀ sb, w.heap.size ≤ sb → CodeIn w sb a0 len0) (hlt : CodeLt w a0 len0) (hbig : len0 ≤ 1048576) :
    Calls Try.prog 6 #[.slice a0 len0 cap0] w fun e w' => e = .returned (.bool true) ∧ Below w.heap.size w w' := by
  have HC : Hid (∀ sb, w.heap.size ≤ sb → CodeIn w sb a0 len0) := hc
  have HLT : Hid (CodeLt w a0 len0) := hlt
  have HC0 : Hid (∀ sb, w.heap.size ≤ sb → CodeIn w sb a0 len0) := hc
  clear hc hlt
  go_enter Try.func6, Try.ntmps6
  go_wp2_with (go_at_call 9; refine (lwBig_no _ _ _ hbig _).mono ?_; rintro e w' ⟨rfl, hw⟩; obtain rfl := hw.symm; clear hw)
  refine (DrawPackReadingP a0 len0 cap0 _ (HC.out _ (Nat.le_refl _))).mono ?_
  rintro e w1 ⟨p, v, rfl, hb⟩
  have HC : Hid (∀ sb, w.heap.size ≤ sb → CodeIn w1 sb a0 len0) := codeIn_below HC.out HLT.out hb
  have FB : Hid (Below w.heap.size w w1) := hb
  clear hb
  go_upto_region 4 with fail
  obtain ⟨b1, hbb⟩ : ∃ b1, b1 = w1.heap.size := ⟨_, rfl⟩
  obtain ⟨w2, hw2⟩ : ∃ w2, w2 = w1.alloc (.cells #[.int .i64 p, .int .i64 v] 39) := ⟨_, rfl⟩
  have leb1 : w.heap.size ≤ b1 := by rw [hbb]; exact FB.out.size
  have F1 : Hid (Blk w2 b1 [.int .i64 p, .int .i64 v]) := by rw [hw2]; exact Blk.at_ w1 #[.int .i64 p, .int .i64 v] _ _ hbb
  have HC : Hid (∀ sb, w.heap.size ≤ sb → CodeIn w2 sb a0 len0) := codeIn_below HC.out HLT.out (by rw [hw2]; exact (Below.refl _ _).alloc FB.out.size _)
  have FB : Hid (Below w.heap.size w w2) := by rw [hw2]; exact FB.out.alloc FB.out.size _
  rw [← hw2, ← hbb]
  clear hbb hw2
  have F1c0 := F1.out.c 0 _ rfl
  have F1c1 := F1.out.c 1 _ rfl
  have F1l := F1.out.lt
  cases hr : isReading p v
  · have CI : ∀ W, Calls Try.prog 24 #[.agg #[.int .i64 p, .int .i64 v]] W fun e w' => e = .returned (.agg #[.int .i64 3, .int .i64 0]) ∧ Below W.heap.size W w' := by
      intro W
      have q := implPack_any p v W
      unfold packK packV at q
      rw [hr] at q
      exact q
    have CS : ∀ W, Calls Try.prog 25 #[.agg #[.int .i64 p, .int .i64 v]] W fun e w' => e = .returned (.agg #[.int .i64 3, .int .i64 0]) ∧ Below W.heap.size W w' := by
      intro W
      have q := specPack_any p v W
      unfold packK packV at q
      rw [hr] at q
      exact q
    have fp : ∀ W, (Instr.field 26 (.agg #[.int .i64 3, .int .i64 0]) 0).run Try.prog W = .ok (.int .i64 3) W := fun W => by kernel_rfl
    go_upto_region 6 with (go_at_call 24; refine (CI _).mono ?_; rintro e w3 ⟨rfl, hb⟩; have F1 : Hid (Blk w3 b1 [.int .i64 p, .int .i64 v]) := F1.out.below hb F1.out.lt; have HC : Hid (∀ sb, w.heap.size ≤ sb → CodeIn w3 sb a0 len0) := codeIn_below HC.out HLT.out (hb.mono FB.out.size); have FB : Hid (Below w.heap.size w w3) := FB.out.trans (hb.mono FB.out.size); have F1c0 := F1.out.c 0 _ rfl; have F1c1 := F1.out.c 1 _ rfl; have F1l := F1.out.lt; clear hb)
    obtain ⟨b2, hbb⟩ : ∃ b2, b2 = w3.heap.size := ⟨_, rfl⟩
    obtain ⟨w4, hw2⟩ : ∃ w4, w4 = w3.alloc (.cells #[.int .i64 3, .int .i64 0] 26) := ⟨_, rfl⟩
    have neb2F1 : b1 < b2 := by rw [hbb]; exact F1.out.lt
    have leb2 : w.heap.size ≤ b2 := by rw [hbb]; exact FB.out.size
    have F1 : Hid (Blk w4 b1 [.int .i64 p, .int .i64 v]) := by rw [hw2]; exact F1.out.alloc _
    have F2 : Hid (Blk w4 b2 [.int .i64 3, .int .i64 0]) := by rw [hw2]; exact Blk.at_ w3 #[.int .i64 3, .int .i64 0] _ _ hbb
    have HC : Hid (∀ sb, w.heap.size ≤ sb → CodeIn w4 sb a0 len0) := codeIn_below HC.out HLT.out (by rw [hw2]; exact (Below.refl _ _).alloc FB.out.size _)
    have FB : Hid (Below w.heap.size w w4) := by rw [hw2]; exact FB.out.alloc FB.out.size _
    rw [← hw2, ← hbb]
    clear hbb hw2
    have F1c0 := F1.out.c 0 _ rfl
    have F1c1 := F1.out.c 1 _ rfl
    have F2c0 := F2.out.c 0 _ rfl
    have F2c1 := F2.out.c 1 _ rfl
    have F1l := F1.out.lt
    have F2l := F2.out.lt
    have F1 : Hid (Blk w4.drew b1 [.int .i64 p, .int .i64 v]) := F1.out.below (Below.refl _ _).drew F1.out.lt
    have F2 : Hid (Blk w4.drew b2 [.int .i64 3, .int .i64 0]) := F2.out.below (Below.refl _ _).drew F2.out.lt
    have FB : Hid (Below w.heap.size w w4.drew) := FB.out.drew
    refine wp_region_held_drew (S := (fun w'' => Blk w'' b1 ([.int .i64 p, .int .i64 v]) ∧ Blk w'' b2 ([.int .i64 3, .int .i64 0]))) (by kernel_rfl) (by (try dsimp only); first | exact ⟨F1.out, F2.out⟩ | go_keep) (fun hHeld => ?_)
    obtain ⟨v_1, hw1⟩ : ∃ v_1, v_1 = w4.drew := ⟨_, rfl⟩
    have F1 : Hid (Blk v_1 b1 [.int .i64 p, .int .i64 v]) := by rw [hw1]; exact F1.out
    have F2 : Hid (Blk v_1 b2 [.int .i64 3, .int .i64 0]) := by rw [hw1]; exact F2.out
    have FB : Hid (Below w.heap.size w v_1) := by rw [hw1]; exact FB.out
    rw [← hw1] at hHeld ⊢
    clear hw1
    refine tkz 0 rfl ?_ (hy := Or.inl ⟨by kernel_rfl, fun wx hSw => exec_load_blk 39 _ Try.underlying39 (by kernel_rfl) rfl rfl hSw.1⟩)
    refine tkz 3 rfl ?_
    refine tkz 4 rfl ?_ (hy := Or.inl ⟨by kernel_rfl, by (intro wx hSw; have hq1_0 := hSw.2.c 0 _ rfl; (try dsimp only at hSw); go_simp <;> with_reducible rfl)⟩)
    refine wpAnyH_ready (rs := [1]) (by kernel_rfl) (by simp) ?_
    refine (AllReadyH.cons rfl (fun K hK => ?_) AllReadyH.nil)
    go_simp
    refine (CS _).mono ?_
    rintro e v_2 ⟨rfl, hb⟩
    have F1 : Hid (Blk v_2 b1 [.int .i64 p, .int .i64 v]) := F1.out.below hb F1.out.lt
    have F2 : Hid (Blk v_2 b2 [.int .i64 3, .int .i64 0]) := F2.out.below hb F2.out.lt
    have FB : Hid (Below w.heap.size w v_2) := FB.out.trans (hb.mono FB.out.size)
    clear hb
    try dsimp only
    refine hK.out _ _ (by (try dsimp only); first | exact ⟨F1.out, F2.out⟩ | go_keep) (fun hHeld => ?_)
    clear hK K
    try simp only [Act.put, List.getElem_toArray, List.getElem_cons_succ, List.getElem_cons_zero, List.setIfInBounds_toArray, List.set_cons_zero, List.set_cons_succ]
    refine tkz 2 rfl ?_
    refine tkz 5 rfl ?_
    refine tkz 6 rfl ?_
    refine wpAnyH_done (by kernel_rfl) ?_ _
    go_wp2_with fail
    go_ret
    exact ⟨by simp, FB.out⟩
  · have hpr := packP_range p v
    obtain ⟨V, hV⟩ : ∃ V : Nat, packP p v = (V : Int) := ⟨(packP p v).toNat, by omega⟩
    have hVl : V < 4294967296 := by omega
    have CI : ∀ W, Calls Try.prog 24 #[.agg #[.int .i64 p, .int .i64 v]] W fun e w' => e = .returned (.agg #[.int .i64 0, .int .i64 (V : Int)]) ∧ Below W.heap.size W w' := by
      intro W
      have q := implPack_any p v W
      unfold packK packV at q
      rw [hr, hV] at q
      exact q
    have CU : ∀ W, Calls Try.prog 26 #[.int .i64 (V : Int)] W fun e w' => e = .returned (.agg #[.int .i64 0, .int .i64 p, .int .i64 v]) ∧ Below W.heap.size W w' := by
      intro W
      have q := implUnpack_any (V : Int) W
      obtain ⟨u1, u2, u3⟩ := un_pack hr
      rw [hV] at u1 u2 u3
      rw [u1, u2, u3] at q
      exact q
    have CB : ∀ k : Nat, k < 32 → ∀ W, Calls Try.prog 26 #[.int .i64 (bits BinOp.xor IntKind.i64 (V : Int) (IntKind.i64.wrap ((2 : Int) ^ min (IntKind.u64.wrap (k : Int)).toNat 64)))] W fun e w' => e = .returned (.agg #[.int .i64 1, .int .i64 0, .int .i64 0]) ∧ Below W.heap.size W w' := by
      intro k hk W
      rw [shl_at hk, bit_at hk hVl]
      have u := un_bent (p := p) (v := v) hk
      rw [hV, Int.toNat_natCast] at u
      have q := implUnpack_any ((V ^^^ 2 ^ k : Nat) : Int) W
      unfold unA unB at q
      rw [u] at q
      exact q
    have hge : decide ((0 : Int) ≤ (V : Int)) = true := decide_eq_true (by omega)
    clear hV hpr hr
    go_upto_region 7 with (go_at_call 24; refine (CI _).mono ?_; rintro e w3 ⟨rfl, hb⟩; have F1 : Hid (Blk w3 b1 [.int .i64 p, .int .i64 v]) := F1.out.below hb F1.out.lt; have HC : Hid (∀ sb, w.heap.size ≤ sb → CodeIn w3 sb a0 len0) := codeIn_below HC.out HLT.out (hb.mono FB.out.size); have FB : Hid (Below w.heap.size w w3) := FB.out.trans (hb.mono FB.out.size); have F1c0 := F1.out.c 0 _ rfl; have F1c1 := F1.out.c 1 _ rfl; have F1l := F1.out.lt; clear hb)
    obtain ⟨b2, hbb⟩ : ∃ b2, b2 = w3.heap.size := ⟨_, rfl⟩
    obtain ⟨w4, hw2⟩ : ∃ w4, w4 = w3.alloc (.cells #[.int .i64 0, .int .i64 ((V : Int))] 26) := ⟨_, rfl⟩
    have neb2F1 : b1 < b2 := by rw [hbb]; exact F1.out.lt
    have leb2 : w.heap.size ≤ b2 := by rw [hbb]; exact FB.out.size
    have F1 : Hid (Blk w4 b1 [.int .i64 p, .int .i64 v]) := by rw [hw2]; exact F1.out.alloc _
    have F2 : Hid (Blk w4 b2 [.int .i64 0, .int .i64 ((V : Int))]) := by rw [hw2]; exact Blk.at_ w3 #[.int .i64 0, .int .i64 ((V : Int))] _ _ hbb
    have HC : Hid (∀ sb, w.heap.size ≤ sb → CodeIn w4 sb a0 len0) := codeIn_below HC.out HLT.out (by rw [hw2]; exact (Below.refl _ _).alloc FB.out.size _)
    have FB : Hid (Below w.heap.size w w4) := by rw [hw2]; exact FB.out.alloc FB.out.size _
    rw [← hw2, ← hbb]
    clear hbb hw2
    have F1c0 := F1.out.c 0 _ rfl
    have F1c1 := F1.out.c 1 _ rfl
    have F2c0 := F2.out.c 0 _ rfl
    have F2c1 := F2.out.c 1 _ rfl
    have F1l := F1.out.lt
    have F2l := F2.out.lt
    go_upto_region 8 with (go_at_call 26; refine (CU _).mono ?_; rintro e w5 ⟨rfl, hb⟩; have F1 : Hid (Blk w5 b1 [.int .i64 p, .int .i64 v]) := F1.out.below hb F1.out.lt; have F2 : Hid (Blk w5 b2 [.int .i64 0, .int .i64 ((V : Int))]) := F2.out.below hb F2.out.lt; have HC : Hid (∀ sb, w.heap.size ≤ sb → CodeIn w5 sb a0 len0) := codeIn_below HC.out HLT.out (hb.mono FB.out.size); have FB : Hid (Below w.heap.size w w5) := FB.out.trans (hb.mono FB.out.size); have F1c0 := F1.out.c 0 _ rfl; have F1c1 := F1.out.c 1 _ rfl; have F2c0 := F2.out.c 0 _ rfl; have F2c1 := F2.out.c 1 _ rfl; have F1l := F1.out.lt; have F2l := F2.out.lt; clear hb)
    obtain ⟨b3, hbb⟩ : ∃ b3, b3 = w5.heap.size := ⟨_, rfl⟩
    obtain ⟨w6, hw2⟩ : ∃ w6, w6 = w5.alloc (.cells #[.int .i64 0, .int .i64 p, .int .i64 v] 43) := ⟨_, rfl⟩
    have neb3F1 : b1 < b3 := by rw [hbb]; exact F1.out.lt
    have neb3F2 : b2 < b3 := by rw [hbb]; exact F2.out.lt
    have leb3 : w.heap.size ≤ b3 := by rw [hbb]; exact FB.out.size
    have F1 : Hid (Blk w6 b1 [.int .i64 p, .int .i64 v]) := by rw [hw2]; exact F1.out.alloc _
    have F2 : Hid (Blk w6 b2 [.int .i64 0, .int .i64 ((V : Int))]) := by rw [hw2]; exact F2.out.alloc _
    have F3 : Hid (Blk w6 b3 [.int .i64 0, .int .i64 p, .int .i64 v]) := by rw [hw2]; exact Blk.at_ w5 #[.int .i64 0, .int .i64 p, .int .i64 v] _ _ hbb
    have HC : Hid (∀ sb, w.heap.size ≤ sb → CodeIn w6 sb a0 len0) := codeIn_below HC.out HLT.out (by rw [hw2]; exact (Below.refl _ _).alloc FB.out.size _)
    have FB : Hid (Below w.heap.size w w6) := by rw [hw2]; exact FB.out.alloc FB.out.size _
    rw [← hw2, ← hbb]
    clear hbb hw2
    have F1c0 := F1.out.c 0 _ rfl
    have F1c1 := F1.out.c 1 _ rfl
    have F2c0 := F2.out.c 0 _ rfl
    have F2c1 := F2.out.c 1 _ rfl
    have F3c0 := F3.out.c 0 _ rfl
    have F3c1 := F3.out.c 1 _ rfl
    have F3c2 := F3.out.c 2 _ rfl
    have F1l := F1.out.lt
    have F2l := F2.out.lt
    have F3l := F3.out.lt
    have HC6 : ∀ W, Below w.heap.size w W → CodeIn W w.heap.size a0 len0 := fun W hW => codeIn_below HC0.out HLT.out hW _ (Nat.le_refl _)
    go_cut [6] from 25 to 51 (fun x wx => ∃ b4, x = .pointer (some ⟨b4, 0, none⟩) ∧ Blk wx b1 [.int .i64 p, .int .i64 v] ∧ Blk wx b2 [.int .i64 0, .int .i64 (V : Int)] ∧ Blk wx b3 [.int .i64 0, .int .i64 p, .int .i64 v] ∧ Blk wx b4 [.int .i64 1, .int .i64 0, .int .i64 0] ∧ Below w.heap.size w wx)
    case first =>
      have F1 : Hid (Blk w6.drew b1 [.int .i64 p, .int .i64 v]) := F1.out.below (Below.refl _ _).drew F1.out.lt
      have F2 : Hid (Blk w6.drew b2 [.int .i64 0, .int .i64 ((V : Int))]) := F2.out.below (Below.refl _ _).drew F2.out.lt
      have F3 : Hid (Blk w6.drew b3 [.int .i64 0, .int .i64 p, .int .i64 v]) := F3.out.below (Below.refl _ _).drew F3.out.lt
      have FB : Hid (Below w.heap.size w w6.drew) := FB.out.drew
      refine wp_region_held_drew (S := (fun w'' => Blk w'' b2 ([.int .i64 0, .int .i64 ((V : Int))]))) (by kernel_rfl) (by (try dsimp only); first | exact F2.out | go_keep) (fun hHeld => ?_)
      obtain ⟨v_3, hw1⟩ : ∃ v_3, v_3 = w6.drew := ⟨_, rfl⟩
      have F1 : Hid (Blk v_3 b1 [.int .i64 p, .int .i64 v]) := by rw [hw1]; exact F1.out
      have F2 : Hid (Blk v_3 b2 [.int .i64 0, .int .i64 ((V : Int))]) := by rw [hw1]; exact F2.out
      have F3 : Hid (Blk v_3 b3 [.int .i64 0, .int .i64 p, .int .i64 v]) := by rw [hw1]; exact F3.out
      have FB : Hid (Below w.heap.size w v_3) := by rw [hw1]; exact FB.out
      rw [← hw1] at hHeld ⊢
      clear hw1
      refine tkz 0 rfl ?_
      refine tkz 1 rfl ?_ (hy := Or.inl ⟨by kernel_rfl, by (intro wx hSw; have hq0_1 := hSw.c 1 _ rfl; (try dsimp only at hSw); go_simp <;> with_reducible rfl)⟩)
      refine tkz 2 rfl ?_
      refine wpAnyH_ready (rs := [3, 8]) (by kernel_rfl) (by simp) ?_
      refine (AllReadyH.cons rfl (fun K hK => ?_) (AllReadyH.cons rfl (fun K hK => ?_) AllReadyH.nil))
      · go_simp
        refine (lwAtB a0 len0 cap0 2 32 _ (by omega) (by omega) (by omega) (by omega) w.heap.size (HC6 _ FB.out)).mono ?_
        rintro e v_4 ⟨k, rfl, hk, hb⟩
        have F1 : Hid (Blk v_4 b1 [.int .i64 p, .int .i64 v]) := F1.out.below hb F1.out.lt
        have F2 : Hid (Blk v_4 b2 [.int .i64 0, .int .i64 ((V : Int))]) := F2.out.below hb F2.out.lt
        have F3 : Hid (Blk v_4 b3 [.int .i64 0, .int .i64 p, .int .i64 v]) := F3.out.below hb F3.out.lt
        have FB : Hid (Below w.heap.size w v_4) := FB.out.trans (hb.mono FB.out.size)
        clear hb
        try dsimp only
        refine hK.out _ _ (by (try dsimp only); first | exact F2.out | go_keep) (fun hHeld => ?_)
        clear hK K
        try simp only [Act.put, List.getElem_toArray, List.getElem_cons_succ, List.getElem_cons_zero, List.setIfInBounds_toArray, List.set_cons_zero, List.set_cons_succ]
        refine tkz 4 rfl ?_
        refine tkz 5 rfl ?_
        refine tkz 6 rfl ?_
        refine wpAnyH_ready (rs := [7, 8]) (by kernel_rfl) (by simp) ?_
        refine (AllReadyH.cons rfl (fun K hK => ?_) (AllReadyH.cons rfl (fun K hK => ?_) AllReadyH.nil))
        · go_simp
          refine (CB k (by omega) _).mono ?_
          rintro e v_5 ⟨rfl, hb⟩
          have F1 : Hid (Blk v_5 b1 [.int .i64 p, .int .i64 v]) := F1.out.below hb F1.out.lt
          have F2 : Hid (Blk v_5 b2 [.int .i64 0, .int .i64 ((V : Int))]) := F2.out.below hb F2.out.lt
          have F3 : Hid (Blk v_5 b3 [.int .i64 0, .int .i64 p, .int .i64 v]) := F3.out.below hb F3.out.lt
          have FB : Hid (Below w.heap.size w v_5) := FB.out.trans (hb.mono FB.out.size)
          clear hb
          try dsimp only
          refine hK.out _ _ (by (try dsimp only); first | exact F2.out | go_keep) (fun hHeld => ?_)
          clear hK K
          try simp only [Act.put, List.getElem_toArray, List.getElem_cons_succ, List.getElem_cons_zero, List.setIfInBounds_toArray, List.set_cons_zero, List.set_cons_succ]
          refine wpAnyH_ready (rs := [8]) (by kernel_rfl) (by simp) ?_
          refine (AllReadyH.cons rfl (fun K hK => ?_) AllReadyH.nil)
          go_simp
          obtain ⟨fb, hbb⟩ : ∃ fb, fb = v_5.heap.size := ⟨_, rfl⟩
          obtain ⟨v_6, hw2⟩ : ∃ v_6, v_6 = v_5.alloc (.cells #[.int .i64 0, .int .i64 0, .int .i64 0] 43) := ⟨_, rfl⟩
          have lfb : w.heap.size ≤ fb := by rw [hbb]; exact FB.out.size
          have nfb_0 := F1.out.lt
          rw [← hbb] at nfb_0
          have nfb_1 := F2.out.lt
          rw [← hbb] at nfb_1
          have nfb_2 := F3.out.lt
          rw [← hbb] at nfb_2
          have F4 : Hid (Blk v_6 fb [.int .i64 0, .int .i64 0, .int .i64 0]) := by rw [hw2]; exact Blk.at_ v_5 #[.int .i64 0, .int .i64 0, .int .i64 0] _ _ hbb
          have F1 : Hid (Blk v_6 b1 [.int .i64 p, .int .i64 v]) := by rw [hw2]; exact F1.out.alloc _
          have F2 : Hid (Blk v_6 b2 [.int .i64 0, .int .i64 ((V : Int))]) := by rw [hw2]; exact F2.out.alloc _
          have F3 : Hid (Blk v_6 b3 [.int .i64 0, .int .i64 p, .int .i64 v]) := by rw [hw2]; exact F3.out.alloc _
          have FB : Hid (Below w.heap.size w v_6) := by rw [hw2]; exact FB.out.alloc FB.out.size _
          rw [← hw2, ← hbb]
          clear hbb hw2
          refine hK.out _ _ (by (try dsimp only); first | exact F2.out | go_keep) (fun hHeld => ?_)
          clear hK K
          try simp only [Act.put, List.getElem_toArray, List.getElem_cons_succ, List.getElem_cons_zero, List.setIfInBounds_toArray, List.set_cons_zero, List.set_cons_succ]
          refine wpAnyH_ready (rs := [9]) (by kernel_rfl) (by simp) ?_
          refine (AllReadyH.cons rfl (fun K hK => ?_) AllReadyH.nil)
          have k0 := F4.out.c 0 _ rfl
          have k1 := F4.out.c 1 _ rfl
          have k2 := F4.out.c 2 _ rfl
          have kf0 := F4.out.f 0 (by decide)
          have kf1 := F4.out.f 1 (by decide)
          have kf2 := F4.out.f 2 (by decide)
          go_simp
          obtain ⟨v_7, hw2⟩ : ∃ v_7, v_7 = putB v_6 fb 0 [.int .i64 1, .int .i64 0, .int .i64 0] := ⟨_, rfl⟩
          change K _ (putB v_6 fb 0 [.int .i64 1, .int .i64 0, .int .i64 0])
          rw [← hw2]
          clear k0 k1 k2 kf0 kf1 kf2
          have F1 : Hid (Blk v_7 b1 [.int .i64 p, .int .i64 v]) := by rw [hw2]; exact Blk.putB_other (by omega) _ 0 F1.out
          have F2 : Hid (Blk v_7 b2 [.int .i64 0, .int .i64 ((V : Int))]) := by rw [hw2]; exact Blk.putB_other (by omega) _ 0 F2.out
          have F3 : Hid (Blk v_7 b3 [.int .i64 0, .int .i64 p, .int .i64 v]) := by rw [hw2]; exact Blk.putB_other (by omega) _ 0 F3.out
          have FB : Hid (Below w.heap.size w v_7) := by rw [hw2]; exact below_putB FB.out lfb _ 0
          have F4 : Hid (Blk v_7 fb [.int .i64 1, .int .i64 0, .int .i64 0]) := by rw [hw2]; exact F4.out.put [.int .i64 1, .int .i64 0, .int .i64 0] rfl
          clear hw2
          refine hK.out _ _ (by (try dsimp only); first | exact F2.out | go_keep) (fun hHeld => ?_)
          clear hK K
          try simp only [Act.put, List.getElem_toArray, List.getElem_cons_succ, List.getElem_cons_zero, List.setIfInBounds_toArray, List.set_cons_zero, List.set_cons_succ]
          refine wpAnyH_done (by kernel_rfl) ?_ _
          go_wp2_with fail
          go_meet
          case rel => exact ⟨fb, rfl, F1.out, F2.out, F3.out, F4.out, FB.out⟩
        · go_simp
          obtain ⟨fb, hbb⟩ : ∃ fb, fb = v_4.heap.size := ⟨_, rfl⟩
          obtain ⟨v_8, hw2⟩ : ∃ v_8, v_8 = v_4.alloc (.cells #[.int .i64 0, .int .i64 0, .int .i64 0] 43) := ⟨_, rfl⟩
          have lfb : w.heap.size ≤ fb := by rw [hbb]; exact FB.out.size
          have nfb_0 := F1.out.lt
          rw [← hbb] at nfb_0
          have nfb_1 := F2.out.lt
          rw [← hbb] at nfb_1
          have nfb_2 := F3.out.lt
          rw [← hbb] at nfb_2
          have F4 : Hid (Blk v_8 fb [.int .i64 0, .int .i64 0, .int .i64 0]) := by rw [hw2]; exact Blk.at_ v_4 #[.int .i64 0, .int .i64 0, .int .i64 0] _ _ hbb
          have F1 : Hid (Blk v_8 b1 [.int .i64 p, .int .i64 v]) := by rw [hw2]; exact F1.out.alloc _
          have F2 : Hid (Blk v_8 b2 [.int .i64 0, .int .i64 ((V : Int))]) := by rw [hw2]; exact F2.out.alloc _
          have F3 : Hid (Blk v_8 b3 [.int .i64 0, .int .i64 p, .int .i64 v]) := by rw [hw2]; exact F3.out.alloc _
          have FB : Hid (Below w.heap.size w v_8) := by rw [hw2]; exact FB.out.alloc FB.out.size _
          rw [← hw2, ← hbb]
          clear hbb hw2
          refine hK.out _ _ (by (try dsimp only); first | exact F2.out | go_keep) (fun hHeld => ?_)
          clear hK K
          try simp only [Act.put, List.getElem_toArray, List.getElem_cons_succ, List.getElem_cons_zero, List.setIfInBounds_toArray, List.set_cons_zero, List.set_cons_succ]
          refine wpAnyH_ready (rs := [7]) (by kernel_rfl) (by simp) ?_
          refine (AllReadyH.cons rfl (fun K hK => ?_) AllReadyH.nil)
          go_simp
          refine (CB k (by omega) _).mono ?_
          rintro e v_9 ⟨rfl, hb⟩
          have F1 : Hid (Blk v_9 b1 [.int .i64 p, .int .i64 v]) := F1.out.below hb F1.out.lt
          have F2 : Hid (Blk v_9 b2 [.int .i64 0, .int .i64 ((V : Int))]) := F2.out.below hb F2.out.lt
          have F3 : Hid (Blk v_9 b3 [.int .i64 0, .int .i64 p, .int .i64 v]) := F3.out.below hb F3.out.lt
          have FB : Hid (Below w.heap.size w v_9) := FB.out.trans (hb.mono FB.out.size)
          have F4 : Hid (Blk v_9 fb [.int .i64 0, .int .i64 0, .int .i64 0]) := F4.out.below hb F4.out.lt
          clear hb
          try dsimp only
          refine hK.out _ _ (by (try dsimp only); first | exact F2.out | go_keep) (fun hHeld => ?_)
          clear hK K
          try simp only [Act.put, List.getElem_toArray, List.getElem_cons_succ, List.getElem_cons_zero, List.setIfInBounds_toArray, List.set_cons_zero, List.set_cons_succ]
          refine wpAnyH_ready (rs := [9]) (by kernel_rfl) (by simp) ?_
          refine (AllReadyH.cons rfl (fun K hK => ?_) AllReadyH.nil)
          have k0 := F4.out.c 0 _ rfl
          have k1 := F4.out.c 1 _ rfl
          have k2 := F4.out.c 2 _ rfl
          have kf0 := F4.out.f 0 (by decide)
          have kf1 := F4.out.f 1 (by decide)
          have kf2 := F4.out.f 2 (by decide)
          go_simp
          obtain ⟨v_10, hw2⟩ : ∃ v_10, v_10 = putB v_9 fb 0 [.int .i64 1, .int .i64 0, .int .i64 0] := ⟨_, rfl⟩
          change K _ (putB v_9 fb 0 [.int .i64 1, .int .i64 0, .int .i64 0])
          rw [← hw2]
          clear k0 k1 k2 kf0 kf1 kf2
          have F1 : Hid (Blk v_10 b1 [.int .i64 p, .int .i64 v]) := by rw [hw2]; exact Blk.putB_other (by omega) _ 0 F1.out
          have F2 : Hid (Blk v_10 b2 [.int .i64 0, .int .i64 ((V : Int))]) := by rw [hw2]; exact Blk.putB_other (by omega) _ 0 F2.out
          have F3 : Hid (Blk v_10 b3 [.int .i64 0, .int .i64 p, .int .i64 v]) := by rw [hw2]; exact Blk.putB_other (by omega) _ 0 F3.out
          have FB : Hid (Below w.heap.size w v_10) := by rw [hw2]; exact below_putB FB.out lfb _ 0
          have F4 : Hid (Blk v_10 fb [.int .i64 1, .int .i64 0, .int .i64 0]) := by rw [hw2]; exact F4.out.put [.int .i64 1, .int .i64 0, .int .i64 0] rfl
          clear hw2
          refine hK.out _ _ (by (try dsimp only); first | exact F2.out | go_keep) (fun hHeld => ?_)
          clear hK K
          try simp only [Act.put, List.getElem_toArray, List.getElem_cons_succ, List.getElem_cons_zero, List.setIfInBounds_toArray, List.set_cons_zero, List.set_cons_succ]
          refine wpAnyH_done (by kernel_rfl) ?_ _
          go_wp2_with fail
          go_meet
          case rel => exact ⟨fb, rfl, F1.out, F2.out, F3.out, F4.out, FB.out⟩
      · go_simp
        obtain ⟨fb, hbb⟩ : ∃ fb, fb = v_3.heap.size := ⟨_, rfl⟩
        obtain ⟨v_11, hw2⟩ : ∃ v_11, v_11 = v_3.alloc (.cells #[.int .i64 0, .int .i64 0, .int .i64 0] 43) := ⟨_, rfl⟩
        have lfb : w.heap.size ≤ fb := by rw [hbb]; exact FB.out.size
        have nfb_0 := F1.out.lt
        rw [← hbb] at nfb_0
        have nfb_1 := F2.out.lt
        rw [← hbb] at nfb_1
        have nfb_2 := F3.out.lt
        rw [← hbb] at nfb_2
        have F4 : Hid (Blk v_11 fb [.int .i64 0, .int .i64 0, .int .i64 0]) := by rw [hw2]; exact Blk.at_ v_3 #[.int .i64 0, .int .i64 0, .int .i64 0] _ _ hbb
        have F1 : Hid (Blk v_11 b1 [.int .i64 p, .int .i64 v]) := by rw [hw2]; exact F1.out.alloc _
        have F2 : Hid (Blk v_11 b2 [.int .i64 0, .int .i64 ((V : Int))]) := by rw [hw2]; exact F2.out.alloc _
        have F3 : Hid (Blk v_11 b3 [.int .i64 0, .int .i64 p, .int .i64 v]) := by rw [hw2]; exact F3.out.alloc _
        have FB : Hid (Below w.heap.size w v_11) := by rw [hw2]; exact FB.out.alloc FB.out.size _
        rw [← hw2, ← hbb]
        clear hbb hw2
        refine hK.out _ _ (by (try dsimp only); first | exact F2.out | go_keep) (fun hHeld => ?_)
        clear hK K
        try simp only [Act.put, List.getElem_toArray, List.getElem_cons_succ, List.getElem_cons_zero, List.setIfInBounds_toArray, List.set_cons_zero, List.set_cons_succ]
        refine wpAnyH_ready (rs := [3]) (by kernel_rfl) (by simp) ?_
        refine (AllReadyH.cons rfl (fun K hK => ?_) AllReadyH.nil)
        go_simp
        refine (lwAtB a0 len0 cap0 2 32 _ (by omega) (by omega) (by omega) (by omega) w.heap.size (HC6 _ FB.out)).mono ?_
        rintro e v_12 ⟨k, rfl, hk, hb⟩
        have F1 : Hid (Blk v_12 b1 [.int .i64 p, .int .i64 v]) := F1.out.below hb F1.out.lt
        have F2 : Hid (Blk v_12 b2 [.int .i64 0, .int .i64 ((V : Int))]) := F2.out.below hb F2.out.lt
        have F3 : Hid (Blk v_12 b3 [.int .i64 0, .int .i64 p, .int .i64 v]) := F3.out.below hb F3.out.lt
        have FB : Hid (Below w.heap.size w v_12) := FB.out.trans (hb.mono FB.out.size)
        have F4 : Hid (Blk v_12 fb [.int .i64 0, .int .i64 0, .int .i64 0]) := F4.out.below hb F4.out.lt
        clear hb
        try dsimp only
        refine hK.out _ _ (by (try dsimp only); first | exact F2.out | go_keep) (fun hHeld => ?_)
        clear hK K
        try simp only [Act.put, List.getElem_toArray, List.getElem_cons_succ, List.getElem_cons_zero, List.setIfInBounds_toArray, List.set_cons_zero, List.set_cons_succ]
        refine tkz 4 rfl ?_
        refine tkz 5 rfl ?_
        refine tkz 6 rfl ?_
        refine wpAnyH_ready (rs := [7]) (by kernel_rfl) (by simp) ?_
        refine (AllReadyH.cons rfl (fun K hK => ?_) AllReadyH.nil)
        go_simp
        refine (CB k (by omega) _).mono ?_
        rintro e v_13 ⟨rfl, hb⟩
        have F1 : Hid (Blk v_13 b1 [.int .i64 p, .int .i64 v]) := F1.out.below hb F1.out.lt
        have F2 : Hid (Blk v_13 b2 [.int .i64 0, .int .i64 ((V : Int))]) := F2.out.below hb F2.out.lt
        have F3 : Hid (Blk v_13 b3 [.int .i64 0, .int .i64 p, .int .i64 v]) := F3.out.below hb F3.out.lt
        have FB : Hid (Below w.heap.size w v_13) := FB.out.trans (hb.mono FB.out.size)
        have F4 : Hid (Blk v_13 fb [.int .i64 0, .int .i64 0, .int .i64 0]) := F4.out.below hb F4.out.lt
        clear hb
        try dsimp only
        refine hK.out _ _ (by (try dsimp only); first | exact F2.out | go_keep) (fun hHeld => ?_)
        clear hK K
        try simp only [Act.put, List.getElem_toArray, List.getElem_cons_succ, List.getElem_cons_zero, List.setIfInBounds_toArray, List.set_cons_zero, List.set_cons_succ]
        refine wpAnyH_ready (rs := [9]) (by kernel_rfl) (by simp) ?_
        refine (AllReadyH.cons rfl (fun K hK => ?_) AllReadyH.nil)
        have k0 := F4.out.c 0 _ rfl
        have k1 := F4.out.c 1 _ rfl
        have k2 := F4.out.c 2 _ rfl
        have kf0 := F4.out.f 0 (by decide)
        have kf1 := F4.out.f 1 (by decide)
        have kf2 := F4.out.f 2 (by decide)
        go_simp
        obtain ⟨v_14, hw2⟩ : ∃ v_14, v_14 = putB v_13 fb 0 [.int .i64 1, .int .i64 0, .int .i64 0] := ⟨_, rfl⟩
        change K _ (putB v_13 fb 0 [.int .i64 1, .int .i64 0, .int .i64 0])
        rw [← hw2]
        clear k0 k1 k2 kf0 kf1 kf2
        have F1 : Hid (Blk v_14 b1 [.int .i64 p, .int .i64 v]) := by rw [hw2]; exact Blk.putB_other (by omega) _ 0 F1.out
        have F2 : Hid (Blk v_14 b2 [.int .i64 0, .int .i64 ((V : Int))]) := by rw [hw2]; exact Blk.putB_other (by omega) _ 0 F2.out
        have F3 : Hid (Blk v_14 b3 [.int .i64 0, .int .i64 p, .int .i64 v]) := by rw [hw2]; exact Blk.putB_other (by omega) _ 0 F3.out
        have FB : Hid (Below w.heap.size w v_14) := by rw [hw2]; exact below_putB FB.out lfb _ 0
        have F4 : Hid (Blk v_14 fb [.int .i64 1, .int .i64 0, .int .i64 0]) := by rw [hw2]; exact F4.out.put [.int .i64 1, .int .i64 0, .int .i64 0] rfl
        clear hw2
        refine hK.out _ _ (by (try dsimp only); first | exact F2.out | go_keep) (fun hHeld => ?_)
        clear hK K
        try simp only [Act.put, List.getElem_toArray, List.getElem_cons_succ, List.getElem_cons_zero, List.setIfInBounds_toArray, List.set_cons_zero, List.set_cons_succ]
        refine wpAnyH_done (by kernel_rfl) ?_ _
        go_wp2_with fail
        go_meet
        case rel => exact ⟨fb, rfl, F1.out, F2.out, F3.out, F4.out, FB.out⟩
    case rest =>
    obtain ⟨b4, rfl, h1, h2, h3, h4, hB⟩ := hcut
    have p0 := h1.c 0 _ rfl
    have p1 := h1.c 1 _ rfl
    have p2 := h2.c 1 _ rfl
    have p3 := h3.c 0 _ rfl
    have p4 := h3.c 1 _ rfl
    have p5 := h3.c 2 _ rfl
    have p6 := h4.c 0 _ rfl
    have FB : Hid (Below w.heap.size w wc) := hB
    clear h1 h2 h3 h4 hB
    go_wp2
    go_ret
    exact ⟨by simp, FB.out⟩
end Go.Proofs.Ytkpcolfbnkopkaa
