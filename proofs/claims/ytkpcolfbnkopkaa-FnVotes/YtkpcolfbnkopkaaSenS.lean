/-
  FnVotes: two sensors that agree are believed, whatever the third one tells.
-/
import Derived.Test.YtkpcolfbnkopkaaSenP
import Derived.Test.YtkpcolfbnkopkaaSenO
import Derived.Test.YtkpcolfbnkopkaaSenJ
import Derived.Test.YtkpcolfbnkopkaaAt
import Derived.Deep.RegionHeld3
import Derived.BigGuardPart
namespace Go.Proofs.Ytkpcolfbnkopkaa
open Go.RowKit Pl
set_option linter.unusedSimpArgs false
set_option linter.unusedVariables false

theorem lwAtV (a : Option Addr) (len cap : Nat) (i n : Int) (w : World) (h0 : 0 ≤ i) (hi : i ≤ 1000000) (hn : 2 ≤ n) (hn2 : n ≤ 1000000000) (sb : Nat) (hc : CodeIn w sb a len) :
    Calls Try.prog 15 #[.slice a len cap, .int .i64 i, .int .i64 n] w fun e w' => ∃ v : Nat, e = .returned (.int .i64 v) ∧ (v : Int) < n ∧ Below w.heap.size w w' := by
  refine (lwAt_int sb a len cap i n w h0 hi hn hn2 hc).mono ?_
  rintro e w' ⟨v, k, he, hv, hw⟩
  exact ⟨v, he, hv, below_drawn (Below.refl _ _) hw⟩
set_option maxRecDepth 20000 in
set_option maxHeartbeats 32000000 in
theorem votes_walk (a0 : Option Addr) (len0 cap0 : Nat) (w : World) (hc : ∀ sb, w.heap.size ≤ sb → CodeIn w sb a0 len0) (hlt : CodeLt w a0 len0) (hbig : len0 ≤ 1048576) :
    Calls Try.prog 5 #[.slice a0 len0 cap0] w fun e w' => e = .returned (.bool true) ∧ Below w.heap.size w w' := by
  have HC : Hid (∀ sb, w.heap.size ≤ sb → CodeIn w sb a0 len0) := hc
  have HLT : Hid (CodeLt w a0 len0) := hlt
  clear hc hlt
  go_enter Try.func5, Try.ntmps5
  go_wp2_with (go_at_call 9; refine (lwBig_no _ _ _ hbig _).mono ?_; rintro e w' ⟨rfl, hw⟩; obtain rfl := hw.symm; clear hw)
  refine (DrawVoteThreeP a0 len0 cap0 _ (HC.out _ (Nat.le_refl _))).mono ?_
  rintro e w1 ⟨x, y, z, m, rfl, hx, hy, hz, hb⟩
  have HC : Hid (∀ sb, w.heap.size ≤ sb → CodeIn w1 sb a0 len0) := codeIn_below HC.out HLT.out hb
  have FB : Hid (Below w.heap.size w w1) := hb
  clear hb
  have CI0 : ∀ W, Calls Try.prog 21 #[.int .i64 x, .int .i64 y, .int .i64 z, .int .i64 m] W fun e w' => e = .returned (.agg #[.int .i64 (voteK x y z m), .int .i64 (voteV x y z m)]) ∧ Below W.heap.size W w' := fun W => implVote_any x y z m hx.1 hx.2 hy.1 hy.2 hz.1 hz.2 W
  by_cases hk : voteK x y z m = 0
  case neg =>
    have hv : voteV x y z m = 0 := if_neg hk
    obtain ⟨kc, hK⟩ : ∃ kc, voteK x y z m = kc := ⟨_, rfl⟩
    have CS : ∀ W, Calls Try.prog 22 #[.int .i64 x, .int .i64 y, .int .i64 z, .int .i64 m] W fun e w' => e = .returned (.agg #[.int .i64 kc, .int .i64 0]) ∧ Below W.heap.size W w' := by
      intro W
      have q := specVote_any x y z m hx.1 hx.2 hy.1 hy.2 hz.1 hz.2 W
      rw [hK, hv] at q
      exact q
    rw [hK] at hk
    have hn : (kc != 0) = true := by simpa using hk
    have fp : ∀ W, (Instr.field 26 (.agg #[.int .i64 kc, .int .i64 0]) 0).run Try.prog W = .ok (.int .i64 kc) W := fun W => by kernel_rfl
    rw [hK, hv] at CI0
    clear hK hv hk
    go_upto_region 6 with (go_at_call 21; refine (CI0 _).mono ?_; rintro e w3 ⟨rfl, hb⟩; have HC : Hid (∀ sb, w.heap.size ≤ sb → CodeIn w3 sb a0 len0) := codeIn_below HC.out HLT.out (hb.mono FB.out.size); have FB : Hid (Below w.heap.size w w3) := FB.out.trans (hb.mono FB.out.size); clear hb)
    obtain ⟨b2, hbb⟩ : ∃ b2, b2 = w3.heap.size := ⟨_, rfl⟩
    obtain ⟨w4, hw2⟩ : ∃ w4, w4 = w3.alloc (.cells #[.int .i64 kc, .int .i64 0] 26) := ⟨_, rfl⟩
    have leb2 : w.heap.size ≤ b2 := by rw [hbb]; exact FB.out.size
    have F2 : Hid (Blk w4 b2 [.int .i64 kc, .int .i64 0]) := by rw [hw2]; exact Blk.at_ w3 #[.int .i64 kc, .int .i64 0] _ _ hbb
    have HC : Hid (∀ sb, w.heap.size ≤ sb → CodeIn w4 sb a0 len0) := codeIn_below HC.out HLT.out (by rw [hw2]; exact (Below.refl _ _).alloc FB.out.size _)
    have FB : Hid (Below w.heap.size w w4) := by rw [hw2]; exact FB.out.alloc FB.out.size _
    rw [← hw2, ← hbb]
    clear hbb hw2
    have F2c0 := F2.out.c 0 _ rfl
    have F2c1 := F2.out.c 1 _ rfl
    have F2l := F2.out.lt
    have F2 : Hid (Blk w4.drew b2 [.int .i64 kc, .int .i64 0]) := F2.out.below (Below.refl _ _).drew F2.out.lt
    have FB : Hid (Below w.heap.size w w4.drew) := FB.out.drew
    refine wp_region_held_drew (S := (fun w'' => Blk w'' b2 ([.int .i64 kc, .int .i64 0]))) (by kernel_rfl) (by (try dsimp only); first | exact F2.out | go_keep) (fun hHeld => ?_)
    obtain ⟨v_1, hw1⟩ : ∃ v_1, v_1 = w4.drew := ⟨_, rfl⟩
    have F2 : Hid (Blk v_1 b2 [.int .i64 kc, .int .i64 0]) := by rw [hw1]; exact F2.out
    have FB : Hid (Below w.heap.size w v_1) := by rw [hw1]; exact FB.out
    rw [← hw1] at hHeld ⊢
    clear hw1
    refine tkz 0 rfl ?_
    refine tkz 1 rfl ?_
    refine tkz 2 rfl ?_
    refine tkz 3 rfl ?_
    refine tkz 6 rfl ?_
    refine tkz 7 rfl ?_ (hy := Or.inl ⟨by kernel_rfl, by (intro wx hSw; have hq0_0 := hSw.c 0 _ rfl; (try dsimp only at hSw); go_simp <;> with_reducible rfl)⟩)
    refine wpAnyH_ready (rs := [4]) (by kernel_rfl) (by simp) ?_
    refine (AllReadyH.cons rfl (fun K hK => ?_) AllReadyH.nil)
    go_simp
    refine (CS _).mono ?_
    rintro e v_2 ⟨rfl, hb⟩
    have F2 : Hid (Blk v_2 b2 [.int .i64 kc, .int .i64 0]) := F2.out.below hb F2.out.lt
    have FB : Hid (Below w.heap.size w v_2) := FB.out.trans (hb.mono FB.out.size)
    clear hb
    try dsimp only
    refine hK.out _ _ (by (try dsimp only); first | exact F2.out | go_keep) (fun hHeld => ?_)
    clear hK K
    try simp only [Act.put, List.getElem_toArray, List.getElem_cons_succ, List.getElem_cons_zero, List.setIfInBounds_toArray, List.set_cons_zero, List.set_cons_succ]
    refine tkz 5 rfl ?_
    refine tkz 8 rfl ?_
    refine tkz 9 rfl ?_
    refine wpAnyH_done (by kernel_rfl) ?_ _
    go_wp2_with fail
    go_ret
    exact ⟨by simp, FB.out⟩
  case pos =>
    have v1 := vote_turn hk
    have v2 := vote_one hk
    obtain ⟨V, hV⟩ : ∃ V, voteV x y z m = V := ⟨_, rfl⟩
    rw [hV] at v1 v2
    have CT : ∀ W, Calls Try.prog 21 #[.int .i64 z, .int .i64 x, .int .i64 y, .int .i64 m] W fun e w' => e = .returned (.agg #[.int .i64 0, .int .i64 V]) ∧ Below W.heap.size W w' := by
      intro W
      have q := implVote_any z x y m hz.1 hz.2 hx.1 hx.2 hy.1 hy.2 W
      rw [v1.1, v1.2] at q
      exact q
    have CQ : ∀ q : Nat, q < 9000 → ∀ W, Calls Try.prog 21 #[.int .i64 (q : Int), .int .i64 x, .int .i64 (q : Int), .int .i64 m] W fun e w' => e = .returned (.agg #[.int .i64 0, .int .i64 (q : Int)]) ∧ Below W.heap.size W w' := by
      intro q hq W
      have c := implVote_any (q : Int) x (q : Int) m (by omega) (by omega) hx.1 hx.2 (by omega) (by omega) W
      have v3 := vote_two (x := (q : Int)) hk (inB_iff.2 (by omega))
      rw [v3.1, v3.2] at c
      exact c
    rw [hk, hV] at CI0
    clear hk hV v1 hx hy hz
    go_upto_region 7 with (go_at_call 21; refine (CI0 _).mono ?_; rintro e w3 ⟨rfl, hb⟩; have HC : Hid (∀ sb, w.heap.size ≤ sb → CodeIn w3 sb a0 len0) := codeIn_below HC.out HLT.out (hb.mono FB.out.size); have FB : Hid (Below w.heap.size w w3) := FB.out.trans (hb.mono FB.out.size); clear hb)
    obtain ⟨b2, hbb⟩ : ∃ b2, b2 = w3.heap.size := ⟨_, rfl⟩
    obtain ⟨w4, hw2⟩ : ∃ w4, w4 = w3.alloc (.cells #[.int .i64 0, .int .i64 V] 26) := ⟨_, rfl⟩
    have leb2 : w.heap.size ≤ b2 := by rw [hbb]; exact FB.out.size
    have F2 : Hid (Blk w4 b2 [.int .i64 0, .int .i64 V]) := by rw [hw2]; exact Blk.at_ w3 #[.int .i64 0, .int .i64 V] _ _ hbb
    have HC : Hid (∀ sb, w.heap.size ≤ sb → CodeIn w4 sb a0 len0) := codeIn_below HC.out HLT.out (by rw [hw2]; exact (Below.refl _ _).alloc FB.out.size _)
    have FB : Hid (Below w.heap.size w w4) := by rw [hw2]; exact FB.out.alloc FB.out.size _
    rw [← hw2, ← hbb]
    clear hbb hw2
    have F2c0 := F2.out.c 0 _ rfl
    have F2c1 := F2.out.c 1 _ rfl
    have F2l := F2.out.lt
    go_upto_region 8 with (go_at_call 15; refine (lwAtV a0 len0 cap0 3 9000 _ (by omega) (by omega) (by omega) (by omega) w.heap.size (HC.out _ (Nat.le_refl _))).mono ?_; rintro e w5 ⟨q, rfl, hq, hb⟩; have F2 : Hid (Blk w5 b2 [.int .i64 0, .int .i64 V]) := F2.out.below hb F2.out.lt; have HC : Hid (∀ sb, w.heap.size ≤ sb → CodeIn w5 sb a0 len0) := codeIn_below HC.out HLT.out (hb.mono FB.out.size); have FB : Hid (Below w.heap.size w w5) := FB.out.trans (hb.mono FB.out.size); have F2c0 := F2.out.c 0 _ rfl; have F2c1 := F2.out.c 1 _ rfl; have F2l := F2.out.lt; clear hb)
    go_upto_region 9 with (go_at_call 21; refine (CQ q (by omega) _).mono ?_; rintro e w6 ⟨rfl, hb⟩; have F2 : Hid (Blk w6 b2 [.int .i64 0, .int .i64 V]) := F2.out.below hb F2.out.lt; have HC : Hid (∀ sb, w.heap.size ≤ sb → CodeIn w6 sb a0 len0) := codeIn_below HC.out HLT.out (hb.mono FB.out.size); have FB : Hid (Below w.heap.size w w6) := FB.out.trans (hb.mono FB.out.size); have F2c0 := F2.out.c 0 _ rfl; have F2c1 := F2.out.c 1 _ rfl; have F2l := F2.out.lt; clear hb)
    obtain ⟨b3, hbb⟩ : ∃ b3, b3 = w6.heap.size := ⟨_, rfl⟩
    obtain ⟨w7, hw2⟩ : ∃ w7, w7 = w6.alloc (.cells #[.int .i64 0, .int .i64 ((q : Int))] 26) := ⟨_, rfl⟩
    have neb3F2 : b2 < b3 := by rw [hbb]; exact F2.out.lt
    have leb3 : w.heap.size ≤ b3 := by rw [hbb]; exact FB.out.size
    have F2 : Hid (Blk w7 b2 [.int .i64 0, .int .i64 V]) := by rw [hw2]; exact F2.out.alloc _
    have F3 : Hid (Blk w7 b3 [.int .i64 0, .int .i64 ((q : Int))]) := by rw [hw2]; exact Blk.at_ w6 #[.int .i64 0, .int .i64 ((q : Int))] _ _ hbb
    have HC : Hid (∀ sb, w.heap.size ≤ sb → CodeIn w7 sb a0 len0) := codeIn_below HC.out HLT.out (by rw [hw2]; exact (Below.refl _ _).alloc FB.out.size _)
    have FB : Hid (Below w.heap.size w w7) := by rw [hw2]; exact FB.out.alloc FB.out.size _
    rw [← hw2, ← hbb]
    clear hbb hw2
    have F2c0 := F2.out.c 0 _ rfl
    have F2c1 := F2.out.c 1 _ rfl
    have F3c0 := F3.out.c 0 _ rfl
    have F3c1 := F3.out.c 1 _ rfl
    have F2l := F2.out.lt
    have F3l := F3.out.lt
    go_upto_region 10 with (go_at_call 21; refine (CT _).mono ?_; rintro e w8 ⟨rfl, hb⟩; have F2 : Hid (Blk w8 b2 [.int .i64 0, .int .i64 V]) := F2.out.below hb F2.out.lt; have F3 : Hid (Blk w8 b3 [.int .i64 0, .int .i64 ((q : Int))]) := F3.out.below hb F3.out.lt; have HC : Hid (∀ sb, w.heap.size ≤ sb → CodeIn w8 sb a0 len0) := codeIn_below HC.out HLT.out (hb.mono FB.out.size); have FB : Hid (Below w.heap.size w w8) := FB.out.trans (hb.mono FB.out.size); have F2c0 := F2.out.c 0 _ rfl; have F2c1 := F2.out.c 1 _ rfl; have F3c0 := F3.out.c 0 _ rfl; have F3c1 := F3.out.c 1 _ rfl; have F2l := F2.out.lt; have F3l := F3.out.lt; clear hb)
    obtain ⟨b4, hbb⟩ : ∃ b4, b4 = w8.heap.size := ⟨_, rfl⟩
    obtain ⟨w9, hw2⟩ : ∃ w9, w9 = w8.alloc (.cells #[.int .i64 0, .int .i64 V] 26) := ⟨_, rfl⟩
    have neb4F2 : b2 < b4 := by rw [hbb]; exact F2.out.lt
    have neb4F3 : b3 < b4 := by rw [hbb]; exact F3.out.lt
    have leb4 : w.heap.size ≤ b4 := by rw [hbb]; exact FB.out.size
    have F2 : Hid (Blk w9 b2 [.int .i64 0, .int .i64 V]) := by rw [hw2]; exact F2.out.alloc _
    have F3 : Hid (Blk w9 b3 [.int .i64 0, .int .i64 ((q : Int))]) := by rw [hw2]; exact F3.out.alloc _
    have F4 : Hid (Blk w9 b4 [.int .i64 0, .int .i64 V]) := by rw [hw2]; exact Blk.at_ w8 #[.int .i64 0, .int .i64 V] _ _ hbb
    have HC : Hid (∀ sb, w.heap.size ≤ sb → CodeIn w9 sb a0 len0) := codeIn_below HC.out HLT.out (by rw [hw2]; exact (Below.refl _ _).alloc FB.out.size _)
    have FB : Hid (Below w.heap.size w w9) := by rw [hw2]; exact FB.out.alloc FB.out.size _
    rw [← hw2, ← hbb]
    clear hbb hw2
    have F2c0 := F2.out.c 0 _ rfl
    have F2c1 := F2.out.c 1 _ rfl
    have F3c0 := F3.out.c 0 _ rfl
    have F3c1 := F3.out.c 1 _ rfl
    have F4c0 := F4.out.c 0 _ rfl
    have F4c1 := F4.out.c 1 _ rfl
    have F2l := F2.out.lt
    have F3l := F3.out.lt
    have F4l := F4.out.lt
    by_cases e1 : V = x
    · have d1 : (V == x) = true := by simpa using e1
      clear e1 v2
      go_wp2
      go_ret
      exact ⟨by simp, FB.out⟩
    · have d1 : (V == x) = false := by simpa using e1
      by_cases e2 : V = y
      · have d2 : (V == y) = true := by simpa using e2
        clear e1 v2 e2
        go_wp2
        go_ret
        exact ⟨by simp, FB.out⟩
      · have d2 : (V == y) = false := by simpa using e2
        have d3 : (V == z) = true := by
          rcases v2 with h | h | h
          · exact absurd h e1
          · exact absurd h e2
          · simpa using h
        clear e1 v2 e2
        go_wp2
        go_ret
        exact ⟨by simp, FB.out⟩
end Go.Proofs.Ytkpcolfbnkopkaa
