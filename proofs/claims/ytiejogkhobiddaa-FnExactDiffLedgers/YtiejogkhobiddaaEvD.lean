/-
  The program: what happened between two ledgers.
-/
import Derived.Test.YtiejogkhobiddaaEvP
import Derived.Test.YtiejogkhobiddaaLedE
import Derived.Test.YtiejogkhobiddaaFnd
namespace Go.Proofs.Ytiejogkhobiddaa
open Go.RowKit Pl
set_option linter.unusedSimpArgs false
set_option linter.unusedVariables false

set_option maxRecDepth 20000 in
set_option maxHeartbeats 16000000 in
theorem kindToward_any (f t : Int) (w : World) :
    Calls Try.prog 52 #[.int .i64 f, .int .i64 t] w fun e w' => e = .returned (.tuple #[.int .i64 (kdT f t).1, .bool (kdT f t).2]) ∧ w' = w := by
  by_cases a : f = 0
  · by_cases b : t = 4
    · have e : kdT f t = (5, true) := by simp [kdT, a, b]
      rw [e]
      subst a b
      go_enter Try.func52, Try.ntmps52
      go_wp2
      go_ret2
      exact ⟨rfl, rfl⟩
    · have e : kdT f t = (2, true) := by simp [kdT, a, b]
      have b1 : (t == 4) = false := by simpa using b
      rw [e]
      subst a
      go_enter Try.func52, Try.ntmps52
      go_wp2
      go_ret2
      exact ⟨rfl, rfl⟩
  · have a1 : (f == 0) = false := by simpa using a
    by_cases b : f = 1
    · subst b
      by_cases c : t = 2
      · have e : kdT 1 t = (3, true) := by simp [kdT, c]
        rw [e]
        subst c
        go_enter Try.func52, Try.ntmps52
        go_wp2
        go_ret2
        exact ⟨rfl, rfl⟩
      · have c1 : (t == 2) = false := by simpa using c
        by_cases d : t = 3
        · have e : kdT 1 t = (4, true) := by simp [kdT, d]
          rw [e]
          subst d
          go_enter Try.func52, Try.ntmps52
          go_wp2
          go_ret2
          exact ⟨rfl, rfl⟩
        · have d1 : (t == 3) = false := by simpa using d
          have e : kdT 1 t = (0, false) := by simp [kdT, c, d]
          rw [e]
          go_enter Try.func52, Try.ntmps52
          go_wp2
          go_ret2
          exact ⟨rfl, rfl⟩
    · have b1 : (f == 1) = false := by simpa using b
      have e : kdT f t = (0, false) := by simp [kdT, a, b]
      rw [e]
      go_enter Try.func52, Try.ntmps52
      go_wp2
      go_ret2
      exact ⟨rfl, rfl⟩
set_option maxRecDepth 20000 in
set_option maxHeartbeats 16000000 in
theorem stateBehind_any (k : Int) (hk : k = 2 ∨ k = 3 ∨ k = 4 ∨ k = 5) (w : World) :
    Calls Try.prog 53 #[.int .i64 k] w fun e w' => e = .returned (.int .i64 (stB k)) ∧ w' = w := by
  rcases hk with rfl | rfl | rfl | rfl
  all_goals
    go_enter Try.func53, Try.ntmps53
    go_wp2
    go_ret
    exact ⟨rfl, rfl⟩
set_option maxRecDepth 20000 in
set_option maxHeartbeats 16000000 in
theorem eventOf_any (tk k : Int) (p : Pe) (hk : k = 1 ∨ k = 2 ∨ k = 3 ∨ k = 4 ∨ k = 5) (ev : Ev) (he : evOf tk k p = ev) (w : World) :
    Calls Try.prog 38 #[.int .i64 tk, .int .i64 k, .agg #[.int .i64 p.id, .int .i64 p.fr, .int .i64 p.tw, .int .i64 p.sh, .int .i64 p.ca, .int .i64 p.st, .int .i64 p.pl]] w fun e w' => e = .returned (.agg #[.int .i64 ev.tk, .int .i64 ev.kd, .int .i64 ev.id, .int .i64 ev.fl, .int .i64 ev.tw]) ∧ Below w.heap.size w w' := by
  subst he
  rcases hk with rfl | rfl | rfl | rfl | rfl
  · obtain ⟨W0, hW0⟩ : ∃ W0, W0 = ((w.alloc (.cells #[.int .i64 p.id, .int .i64 p.fr, .int .i64 p.tw, .int .i64 p.sh, .int .i64 p.ca, .int .i64 p.st, .int .i64 p.pl] 60)).alloc (.cells #[.int .i64 0, .int .i64 0, .int .i64 0, .int .i64 0, .int .i64 0] 63)) := ⟨_, rfl⟩
    have F0 : Hid (Blk W0 w.heap.size [.int .i64 p.id, .int .i64 p.fr, .int .i64 p.tw, .int .i64 p.sh, .int .i64 p.ca, .int .i64 p.st, .int .i64 p.pl]) := by rw [hW0]; exact (Blk.at_ w _ _ _ rfl).alloc _
    have FR : Hid (Blk W0 (w.heap.size + 1) [.int .i64 0, .int .i64 0, .int .i64 0, .int .i64 0, .int .i64 0]) := by rw [hW0]; exact Blk.at_ _ _ _ _ (by simp)
    have FB : Hid (Below w.heap.size w W0) := by rw [hW0]; exact ((Below.refl _ _).alloc (Nat.le_refl _) _).alloc (by simp) _
    have HW0 : Hid (W0 = ((w.alloc (.cells #[.int .i64 p.id, .int .i64 p.fr, .int .i64 p.tw, .int .i64 p.sh, .int .i64 p.ca, .int .i64 p.st, .int .i64 p.pl] 60)).alloc (.cells #[.int .i64 0, .int .i64 0, .int .i64 0, .int .i64 0, .int .i64 0] 63))) := hW0
    clear hW0
    go_enter Try.func38, Try.ntmps38
    go_upto_region 1 with fail
    rw [← HW0.out]
    clear HW0
    have x0 := F0.out.c 0 _ rfl
    go_upto_region 2 with (refine store_new [.int .i64 tk, .int .i64 1, .int .i64 p.id, .int .i64 0, .int .i64 0] 63 _ _ (by kernel_rfl) (by kernel_rfl) (by kernel_rfl) rfl rfl rfl rfl ?_)
    clear x0
    obtain ⟨b, hb_⟩ : ∃ b, b = W0.heap.size := ⟨_, rfl⟩
    obtain ⟨W1, hw_⟩ : ∃ W1, W1 = W0.alloc (.cells #[.int .i64 tk, .int .i64 1, .int .i64 p.id, .int .i64 0, .int .i64 0] 63) := ⟨_, rfl⟩
    have l0 := F0.out.lt
    have l1 := FR.out.lt
    rw [← hb_] at l0 l1
    have F0 : Hid (Blk W1 w.heap.size [.int .i64 p.id, .int .i64 p.fr, .int .i64 p.tw, .int .i64 p.sh, .int .i64 p.ca, .int .i64 p.st, .int .i64 p.pl]) := by rw [hw_]; exact F0.out.alloc _
    have FR : Hid (Blk W1 (w.heap.size + 1) [.int .i64 0, .int .i64 0, .int .i64 0, .int .i64 0, .int .i64 0]) := by rw [hw_]; exact FR.out.alloc _
    have FX : Hid (Blk W1 b [.int .i64 tk, .int .i64 1, .int .i64 p.id, .int .i64 0, .int .i64 0]) := by rw [hw_]; exact Blk.at_ _ _ _ _ hb_
    have FB : Hid (Below w.heap.size w W1) := by rw [hw_]; exact FB.out.alloc FB.out.size _
    rw [← hw_, ← hb_]
    clear hw_ hb_
    go_upto_region 4 with fail
    have F0 : Hid (Blk W1.drew w.heap.size [.int .i64 p.id, .int .i64 p.fr, .int .i64 p.tw, .int .i64 p.sh, .int .i64 p.ca, .int .i64 p.st, .int .i64 p.pl]) := F0.out.below (Below.refl _ _).drew F0.out.lt
    have FR : Hid (Blk W1.drew (w.heap.size + 1) [.int .i64 0, .int .i64 0, .int .i64 0, .int .i64 0, .int .i64 0]) := FR.out.below (Below.refl _ _).drew FR.out.lt
    have FX : Hid (Blk W1.drew b [.int .i64 tk, .int .i64 1, .int .i64 p.id, .int .i64 0, .int .i64 0]) := FX.out.below (Below.refl _ _).drew FX.out.lt
    have FB : Hid (Below w.heap.size w W1.drew) := FB.out.drew
    refine wp_region_held_drew (S := (fun w'' => Blk w'' w.heap.size ([.int .i64 p.id, .int .i64 p.fr, .int .i64 p.tw, .int .i64 p.sh, .int .i64 p.ca, .int .i64 p.st, .int .i64 p.pl]))) (by kernel_rfl) (by (try dsimp only); first | exact F0.out | go_keep) (fun hHeld => ?_)
    obtain ⟨v_1, hw1⟩ : ∃ v_1, v_1 = W1.drew := ⟨_, rfl⟩
    have F0 : Hid (Blk v_1 w.heap.size [.int .i64 p.id, .int .i64 p.fr, .int .i64 p.tw, .int .i64 p.sh, .int .i64 p.ca, .int .i64 p.st, .int .i64 p.pl]) := by rw [hw1]; exact F0.out
    have FR : Hid (Blk v_1 (w.heap.size + 1) [.int .i64 0, .int .i64 0, .int .i64 0, .int .i64 0, .int .i64 0]) := by rw [hw1]; exact FR.out
    have FX : Hid (Blk v_1 b [.int .i64 tk, .int .i64 1, .int .i64 p.id, .int .i64 0, .int .i64 0]) := by rw [hw1]; exact FX.out
    have FB : Hid (Below w.heap.size w v_1) := by rw [hw1]; exact FB.out
    rw [← hw1] at hHeld ⊢
    clear hw1
    refine tkz 0 rfl ?_
    refine tkz 1 rfl ?_ (hy := Or.inl ⟨by kernel_rfl, by (intro wx hSw; have hq0_1 := hSw.c 1 _ rfl; (try dsimp only at hSw); go_simp <;> with_reducible rfl)⟩)
    refine tkz 2 rfl ?_
    refine tkz 3 rfl ?_ (hy := Or.inl ⟨by kernel_rfl, by (intro wx hSw; have hq0_2 := hSw.c 2 _ rfl; (try dsimp only at hSw); go_simp <;> with_reducible rfl)⟩)
    refine tkz 4 rfl ?_
    refine wpAnyH_ready (rs := [5]) (by kernel_rfl) (by simp) ?_
    refine (AllReadyH.cons rfl (fun K hK => ?_) AllReadyH.nil)
    have c3_ := FX.out.c 3 _ rfl
    have q3_ := FX.out.f 3 (Nat.le_of_ble_eq_true rfl)
    go_simp
    obtain ⟨v_2, hw2⟩ : ∃ v_2, v_2 = v_1.setCell ⟨b, 3, none⟩ (.int .i64 p.fr) := ⟨_, rfl⟩
    change K _ (v_1.setCell ⟨b, 3, none⟩ (.int .i64 p.fr))
    rw [← hw2]
    clear c3_ q3_
    have F0 : Hid (Blk v_2 w.heap.size [.int .i64 p.id, .int .i64 p.fr, .int .i64 p.tw, .int .i64 p.sh, .int .i64 p.ca, .int .i64 p.st, .int .i64 p.pl]) := by rw [hw2]; exact F0.out.other (by omega)
    have FR : Hid (Blk v_2 (w.heap.size + 1) [.int .i64 0, .int .i64 0, .int .i64 0, .int .i64 0, .int .i64 0]) := by rw [hw2]; exact FR.out.other (by omega)
    have FX : Hid (Blk v_2 b [.int .i64 tk, .int .i64 1, .int .i64 p.id, .int .i64 p.fr, .int .i64 0]) := by rw [hw2]; exact FX.out.set _ (Nat.le_of_ble_eq_true rfl)
    have FB : Hid (Below w.heap.size w v_2) := by rw [hw2]; exact FB.out.setCell (show w.heap.size ≤ b by omega) _
    clear hw2
    refine hK.out _ _ (by (try dsimp only); first | exact F0.out | go_keep) (fun hHeld => ?_)
    clear hK K
    try simp only [Act.put, List.getElem_toArray, List.getElem_cons_succ, List.getElem_cons_zero, List.setIfInBounds_toArray, List.set_cons_zero, List.set_cons_succ]
    refine tkz 6 rfl ?_
    refine wpAnyH_ready (rs := [7]) (by kernel_rfl) (by simp) ?_
    refine (AllReadyH.cons rfl (fun K hK => ?_) AllReadyH.nil)
    have c4_ := FX.out.c 4 _ rfl
    have q4_ := FX.out.f 4 (Nat.le_of_ble_eq_true rfl)
    go_simp
    obtain ⟨v_3, hw2⟩ : ∃ v_3, v_3 = v_2.setCell ⟨b, 4, none⟩ (.int .i64 p.tw) := ⟨_, rfl⟩
    change K _ (v_2.setCell ⟨b, 4, none⟩ (.int .i64 p.tw))
    rw [← hw2]
    clear c4_ q4_
    have F0 : Hid (Blk v_3 w.heap.size [.int .i64 p.id, .int .i64 p.fr, .int .i64 p.tw, .int .i64 p.sh, .int .i64 p.ca, .int .i64 p.st, .int .i64 p.pl]) := by rw [hw2]; exact F0.out.other (by omega)
    have FR : Hid (Blk v_3 (w.heap.size + 1) [.int .i64 0, .int .i64 0, .int .i64 0, .int .i64 0, .int .i64 0]) := by rw [hw2]; exact FR.out.other (by omega)
    have FX : Hid (Blk v_3 b [.int .i64 tk, .int .i64 1, .int .i64 p.id, .int .i64 p.fr, .int .i64 p.tw]) := by rw [hw2]; exact FX.out.set _ (Nat.le_of_ble_eq_true rfl)
    have FB : Hid (Below w.heap.size w v_3) := by rw [hw2]; exact FB.out.setCell (show w.heap.size ≤ b by omega) _
    clear hw2
    refine hK.out _ _ (by (try dsimp only); first | exact F0.out | go_keep) (fun hHeld => ?_)
    clear hK K
    try simp only [Act.put, List.getElem_toArray, List.getElem_cons_succ, List.getElem_cons_zero, List.setIfInBounds_toArray, List.set_cons_zero, List.set_cons_succ]
    refine wpAnyH_done (by kernel_rfl) ?_ _
    go_upto_region 10 with fail
    go_wp2_with (first | (refine load_blk 63 _ Try.underlying63 (by kernel_rfl) FX.out rfl rfl rfl ?_) | (refine store_blk [.int .i64 tk, .int .i64 1, .int .i64 p.id, .int .i64 p.fr, .int .i64 p.tw] 63 _ _ (by kernel_rfl) (by kernel_rfl) (by kernel_rfl) FR.out rfl rfl rfl rfl ?_))
    exact bodyPost_ret (v := .agg #[.int .i64 tk, .int .i64 1, .int .i64 p.id, .int .i64 p.fr, .int .i64 p.tw]) ((FR.out.row [.int .i64 tk, .int .i64 1, .int .i64 p.id, .int .i64 p.fr, .int .i64 p.tw]).res _ Try.results38 Try.underlying63 (by kernel_rfl) rfl) rfl ⟨rfl, below_row FB.out (by omega) _⟩
  · obtain ⟨W0, hW0⟩ : ∃ W0, W0 = ((w.alloc (.cells #[.int .i64 p.id, .int .i64 p.fr, .int .i64 p.tw, .int .i64 p.sh, .int .i64 p.ca, .int .i64 p.st, .int .i64 p.pl] 60)).alloc (.cells #[.int .i64 0, .int .i64 0, .int .i64 0, .int .i64 0, .int .i64 0] 63)) := ⟨_, rfl⟩
    have F0 : Hid (Blk W0 w.heap.size [.int .i64 p.id, .int .i64 p.fr, .int .i64 p.tw, .int .i64 p.sh, .int .i64 p.ca, .int .i64 p.st, .int .i64 p.pl]) := by rw [hW0]; exact (Blk.at_ w _ _ _ rfl).alloc _
    have FR : Hid (Blk W0 (w.heap.size + 1) [.int .i64 0, .int .i64 0, .int .i64 0, .int .i64 0, .int .i64 0]) := by rw [hW0]; exact Blk.at_ _ _ _ _ (by simp)
    have FB : Hid (Below w.heap.size w W0) := by rw [hW0]; exact ((Below.refl _ _).alloc (Nat.le_refl _) _).alloc (by simp) _
    have HW0 : Hid (W0 = ((w.alloc (.cells #[.int .i64 p.id, .int .i64 p.fr, .int .i64 p.tw, .int .i64 p.sh, .int .i64 p.ca, .int .i64 p.st, .int .i64 p.pl] 60)).alloc (.cells #[.int .i64 0, .int .i64 0, .int .i64 0, .int .i64 0, .int .i64 0] 63))) := hW0
    clear hW0
    go_enter Try.func38, Try.ntmps38
    go_upto_region 1 with fail
    rw [← HW0.out]
    clear HW0
    have x0 := F0.out.c 0 _ rfl
    go_upto_region 2 with (refine store_new [.int .i64 tk, .int .i64 2, .int .i64 p.id, .int .i64 0, .int .i64 0] 63 _ _ (by kernel_rfl) (by kernel_rfl) (by kernel_rfl) rfl rfl rfl rfl ?_)
    clear x0
    obtain ⟨b, hb_⟩ : ∃ b, b = W0.heap.size := ⟨_, rfl⟩
    obtain ⟨W1, hw_⟩ : ∃ W1, W1 = W0.alloc (.cells #[.int .i64 tk, .int .i64 2, .int .i64 p.id, .int .i64 0, .int .i64 0] 63) := ⟨_, rfl⟩
    have l0 := F0.out.lt
    have l1 := FR.out.lt
    rw [← hb_] at l0 l1
    have F0 : Hid (Blk W1 w.heap.size [.int .i64 p.id, .int .i64 p.fr, .int .i64 p.tw, .int .i64 p.sh, .int .i64 p.ca, .int .i64 p.st, .int .i64 p.pl]) := by rw [hw_]; exact F0.out.alloc _
    have FR : Hid (Blk W1 (w.heap.size + 1) [.int .i64 0, .int .i64 0, .int .i64 0, .int .i64 0, .int .i64 0]) := by rw [hw_]; exact FR.out.alloc _
    have FX : Hid (Blk W1 b [.int .i64 tk, .int .i64 2, .int .i64 p.id, .int .i64 0, .int .i64 0]) := by rw [hw_]; exact Blk.at_ _ _ _ _ hb_
    have FB : Hid (Below w.heap.size w W1) := by rw [hw_]; exact FB.out.alloc FB.out.size _
    rw [← hw_, ← hb_]
    clear hw_ hb_
    have y0 := F0.out.c 1 _ rfl
    have c3_ := FX.out.c 3 _ rfl
    have q3_ := FX.out.f 3 (Nat.le_of_ble_eq_true rfl)
    go_upto_region 10 with fail
    clear y0 c3_ q3_
    obtain ⟨W2, hw_⟩ : ∃ W2, W2 = W1.setCell ⟨b, 3, none⟩ (.int .i64 p.fr) := ⟨_, rfl⟩
    have F0 : Hid (Blk W2 w.heap.size [.int .i64 p.id, .int .i64 p.fr, .int .i64 p.tw, .int .i64 p.sh, .int .i64 p.ca, .int .i64 p.st, .int .i64 p.pl]) := by rw [hw_]; exact F0.out.other (by omega)
    have FR : Hid (Blk W2 (w.heap.size + 1) [.int .i64 0, .int .i64 0, .int .i64 0, .int .i64 0, .int .i64 0]) := by rw [hw_]; exact FR.out.other (by omega)
    have FX : Hid (Blk W2 b [.int .i64 tk, .int .i64 2, .int .i64 p.id, .int .i64 p.fr, .int .i64 0]) := by rw [hw_]; exact FX.out.set _ (Nat.le_of_ble_eq_true rfl)
    have FB : Hid (Below w.heap.size w W2) := by rw [hw_]; exact FB.out.setCell (show w.heap.size ≤ b by omega) _
    rw [← hw_]
    clear hw_
    go_wp2_with (first | (refine load_blk 63 _ Try.underlying63 (by kernel_rfl) FX.out rfl rfl rfl ?_) | (refine store_blk [.int .i64 tk, .int .i64 2, .int .i64 p.id, .int .i64 p.fr, .int .i64 0] 63 _ _ (by kernel_rfl) (by kernel_rfl) (by kernel_rfl) FR.out rfl rfl rfl rfl ?_))
    exact bodyPost_ret (v := .agg #[.int .i64 tk, .int .i64 2, .int .i64 p.id, .int .i64 p.fr, .int .i64 0]) ((FR.out.row [.int .i64 tk, .int .i64 2, .int .i64 p.id, .int .i64 p.fr, .int .i64 0]).res _ Try.results38 Try.underlying63 (by kernel_rfl) rfl) rfl ⟨rfl, below_row FB.out (by omega) _⟩
  · obtain ⟨W0, hW0⟩ : ∃ W0, W0 = ((w.alloc (.cells #[.int .i64 p.id, .int .i64 p.fr, .int .i64 p.tw, .int .i64 p.sh, .int .i64 p.ca, .int .i64 p.st, .int .i64 p.pl] 60)).alloc (.cells #[.int .i64 0, .int .i64 0, .int .i64 0, .int .i64 0, .int .i64 0] 63)) := ⟨_, rfl⟩
    have F0 : Hid (Blk W0 w.heap.size [.int .i64 p.id, .int .i64 p.fr, .int .i64 p.tw, .int .i64 p.sh, .int .i64 p.ca, .int .i64 p.st, .int .i64 p.pl]) := by rw [hW0]; exact (Blk.at_ w _ _ _ rfl).alloc _
    have FR : Hid (Blk W0 (w.heap.size + 1) [.int .i64 0, .int .i64 0, .int .i64 0, .int .i64 0, .int .i64 0]) := by rw [hW0]; exact Blk.at_ _ _ _ _ (by simp)
    have FB : Hid (Below w.heap.size w W0) := by rw [hW0]; exact ((Below.refl _ _).alloc (Nat.le_refl _) _).alloc (by simp) _
    have HW0 : Hid (W0 = ((w.alloc (.cells #[.int .i64 p.id, .int .i64 p.fr, .int .i64 p.tw, .int .i64 p.sh, .int .i64 p.ca, .int .i64 p.st, .int .i64 p.pl] 60)).alloc (.cells #[.int .i64 0, .int .i64 0, .int .i64 0, .int .i64 0, .int .i64 0] 63))) := hW0
    clear hW0
    go_enter Try.func38, Try.ntmps38
    go_upto_region 1 with fail
    rw [← HW0.out]
    clear HW0
    have x0 := F0.out.c 0 _ rfl
    go_upto_region 2 with (refine store_new [.int .i64 tk, .int .i64 3, .int .i64 p.id, .int .i64 0, .int .i64 0] 63 _ _ (by kernel_rfl) (by kernel_rfl) (by kernel_rfl) rfl rfl rfl rfl ?_)
    clear x0
    obtain ⟨b, hb_⟩ : ∃ b, b = W0.heap.size := ⟨_, rfl⟩
    obtain ⟨W1, hw_⟩ : ∃ W1, W1 = W0.alloc (.cells #[.int .i64 tk, .int .i64 3, .int .i64 p.id, .int .i64 0, .int .i64 0] 63) := ⟨_, rfl⟩
    have l0 := F0.out.lt
    have l1 := FR.out.lt
    rw [← hb_] at l0 l1
    have F0 : Hid (Blk W1 w.heap.size [.int .i64 p.id, .int .i64 p.fr, .int .i64 p.tw, .int .i64 p.sh, .int .i64 p.ca, .int .i64 p.st, .int .i64 p.pl]) := by rw [hw_]; exact F0.out.alloc _
    have FR : Hid (Blk W1 (w.heap.size + 1) [.int .i64 0, .int .i64 0, .int .i64 0, .int .i64 0, .int .i64 0]) := by rw [hw_]; exact FR.out.alloc _
    have FX : Hid (Blk W1 b [.int .i64 tk, .int .i64 3, .int .i64 p.id, .int .i64 0, .int .i64 0]) := by rw [hw_]; exact Blk.at_ _ _ _ _ hb_
    have FB : Hid (Below w.heap.size w W1) := by rw [hw_]; exact FB.out.alloc FB.out.size _
    rw [← hw_, ← hb_]
    clear hw_ hb_
    have y0 := F0.out.c 6 _ rfl
    have c3_ := FX.out.c 3 _ rfl
    have q3_ := FX.out.f 3 (Nat.le_of_ble_eq_true rfl)
    go_upto_region 10 with fail
    clear y0 c3_ q3_
    obtain ⟨W2, hw_⟩ : ∃ W2, W2 = W1.setCell ⟨b, 3, none⟩ (.int .i64 p.pl) := ⟨_, rfl⟩
    have F0 : Hid (Blk W2 w.heap.size [.int .i64 p.id, .int .i64 p.fr, .int .i64 p.tw, .int .i64 p.sh, .int .i64 p.ca, .int .i64 p.st, .int .i64 p.pl]) := by rw [hw_]; exact F0.out.other (by omega)
    have FR : Hid (Blk W2 (w.heap.size + 1) [.int .i64 0, .int .i64 0, .int .i64 0, .int .i64 0, .int .i64 0]) := by rw [hw_]; exact FR.out.other (by omega)
    have FX : Hid (Blk W2 b [.int .i64 tk, .int .i64 3, .int .i64 p.id, .int .i64 p.pl, .int .i64 0]) := by rw [hw_]; exact FX.out.set _ (Nat.le_of_ble_eq_true rfl)
    have FB : Hid (Below w.heap.size w W2) := by rw [hw_]; exact FB.out.setCell (show w.heap.size ≤ b by omega) _
    rw [← hw_]
    clear hw_
    go_wp2_with (first | (refine load_blk 63 _ Try.underlying63 (by kernel_rfl) FX.out rfl rfl rfl ?_) | (refine store_blk [.int .i64 tk, .int .i64 3, .int .i64 p.id, .int .i64 p.pl, .int .i64 0] 63 _ _ (by kernel_rfl) (by kernel_rfl) (by kernel_rfl) FR.out rfl rfl rfl rfl ?_))
    exact bodyPost_ret (v := .agg #[.int .i64 tk, .int .i64 3, .int .i64 p.id, .int .i64 p.pl, .int .i64 0]) ((FR.out.row [.int .i64 tk, .int .i64 3, .int .i64 p.id, .int .i64 p.pl, .int .i64 0]).res _ Try.results38 Try.underlying63 (by kernel_rfl) rfl) rfl ⟨rfl, below_row FB.out (by omega) _⟩
  · obtain ⟨W0, hW0⟩ : ∃ W0, W0 = ((w.alloc (.cells #[.int .i64 p.id, .int .i64 p.fr, .int .i64 p.tw, .int .i64 p.sh, .int .i64 p.ca, .int .i64 p.st, .int .i64 p.pl] 60)).alloc (.cells #[.int .i64 0, .int .i64 0, .int .i64 0, .int .i64 0, .int .i64 0] 63)) := ⟨_, rfl⟩
    have F0 : Hid (Blk W0 w.heap.size [.int .i64 p.id, .int .i64 p.fr, .int .i64 p.tw, .int .i64 p.sh, .int .i64 p.ca, .int .i64 p.st, .int .i64 p.pl]) := by rw [hW0]; exact (Blk.at_ w _ _ _ rfl).alloc _
    have FR : Hid (Blk W0 (w.heap.size + 1) [.int .i64 0, .int .i64 0, .int .i64 0, .int .i64 0, .int .i64 0]) := by rw [hW0]; exact Blk.at_ _ _ _ _ (by simp)
    have FB : Hid (Below w.heap.size w W0) := by rw [hW0]; exact ((Below.refl _ _).alloc (Nat.le_refl _) _).alloc (by simp) _
    have HW0 : Hid (W0 = ((w.alloc (.cells #[.int .i64 p.id, .int .i64 p.fr, .int .i64 p.tw, .int .i64 p.sh, .int .i64 p.ca, .int .i64 p.st, .int .i64 p.pl] 60)).alloc (.cells #[.int .i64 0, .int .i64 0, .int .i64 0, .int .i64 0, .int .i64 0] 63))) := hW0
    clear hW0
    go_enter Try.func38, Try.ntmps38
    go_upto_region 1 with fail
    rw [← HW0.out]
    clear HW0
    have x0 := F0.out.c 0 _ rfl
    go_upto_region 2 with (refine store_new [.int .i64 tk, .int .i64 4, .int .i64 p.id, .int .i64 0, .int .i64 0] 63 _ _ (by kernel_rfl) (by kernel_rfl) (by kernel_rfl) rfl rfl rfl rfl ?_)
    clear x0
    obtain ⟨b, hb_⟩ : ∃ b, b = W0.heap.size := ⟨_, rfl⟩
    obtain ⟨W1, hw_⟩ : ∃ W1, W1 = W0.alloc (.cells #[.int .i64 tk, .int .i64 4, .int .i64 p.id, .int .i64 0, .int .i64 0] 63) := ⟨_, rfl⟩
    have l0 := F0.out.lt
    have l1 := FR.out.lt
    rw [← hb_] at l0 l1
    have F0 : Hid (Blk W1 w.heap.size [.int .i64 p.id, .int .i64 p.fr, .int .i64 p.tw, .int .i64 p.sh, .int .i64 p.ca, .int .i64 p.st, .int .i64 p.pl]) := by rw [hw_]; exact F0.out.alloc _
    have FR : Hid (Blk W1 (w.heap.size + 1) [.int .i64 0, .int .i64 0, .int .i64 0, .int .i64 0, .int .i64 0]) := by rw [hw_]; exact FR.out.alloc _
    have FX : Hid (Blk W1 b [.int .i64 tk, .int .i64 4, .int .i64 p.id, .int .i64 0, .int .i64 0]) := by rw [hw_]; exact Blk.at_ _ _ _ _ hb_
    have FB : Hid (Below w.heap.size w W1) := by rw [hw_]; exact FB.out.alloc FB.out.size _
    rw [← hw_, ← hb_]
    clear hw_ hb_
    have y0 := F0.out.c 6 _ rfl
    have c3_ := FX.out.c 3 _ rfl
    have q3_ := FX.out.f 3 (Nat.le_of_ble_eq_true rfl)
    go_upto_region 10 with fail
    clear y0 c3_ q3_
    obtain ⟨W2, hw_⟩ : ∃ W2, W2 = W1.setCell ⟨b, 3, none⟩ (.int .i64 p.pl) := ⟨_, rfl⟩
    have F0 : Hid (Blk W2 w.heap.size [.int .i64 p.id, .int .i64 p.fr, .int .i64 p.tw, .int .i64 p.sh, .int .i64 p.ca, .int .i64 p.st, .int .i64 p.pl]) := by rw [hw_]; exact F0.out.other (by omega)
    have FR : Hid (Blk W2 (w.heap.size + 1) [.int .i64 0, .int .i64 0, .int .i64 0, .int .i64 0, .int .i64 0]) := by rw [hw_]; exact FR.out.other (by omega)
    have FX : Hid (Blk W2 b [.int .i64 tk, .int .i64 4, .int .i64 p.id, .int .i64 p.pl, .int .i64 0]) := by rw [hw_]; exact FX.out.set _ (Nat.le_of_ble_eq_true rfl)
    have FB : Hid (Below w.heap.size w W2) := by rw [hw_]; exact FB.out.setCell (show w.heap.size ≤ b by omega) _
    rw [← hw_]
    clear hw_
    go_wp2_with (first | (refine load_blk 63 _ Try.underlying63 (by kernel_rfl) FX.out rfl rfl rfl ?_) | (refine store_blk [.int .i64 tk, .int .i64 4, .int .i64 p.id, .int .i64 p.pl, .int .i64 0] 63 _ _ (by kernel_rfl) (by kernel_rfl) (by kernel_rfl) FR.out rfl rfl rfl rfl ?_))
    exact bodyPost_ret (v := .agg #[.int .i64 tk, .int .i64 4, .int .i64 p.id, .int .i64 p.pl, .int .i64 0]) ((FR.out.row [.int .i64 tk, .int .i64 4, .int .i64 p.id, .int .i64 p.pl, .int .i64 0]).res _ Try.results38 Try.underlying63 (by kernel_rfl) rfl) rfl ⟨rfl, below_row FB.out (by omega) _⟩
  · obtain ⟨W0, hW0⟩ : ∃ W0, W0 = ((w.alloc (.cells #[.int .i64 p.id, .int .i64 p.fr, .int .i64 p.tw, .int .i64 p.sh, .int .i64 p.ca, .int .i64 p.st, .int .i64 p.pl] 60)).alloc (.cells #[.int .i64 0, .int .i64 0, .int .i64 0, .int .i64 0, .int .i64 0] 63)) := ⟨_, rfl⟩
    have F0 : Hid (Blk W0 w.heap.size [.int .i64 p.id, .int .i64 p.fr, .int .i64 p.tw, .int .i64 p.sh, .int .i64 p.ca, .int .i64 p.st, .int .i64 p.pl]) := by rw [hW0]; exact (Blk.at_ w _ _ _ rfl).alloc _
    have FR : Hid (Blk W0 (w.heap.size + 1) [.int .i64 0, .int .i64 0, .int .i64 0, .int .i64 0, .int .i64 0]) := by rw [hW0]; exact Blk.at_ _ _ _ _ (by simp)
    have FB : Hid (Below w.heap.size w W0) := by rw [hW0]; exact ((Below.refl _ _).alloc (Nat.le_refl _) _).alloc (by simp) _
    have HW0 : Hid (W0 = ((w.alloc (.cells #[.int .i64 p.id, .int .i64 p.fr, .int .i64 p.tw, .int .i64 p.sh, .int .i64 p.ca, .int .i64 p.st, .int .i64 p.pl] 60)).alloc (.cells #[.int .i64 0, .int .i64 0, .int .i64 0, .int .i64 0, .int .i64 0] 63))) := hW0
    clear hW0
    go_enter Try.func38, Try.ntmps38
    go_upto_region 1 with fail
    rw [← HW0.out]
    clear HW0
    have x0 := F0.out.c 0 _ rfl
    go_upto_region 2 with (refine store_new [.int .i64 tk, .int .i64 5, .int .i64 p.id, .int .i64 0, .int .i64 0] 63 _ _ (by kernel_rfl) (by kernel_rfl) (by kernel_rfl) rfl rfl rfl rfl ?_)
    clear x0
    obtain ⟨b, hb_⟩ : ∃ b, b = W0.heap.size := ⟨_, rfl⟩
    obtain ⟨W1, hw_⟩ : ∃ W1, W1 = W0.alloc (.cells #[.int .i64 tk, .int .i64 5, .int .i64 p.id, .int .i64 0, .int .i64 0] 63) := ⟨_, rfl⟩
    have l0 := F0.out.lt
    have l1 := FR.out.lt
    rw [← hb_] at l0 l1
    have F0 : Hid (Blk W1 w.heap.size [.int .i64 p.id, .int .i64 p.fr, .int .i64 p.tw, .int .i64 p.sh, .int .i64 p.ca, .int .i64 p.st, .int .i64 p.pl]) := by rw [hw_]; exact F0.out.alloc _
    have FR : Hid (Blk W1 (w.heap.size + 1) [.int .i64 0, .int .i64 0, .int .i64 0, .int .i64 0, .int .i64 0]) := by rw [hw_]; exact FR.out.alloc _
    have FX : Hid (Blk W1 b [.int .i64 tk, .int .i64 5, .int .i64 p.id, .int .i64 0, .int .i64 0]) := by rw [hw_]; exact Blk.at_ _ _ _ _ hb_
    have FB : Hid (Below w.heap.size w W1) := by rw [hw_]; exact FB.out.alloc FB.out.size _
    rw [← hw_, ← hb_]
    clear hw_ hb_
    go_upto_region 10 with fail
    go_wp2_with (first | (refine load_blk 63 _ Try.underlying63 (by kernel_rfl) FX.out rfl rfl rfl ?_) | (refine store_blk [.int .i64 tk, .int .i64 5, .int .i64 p.id, .int .i64 0, .int .i64 0] 63 _ _ (by kernel_rfl) (by kernel_rfl) (by kernel_rfl) FR.out rfl rfl rfl rfl ?_))
    exact bodyPost_ret (v := .agg #[.int .i64 tk, .int .i64 5, .int .i64 p.id, .int .i64 0, .int .i64 0]) ((FR.out.row [.int .i64 tk, .int .i64 5, .int .i64 p.id, .int .i64 0, .int .i64 0]).res _ Try.results38 Try.underlying63 (by kernel_rfl) rfl) rfl ⟨rfl, below_row FB.out (by omega) _⟩
set_option maxRecDepth 20000 in
set_option maxHeartbeats 16000000 in
theorem personOf_any (a : Option Addr) (cap : Nat) (l : List Pe) (id : Int) (hl : l.length ≤ 1048576) (w : World) (hP : PIn w w.heap.size a l) :
    Calls Try.prog 37 #[.slice a l.length cap, .int .i64 id] w fun e w' => (∃ q : Pe, e = .returned (.tuple #[.agg #[.int .i64 q.id, .int .i64 q.fr, .int .i64 q.tw, .int .i64 q.sh, .int .i64 q.ca, .int .i64 q.st, .int .i64 q.pl], .bool (fnd id l).isSome]) ∧ ∀ r, fnd id l = some r → q = r) ∧ Below w.heap.size w w' := by
  have HP : Hid (PIn w w.heap.size a l) := hP
  clear hP
  have HR : Hid (Blk (w.alloc (.cells #[.int .i64 0, .int .i64 0, .int .i64 0, .int .i64 0, .int .i64 0, .int .i64 0, .int .i64 0] 60)) w.heap.size [.int .i64 0, .int .i64 0, .int .i64 0, .int .i64 0, .int .i64 0, .int .i64 0, .int .i64 0]) := Blk.at_ w _ _ _ rfl
  have HB : Hid (Below w.heap.size w (w.alloc (.cells #[.int .i64 0, .int .i64 0, .int .i64 0, .int .i64 0, .int .i64 0, .int .i64 0, .int .i64 0] 60))) := (Below.refl _ _).alloc (Nat.le_refl _) _
  go_enter Try.func37, Try.ntmps37
  go_wp2_with fail
  go_loopw [10] (fun ii wr => ∃ i : Nat, ii = .int .i64 i ∧ i ≤ l.length ∧ (∀ j r, j < i → l[j]? = some r → ¬ r.id = id) ∧ Blk wr w.heap.size [.int .i64 0, .int .i64 0, .int .i64 0, .int .i64 0, .int .i64 0, .int .i64 0, .int .i64 0] ∧ Below w.heap.size w wr) (fun ii _ => l.length - (intOf ii).toNat)
  case atStart => exact ⟨0, rfl, by omega, fun j r hj => by omega, HR.out, HB.out⟩
  case round =>
    obtain ⟨i, rfl, hi, hno, hr, hb⟩ := hrel
    have HN : Hid (∀ j r, j < i → l[j]? = some r → ¬ r.id = id) := hno
    have FR : Hid (Blk wr w.heap.size [.int .i64 0, .int .i64 0, .int .i64 0, .int .i64 0, .int .i64 0, .int .i64 0, .int .i64 0]) := hr
    have FB : Hid (Below w.heap.size w wr) := hb
    clear hno hr hb HR HB
    by_cases hlt : i < l.length
    · obtain ⟨p, hp⟩ : ∃ p, l[i]? = some p := ⟨_, List.getElem?_eq_getElem hlt⟩
      have HG : Hid (l[i]? = some p) := hp
      rcases HP.out with h0 | ⟨b, o, rfl, hbl, h7⟩
      · rw [h0] at hlt; simp at hlt
      obtain ⟨z0, z1, z2, z3, z4, z5, z6⟩ := (h7 i p hp).below FB.out hbl
      clear hp h7
      go_upto_region 4 with (refine store_new [.int .i64 p.id, .int .i64 p.fr, .int .i64 p.tw, .int .i64 p.sh, .int .i64 p.ca, .int .i64 p.st, .int .i64 p.pl] 60 _ _ (by kernel_rfl) (by kernel_rfl) (by kernel_rfl) rfl rfl rfl rfl ?_)
      clear z0 z1 z2 z3 z4 z5 z6
      have lr := FR.out.lt
      obtain ⟨c, hc_⟩ : ∃ c, c = wr.heap.size := ⟨_, rfl⟩
      obtain ⟨W1, hw_⟩ : ∃ W1, W1 = wr.alloc (.cells #[.int .i64 p.id, .int .i64 p.fr, .int .i64 p.tw, .int .i64 p.sh, .int .i64 p.ca, .int .i64 p.st, .int .i64 p.pl] 60) := ⟨_, rfl⟩
      have FR : Hid (Blk W1 w.heap.size [.int .i64 0, .int .i64 0, .int .i64 0, .int .i64 0, .int .i64 0, .int .i64 0, .int .i64 0]) := by rw [hw_]; exact FR.out.alloc _
      have FX : Hid (Blk W1 c [.int .i64 p.id, .int .i64 p.fr, .int .i64 p.tw, .int .i64 p.sh, .int .i64 p.ca, .int .i64 p.st, .int .i64 p.pl]) := by rw [hw_]; exact Blk.at_ _ _ _ _ hc_
      have FB : Hid (Below w.heap.size w W1) := by rw [hw_]; exact FB.out.alloc FB.out.size _
      rw [← hw_, ← hc_]
      clear hw_ hc_
      have y0 := FX.out.c 0 _ rfl
      by_cases e : p.id = id
      · have e1 : (p.id == id) = true := by simpa using e
        have HF : Hid (fnd id l = some p) := fnd_at HG.out e HN.out
        clear e
        go_wp2_with (first | (refine load_blk 60 _ Try.underlying60 (by kernel_rfl) FX.out rfl rfl rfl ?_) | (refine store_blk [.int .i64 p.id, .int .i64 p.fr, .int .i64 p.tw, .int .i64 p.sh, .int .i64 p.ca, .int .i64 p.st, .int .i64 p.pl] 60 _ _ (by kernel_rfl) (by kernel_rfl) (by kernel_rfl) FR.out rfl rfl rfl rfl ?_))
        have G := FR.out.row [.int .i64 p.id, .int .i64 p.fr, .int .i64 p.tw, .int .i64 p.sh, .int .i64 p.ca, .int .i64 p.st, .int .i64 p.pl]
        obtain ⟨Wf, hWf⟩ : ∃ Wf, W1.setRow w.heap.size [.int .i64 p.id, .int .i64 p.fr, .int .i64 p.tw, .int .i64 p.sh, .int .i64 p.ca, .int .i64 p.st, .int .i64 p.pl].toArray = Wf := ⟨_, rfl⟩
        have hB : Below w.heap.size w Wf := hWf ▸ below_row FB.out (Nat.le_refl _) _
        rw [hWf] at G ⊢
        have k0_ := G.c 0 _ rfl
        have k1_ := G.c 1 _ rfl
        have k2_ := G.c 2 _ rfl
        have k3_ := G.c 3 _ rfl
        have k4_ := G.c 4 _ rfl
        have k5_ := G.c 5 _ rfl
        have k6_ := G.c 6 _ rfl
        refine bodyPost_ret (v := .tuple #[.agg #[.int .i64 p.id, .int .i64 p.fr, .int .i64 p.tw, .int .i64 p.sh, .int .i64 p.ca, .int .i64 p.st, .int .i64 p.pl], .bool true]) (by simp [results, Try.results37, go_sem, k0_, k1_, k2_, k3_, k4_, k5_, k6_]) rfl ⟨⟨p, by rw [HF.out]; rfl, fun r hr => by rw [HF.out] at hr; exact Option.some.inj hr⟩, hB⟩
      · have e1 : (p.id == id) = false := by simpa using e
        have HN : Hid (∀ j r, j < i + 1 → l[j]? = some r → ¬ r.id = id) := fun j r hj hr => by
          rcases Nat.lt_succ_iff_lt_or_eq.1 hj with z | z
          · exact HN.out j r z hr
          · subst z; rw [HG.out] at hr; cases hr; exact e
        clear e
        go_wp2_with fail
        go_roundw
        case rel => exact ⟨i + 1, by simp, by omega, HN.out, FR.out, FB.out⟩
        case measure => simp [intOf]; omega
    · have ei : i = l.length := by omega
      subst ei
      have HF : Hid (fnd id l = none) := fnd_no HN.out
      clear HN
      go_wp2_with (first | (refine store_blk [.int .i64 0, .int .i64 0, .int .i64 0, .int .i64 0, .int .i64 0, .int .i64 0, .int .i64 0] 60 _ _ (by kernel_rfl) (by kernel_rfl) (by kernel_rfl) FR.out rfl rfl rfl rfl ?_))
      have G := FR.out.row [.int .i64 0, .int .i64 0, .int .i64 0, .int .i64 0, .int .i64 0, .int .i64 0, .int .i64 0]
      obtain ⟨Wf, hWf⟩ : ∃ Wf, wr.setRow w.heap.size [.int .i64 0, .int .i64 0, .int .i64 0, .int .i64 0, .int .i64 0, .int .i64 0, .int .i64 0].toArray = Wf := ⟨_, rfl⟩
      have hB : Below w.heap.size w Wf := hWf ▸ below_row FB.out (Nat.le_refl _) _
      rw [hWf] at G ⊢
      have k0_ := G.c 0 _ rfl
      have k1_ := G.c 1 _ rfl
      have k2_ := G.c 2 _ rfl
      have k3_ := G.c 3 _ rfl
      have k4_ := G.c 4 _ rfl
      have k5_ := G.c 5 _ rfl
      have k6_ := G.c 6 _ rfl
      refine bodyPost_ret (v := .tuple #[.agg #[.int .i64 0, .int .i64 0, .int .i64 0, .int .i64 0, .int .i64 0, .int .i64 0, .int .i64 0], .bool false]) (by simp [results, Try.results37, go_sem, k0_, k1_, k2_, k3_, k4_, k5_, k6_]) rfl ⟨⟨zeroP, by rw [HF.out]; rfl, fun r hr => by rw [HF.out] at hr; cases hr⟩, hB⟩
end Go.Proofs.Ytiejogkhobiddaa
