/-
  The model's spans: what is given back; ReleaseSpans.
-/
import Derived.Test.YtpfihpplpefikaaSpanE
import Derived.Test.YtpfihpplpefikaaSpanF
import Derived.Test.YtpfihpplpefikaaCarU
import Derived.Deep.DeepCutAuto
namespace Go.Proofs.Ytpfihpplpefikaa
open Go.RowKit Pl
set_option linter.unusedSimpArgs false
set_option linter.unusedVariables false

set_option maxRecDepth 20000 in
set_option maxHeartbeats 8000000 in
theorem l6Cut_any (x y z : Sp) (hz : cutS x y = z) (w : World) :
    Calls Try.prog 67 #[.agg #[.int .i64 x.lo, .int .i64 x.hi], .agg #[.int .i64 y.lo, .int .i64 y.hi]] w fun e w' => e = .returned (.agg #[.int .i64 z.lo, .int .i64 z.hi]) ∧ Below w.heap.size w w' := by
  obtain ⟨p, hp⟩ : ∃ p, max x.lo y.lo = p := ⟨_, rfl⟩
  obtain ⟨q, hq⟩ : ∃ q, min x.hi y.hi = q := ⟨_, rfl⟩
  unfold cutS at hz
  rw [hp, hq] at hz
  have HZ : Hid ((if q < p then x else ⟨p, q⟩) = z) := hz
  clear hz
  have F0 : Hid (MW (((w.alloc (.cells #[.int .i64 x.lo, .int .i64 x.hi] 27)).alloc (.cells #[.int .i64 y.lo, .int .i64 y.hi] 27)).alloc (.cells #[.int .i64 0, .int .i64 0] 27)) w.heap.size x) := ((MW.at_ w x _ _ (by simp)).alloc _).alloc _
  have F1 : Hid (MW (((w.alloc (.cells #[.int .i64 x.lo, .int .i64 x.hi] 27)).alloc (.cells #[.int .i64 y.lo, .int .i64 y.hi] 27)).alloc (.cells #[.int .i64 0, .int .i64 0] 27)) (w.heap.size + 1) y) := (MW.at_ _ y _ _ (by simp)).alloc _
  have F2 : Hid (MW (((w.alloc (.cells #[.int .i64 x.lo, .int .i64 x.hi] 27)).alloc (.cells #[.int .i64 y.lo, .int .i64 y.hi] 27)).alloc (.cells #[.int .i64 0, .int .i64 0] 27)) (w.heap.size + 2) (⟨0, 0⟩ : Sp)) := MW.at_ _ ⟨0, 0⟩ _ _ (by simp)
  have FB : Hid (Below w.heap.size w (((w.alloc (.cells #[.int .i64 x.lo, .int .i64 x.hi] 27)).alloc (.cells #[.int .i64 y.lo, .int .i64 y.hi] 27)).alloc (.cells #[.int .i64 0, .int .i64 0] 27))) := (((Below.refl _ _).alloc (Nat.le_refl _) _).alloc (by simp) _).alloc (by simp; omega) _
  obtain ⟨W0, hW0⟩ : ∃ W0, W0 = (((w.alloc (.cells #[.int .i64 x.lo, .int .i64 x.hi] 27)).alloc (.cells #[.int .i64 y.lo, .int .i64 y.hi] 27)).alloc (.cells #[.int .i64 0, .int .i64 0] 27)) := ⟨_, rfl⟩
  rw [← hW0] at F0 F1 F2 FB
  have HW0 : Hid (W0 = (((w.alloc (.cells #[.int .i64 x.lo, .int .i64 x.hi] 27)).alloc (.cells #[.int .i64 y.lo, .int .i64 y.hi] 27)).alloc (.cells #[.int .i64 0, .int .i64 0] 27))) := hW0
  clear hW0
  go_enter Try.func67, Try.ntmps67
  go_upto_region 1 with fail
  rw [← HW0.out]
  clear HW0
  go_cut [5] (fun t wx => ∃ ob : Nat, t = .pointer (some ⟨ob, 0, none⟩) ∧ w.heap.size + 2 < ob ∧ MW wx w.heap.size x ∧ MW wx (w.heap.size + 1) y ∧ MW wx (w.heap.size + 2) (⟨0, 0⟩ : Sp) ∧ MW wx ob (⟨p, q⟩ : Sp) ∧ Below w.heap.size w wx)
  case first =>
    replace F0 : Hid (MW W0.drew w.heap.size x) := F0.out.below (Below.refl _ _).drew F0.out.lt
    replace F1 : Hid (MW W0.drew (w.heap.size + 1) y) := F1.out.below (Below.refl _ _).drew F1.out.lt
    replace F2 : Hid (MW W0.drew (w.heap.size + 2) (⟨0, 0⟩ : Sp)) := F2.out.below (Below.refl _ _).drew F2.out.lt
    replace FB : Hid (Below w.heap.size w W0.drew) := FB.out.drew
    obtain ⟨x0_0, x0_1, y0_0, y0_1⟩ := F0.out
    obtain ⟨x1_0, x1_1, y1_0, y1_1⟩ := F1.out
    refine wp_region_held_drew (S := (fun w'' => w''.cell? ⟨w.heap.size, 0, none⟩ = some (.int .i64 x.lo) ∧ w''.cell? ⟨w.heap.size, 1, none⟩ = some (.int .i64 x.hi) ∧ w''.cell? ⟨(w.heap.size + 1), 0, none⟩ = some (.int .i64 y.lo) ∧ w''.cell? ⟨(w.heap.size + 1), 1, none⟩ = some (.int .i64 y.hi))) (by kernel_rfl) (by (try dsimp only); first | exact ⟨x0_0, x0_1, x1_0, x1_1⟩ | go_keep) (fun hHeld => ?_)
    obtain ⟨v_1, hw1⟩ : ∃ v_1, v_1 = W0.drew := ⟨_, rfl⟩
    replace F0 : Hid (MW v_1 w.heap.size x) := by rw [hw1]; exact F0.out
    replace F1 : Hid (MW v_1 (w.heap.size + 1) y) := by rw [hw1]; exact F1.out
    replace F2 : Hid (MW v_1 (w.heap.size + 2) (⟨0, 0⟩ : Sp)) := by rw [hw1]; exact F2.out
    replace FB : Hid (Below w.heap.size w v_1) := by rw [hw1]; exact FB.out
    rw [← hw1] at hHeld ⊢
    clear hw1
    clear x0_0 x0_1 x1_0 x1_1
    obtain ⟨x0_0, x0_1, y0_0, y0_1⟩ := F0.out
    obtain ⟨x1_0, x1_1, y1_0, y1_1⟩ := F1.out
    refine tkz 0 rfl ?_
    refine tkz 1 rfl ?_
    refine tkz 2 rfl ?_
    refine tkz 3 rfl ?_
    refine tkz 5 rfl ?_
    refine tkz 6 rfl ?_
    refine tkz 7 rfl ?_
    refine tkz 8 rfl ?_
    refine wpAnyH_ready (rs := [4, 11]) (by kernel_rfl) (by simp) ?_
    refine (AllReadyH.cons rfl (fun K hK => ?_) (AllReadyH.cons rfl (fun K hK => ?_) AllReadyH.nil))
    · go_simp
      refine (l1Max_any _ _ _).mono ?_
      rintro e w_ ⟨rfl, hw⟩
      obtain rfl := hw.symm
      clear hw
      rw [hp]
      try dsimp only
      refine hK.out _ _ (by (try dsimp only); first | exact ⟨x0_0, x0_1, x1_0, x1_1⟩ | go_keep) (fun hHeld => ?_)
      clear hK K
      try simp only [Act.put, List.getElem_toArray, List.getElem_cons_succ, List.getElem_cons_zero, List.setIfInBounds_toArray, List.set_cons_zero, List.set_cons_succ]
      refine wpAnyH_ready (rs := [9, 11]) (by kernel_rfl) (by simp) ?_
      refine (AllReadyH.cons rfl (fun K hK => ?_) (AllReadyH.cons rfl (fun K hK => ?_) AllReadyH.nil))
      · go_simp
        refine (l1Min_any _ _ _).mono ?_
        rintro e w_ ⟨rfl, hw⟩
        obtain rfl := hw.symm
        clear hw
        rw [hq]
        try dsimp only
        refine hK.out _ _ (by (try dsimp only); first | exact ⟨x0_0, x0_1, x1_0, x1_1⟩ | go_keep) (fun hHeld => ?_)
        clear hK K
        try simp only [Act.put, List.getElem_toArray, List.getElem_cons_succ, List.getElem_cons_zero, List.setIfInBounds_toArray, List.set_cons_zero, List.set_cons_succ]
        refine tkz 10 rfl ?_
        refine wpAnyH_ready (rs := [11]) (by kernel_rfl) (by simp) ?_
        refine (AllReadyH.cons rfl (fun K hK => ?_) AllReadyH.nil)
        go_simp
        obtain ⟨ob, hbb⟩ : ∃ ob, ob = v_1.heap.size := ⟨_, rfl⟩
        obtain ⟨v_2, hw2⟩ : ∃ v_2, v_2 = v_1.alloc (.cells #[.int .i64 0, .int .i64 0] 27) := ⟨_, rfl⟩
        have nob_0 := F0.out.lt
        rw [← hbb] at nob_0
        have nob_1 := F1.out.lt
        rw [← hbb] at nob_1
        have nob_2 := F2.out.lt
        rw [← hbb] at nob_2
        have F3 : Hid (MW v_2 ob (⟨0, 0⟩ : Sp)) := by rw [hw2]; exact MW.at_ v_1 ⟨0, 0⟩ _ ob hbb
        replace F0 : Hid (MW v_2 w.heap.size x) := by rw [hw2]; exact F0.out.alloc _
        replace F1 : Hid (MW v_2 (w.heap.size + 1) y) := by rw [hw2]; exact F1.out.alloc _
        replace F2 : Hid (MW v_2 (w.heap.size + 2) (⟨0, 0⟩ : Sp)) := by rw [hw2]; exact F2.out.alloc _
        replace FB : Hid (Below w.heap.size w v_2) := by rw [hw2]; exact FB.out.alloc FB.out.size _
        rw [← hw2, ← hbb]
        clear hbb hw2
        clear x0_0 x0_1 x1_0 x1_1
        obtain ⟨x0_0, x0_1, y0_0, y0_1⟩ := F0.out
        obtain ⟨x1_0, x1_1, y1_0, y1_1⟩ := F1.out
        refine hK.out _ _ (by (try dsimp only); first | exact ⟨x0_0, x0_1, x1_0, x1_1⟩ | go_keep) (fun hHeld => ?_)
        clear hK K
        try simp only [Act.put, List.getElem_toArray, List.getElem_cons_succ, List.getElem_cons_zero, List.setIfInBounds_toArray, List.set_cons_zero, List.set_cons_succ]
        refine wpAnyH_ready (rs := [12]) (by kernel_rfl) (by simp) ?_
        refine (AllReadyH.cons rfl (fun K hK => ?_) AllReadyH.nil)
        obtain ⟨x3_0, x3_1, y3_0, y3_1⟩ := F3.out
        try dsimp only at x3_0 x3_1
        go_simp
        obtain ⟨v_3, hw2⟩ : ∃ v_3, v_3 = putM v_2 ob (⟨p, q⟩ : Sp) := ⟨_, rfl⟩
        change K _ (putM v_2 ob (⟨p, q⟩ : Sp))
        rw [← hw2]
        clear x3_0 x3_1 y3_0 y3_1
        replace F0 : Hid (MW v_3 w.heap.size x) := by rw [hw2]; exact F0.out.below (below_putM (Below.refl _ _) (Nat.le_refl _) _) (by omega)
        replace F1 : Hid (MW v_3 (w.heap.size + 1) y) := by rw [hw2]; exact F1.out.below (below_putM (Below.refl _ _) (Nat.le_refl _) _) (by omega)
        replace F2 : Hid (MW v_3 (w.heap.size + 2) (⟨0, 0⟩ : Sp)) := by rw [hw2]; exact F2.out.below (below_putM (Below.refl _ _) (Nat.le_refl _) _) (by omega)
        replace FB : Hid (Below w.heap.size w v_3) := by rw [hw2]; exact below_putM FB.out (by omega) _
        replace F3 : Hid (MW v_3 ob (⟨p, q⟩ : Sp)) := by rw [hw2]; exact F3.out.put _
        clear hw2
        clear x0_0 x0_1 x1_0 x1_1
        obtain ⟨x0_0, x0_1, y0_0, y0_1⟩ := F0.out
        obtain ⟨x1_0, x1_1, y1_0, y1_1⟩ := F1.out
        refine hK.out _ _ (by (try dsimp only); first | exact ⟨x0_0, x0_1, x1_0, x1_1⟩ | go_keep) (fun hHeld => ?_)
        clear hK K
        try simp only [Act.put, List.getElem_toArray, List.getElem_cons_succ, List.getElem_cons_zero, List.setIfInBounds_toArray, List.set_cons_zero, List.set_cons_succ]
        refine wpAnyH_done (by kernel_rfl) ?_ _
        go_wp2_with fail
        go_meet
        case rel => exact ⟨ob, rfl, by omega, F0.out, F1.out, F2.out, F3.out, FB.out⟩
      · go_simp
        obtain ⟨ob, hbb⟩ : ∃ ob, ob = v_1.heap.size := ⟨_, rfl⟩
        obtain ⟨v_4, hw2⟩ : ∃ v_4, v_4 = v_1.alloc (.cells #[.int .i64 0, .int .i64 0] 27) := ⟨_, rfl⟩
        have nob_0 := F0.out.lt
        rw [← hbb] at nob_0
        have nob_1 := F1.out.lt
        rw [← hbb] at nob_1
        have nob_2 := F2.out.lt
        rw [← hbb] at nob_2
        have F3 : Hid (MW v_4 ob (⟨0, 0⟩ : Sp)) := by rw [hw2]; exact MW.at_ v_1 ⟨0, 0⟩ _ ob hbb
        replace F0 : Hid (MW v_4 w.heap.size x) := by rw [hw2]; exact F0.out.alloc _
        replace F1 : Hid (MW v_4 (w.heap.size + 1) y) := by rw [hw2]; exact F1.out.alloc _
        replace F2 : Hid (MW v_4 (w.heap.size + 2) (⟨0, 0⟩ : Sp)) := by rw [hw2]; exact F2.out.alloc _
        replace FB : Hid (Below w.heap.size w v_4) := by rw [hw2]; exact FB.out.alloc FB.out.size _
        rw [← hw2, ← hbb]
        clear hbb hw2
        clear x0_0 x0_1 x1_0 x1_1
        obtain ⟨x0_0, x0_1, y0_0, y0_1⟩ := F0.out
        obtain ⟨x1_0, x1_1, y1_0, y1_1⟩ := F1.out
        refine hK.out _ _ (by (try dsimp only); first | exact ⟨x0_0, x0_1, x1_0, x1_1⟩ | go_keep) (fun hHeld => ?_)
        clear hK K
        try simp only [Act.put, List.getElem_toArray, List.getElem_cons_succ, List.getElem_cons_zero, List.setIfInBounds_toArray, List.set_cons_zero, List.set_cons_succ]
        refine wpAnyH_ready (rs := [9]) (by kernel_rfl) (by simp) ?_
        refine (AllReadyH.cons rfl (fun K hK => ?_) AllReadyH.nil)
        go_simp
        refine (l1Min_any _ _ _).mono ?_
        rintro e w_ ⟨rfl, hw⟩
        obtain rfl := hw.symm
        clear hw
        rw [hq]
        try dsimp only
        refine hK.out _ _ (by (try dsimp only); first | exact ⟨x0_0, x0_1, x1_0, x1_1⟩ | go_keep) (fun hHeld => ?_)
        clear hK K
        try simp only [Act.put, List.getElem_toArray, List.getElem_cons_succ, List.getElem_cons_zero, List.setIfInBounds_toArray, List.set_cons_zero, List.set_cons_succ]
        refine tkz 10 rfl ?_
        refine wpAnyH_ready (rs := [12]) (by kernel_rfl) (by simp) ?_
        refine (AllReadyH.cons rfl (fun K hK => ?_) AllReadyH.nil)
        obtain ⟨x3_0, x3_1, y3_0, y3_1⟩ := F3.out
        try dsimp only at x3_0 x3_1
        go_simp
        obtain ⟨v_5, hw2⟩ : ∃ v_5, v_5 = putM v_4 ob (⟨p, q⟩ : Sp) := ⟨_, rfl⟩
        change K _ (putM v_4 ob (⟨p, q⟩ : Sp))
        rw [← hw2]
        clear x3_0 x3_1 y3_0 y3_1
        replace F0 : Hid (MW v_5 w.heap.size x) := by rw [hw2]; exact F0.out.below (below_putM (Below.refl _ _) (Nat.le_refl _) _) (by omega)
        replace F1 : Hid (MW v_5 (w.heap.size + 1) y) := by rw [hw2]; exact F1.out.below (below_putM (Below.refl _ _) (Nat.le_refl _) _) (by omega)
        replace F2 : Hid (MW v_5 (w.heap.size + 2) (⟨0, 0⟩ : Sp)) := by rw [hw2]; exact F2.out.below (below_putM (Below.refl _ _) (Nat.le_refl _) _) (by omega)
        replace FB : Hid (Below w.heap.size w v_5) := by rw [hw2]; exact below_putM FB.out (by omega) _
        replace F3 : Hid (MW v_5 ob (⟨p, q⟩ : Sp)) := by rw [hw2]; exact F3.out.put _
        clear hw2
        clear x0_0 x0_1 x1_0 x1_1
        obtain ⟨x0_0, x0_1, y0_0, y0_1⟩ := F0.out
        obtain ⟨x1_0, x1_1, y1_0, y1_1⟩ := F1.out
        refine hK.out _ _ (by (try dsimp only); first | exact ⟨x0_0, x0_1, x1_0, x1_1⟩ | go_keep) (fun hHeld => ?_)
        clear hK K
        try simp only [Act.put, List.getElem_toArray, List.getElem_cons_succ, List.getElem_cons_zero, List.setIfInBounds_toArray, List.set_cons_zero, List.set_cons_succ]
        refine wpAnyH_done (by kernel_rfl) ?_ _
        go_wp2_with fail
        go_meet
        case rel => exact ⟨ob, rfl, by omega, F0.out, F1.out, F2.out, F3.out, FB.out⟩
    · go_simp
      obtain ⟨ob, hbb⟩ : ∃ ob, ob = v_1.heap.size := ⟨_, rfl⟩
      obtain ⟨v_6, hw2⟩ : ∃ v_6, v_6 = v_1.alloc (.cells #[.int .i64 0, .int .i64 0] 27) := ⟨_, rfl⟩
      have nob_0 := F0.out.lt
      rw [← hbb] at nob_0
      have nob_1 := F1.out.lt
      rw [← hbb] at nob_1
      have nob_2 := F2.out.lt
      rw [← hbb] at nob_2
      have F3 : Hid (MW v_6 ob (⟨0, 0⟩ : Sp)) := by rw [hw2]; exact MW.at_ v_1 ⟨0, 0⟩ _ ob hbb
      replace F0 : Hid (MW v_6 w.heap.size x) := by rw [hw2]; exact F0.out.alloc _
      replace F1 : Hid (MW v_6 (w.heap.size + 1) y) := by rw [hw2]; exact F1.out.alloc _
      replace F2 : Hid (MW v_6 (w.heap.size + 2) (⟨0, 0⟩ : Sp)) := by rw [hw2]; exact F2.out.alloc _
      replace FB : Hid (Below w.heap.size w v_6) := by rw [hw2]; exact FB.out.alloc FB.out.size _
      rw [← hw2, ← hbb]
      clear hbb hw2
      clear x0_0 x0_1 x1_0 x1_1
      obtain ⟨x0_0, x0_1, y0_0, y0_1⟩ := F0.out
      obtain ⟨x1_0, x1_1, y1_0, y1_1⟩ := F1.out
      refine hK.out _ _ (by (try dsimp only); first | exact ⟨x0_0, x0_1, x1_0, x1_1⟩ | go_keep) (fun hHeld => ?_)
      clear hK K
      try simp only [Act.put, List.getElem_toArray, List.getElem_cons_succ, List.getElem_cons_zero, List.setIfInBounds_toArray, List.set_cons_zero, List.set_cons_succ]
      refine wpAnyH_ready (rs := [4]) (by kernel_rfl) (by simp) ?_
      refine (AllReadyH.cons rfl (fun K hK => ?_) AllReadyH.nil)
      go_simp
      refine (l1Max_any _ _ _).mono ?_
      rintro e w_ ⟨rfl, hw⟩
      obtain rfl := hw.symm
      clear hw
      rw [hp]
      try dsimp only
      refine hK.out _ _ (by (try dsimp only); first | exact ⟨x0_0, x0_1, x1_0, x1_1⟩ | go_keep) (fun hHeld => ?_)
      clear hK K
      try simp only [Act.put, List.getElem_toArray, List.getElem_cons_succ, List.getElem_cons_zero, List.setIfInBounds_toArray, List.set_cons_zero, List.set_cons_succ]
      refine wpAnyH_ready (rs := [9]) (by kernel_rfl) (by simp) ?_
      refine (AllReadyH.cons rfl (fun K hK => ?_) AllReadyH.nil)
      go_simp
      refine (l1Min_any _ _ _).mono ?_
      rintro e w_ ⟨rfl, hw⟩
      obtain rfl := hw.symm
      clear hw
      rw [hq]
      try dsimp only
      refine hK.out _ _ (by (try dsimp only); first | exact ⟨x0_0, x0_1, x1_0, x1_1⟩ | go_keep) (fun hHeld => ?_)
      clear hK K
      try simp only [Act.put, List.getElem_toArray, List.getElem_cons_succ, List.getElem_cons_zero, List.setIfInBounds_toArray, List.set_cons_zero, List.set_cons_succ]
      refine tkz 10 rfl ?_
      refine wpAnyH_ready (rs := [12]) (by kernel_rfl) (by simp) ?_
      refine (AllReadyH.cons rfl (fun K hK => ?_) AllReadyH.nil)
      obtain ⟨x3_0, x3_1, y3_0, y3_1⟩ := F3.out
      try dsimp only at x3_0 x3_1
      go_simp
      obtain ⟨v_7, hw2⟩ : ∃ v_7, v_7 = putM v_6 ob (⟨p, q⟩ : Sp) := ⟨_, rfl⟩
      change K _ (putM v_6 ob (⟨p, q⟩ : Sp))
      rw [← hw2]
      clear x3_0 x3_1 y3_0 y3_1
      replace F0 : Hid (MW v_7 w.heap.size x) := by rw [hw2]; exact F0.out.below (below_putM (Below.refl _ _) (Nat.le_refl _) _) (by omega)
      replace F1 : Hid (MW v_7 (w.heap.size + 1) y) := by rw [hw2]; exact F1.out.below (below_putM (Below.refl _ _) (Nat.le_refl _) _) (by omega)
      replace F2 : Hid (MW v_7 (w.heap.size + 2) (⟨0, 0⟩ : Sp)) := by rw [hw2]; exact F2.out.below (below_putM (Below.refl _ _) (Nat.le_refl _) _) (by omega)
      replace FB : Hid (Below w.heap.size w v_7) := by rw [hw2]; exact below_putM FB.out (by omega) _
      replace F3 : Hid (MW v_7 ob (⟨p, q⟩ : Sp)) := by rw [hw2]; exact F3.out.put _
      clear hw2
      clear x0_0 x0_1 x1_0 x1_1
      obtain ⟨x0_0, x0_1, y0_0, y0_1⟩ := F0.out
      obtain ⟨x1_0, x1_1, y1_0, y1_1⟩ := F1.out
      refine hK.out _ _ (by (try dsimp only); first | exact ⟨x0_0, x0_1, x1_0, x1_1⟩ | go_keep) (fun hHeld => ?_)
      clear hK K
      try simp only [Act.put, List.getElem_toArray, List.getElem_cons_succ, List.getElem_cons_zero, List.setIfInBounds_toArray, List.set_cons_zero, List.set_cons_succ]
      refine wpAnyH_done (by kernel_rfl) ?_ _
      go_wp2_with fail
      go_meet
      case rel => exact ⟨ob, rfl, by omega, F0.out, F1.out, F2.out, F3.out, FB.out⟩
  case rest =>
    obtain ⟨ob, rfl, lt1, h0, h1, h2, h3, h4⟩ := hcut
    have F2 : Hid (MW wc (w.heap.size + 2) (⟨0, 0⟩ : Sp)) := h2
    have FB : Hid (Below w.heap.size w wc) := h4
    obtain ⟨x0_0, x0_1, y0_0, y0_1⟩ := h0
    obtain ⟨x2_0, x2_1, y2_0, y2_1⟩ := h2
    obtain ⟨x3_0, x3_1, y3_0, y3_1⟩ := h3
    dsimp only at x2_0 x2_1 x3_0 x3_1
    clear h1 h4
    by_cases lt : q < p
    · have e : z = x := by rw [← HZ.out, if_pos lt]
      subst e
      clear HZ
      go_wp2_with fail
      change bodyPost _ _ _ _ _ (putM wc (w.heap.size + 2) z)
      obtain ⟨Wf, hWf⟩ : ∃ Wf, putM wc (w.heap.size + 2) z = Wf := ⟨_, rfl⟩
      have HRf : MW Wf (w.heap.size + 2) z := hWf ▸ F2.out.put _
      have HBf : Below w.heap.size w Wf := hWf ▸ below_putM FB.out (by omega) _
      rw [hWf]
      clear hWf
      obtain ⟨d0, d1, -, -⟩ := HRf
      try dsimp only at d0 d1
      exact bodyPost_ret (v := .agg #[.int .i64 z.lo, .int .i64 z.hi]) (by simp [results, Try.results67, go_sem, d0, d1]) rfl ⟨rfl, HBf⟩
    · have e : z = ⟨p, q⟩ := by rw [← HZ.out, if_neg lt]
      subst e
      clear HZ
      go_wp2_with fail
      change bodyPost _ _ _ _ _ (putM wc (w.heap.size + 2) (⟨p, q⟩ : Sp))
      obtain ⟨Wf, hWf⟩ : ∃ Wf, putM wc (w.heap.size + 2) (⟨p, q⟩ : Sp) = Wf := ⟨_, rfl⟩
      have HRf : MW Wf (w.heap.size + 2) (⟨p, q⟩ : Sp) := hWf ▸ F2.out.put _
      have HBf : Below w.heap.size w Wf := hWf ▸ below_putM FB.out (by omega) _
      rw [hWf]
      clear hWf
      obtain ⟨d0, d1, -, -⟩ := HRf
      try dsimp only at d0 d1
      exact bodyPost_ret (v := .agg #[.int .i64 p, .int .i64 q]) (by simp [results, Try.results67, go_sem, d0, d1]) rfl ⟨rfl, HBf⟩
set_option maxRecDepth 20000 in
set_option maxHeartbeats 8000000 in
theorem l6Release_any (h : Hs) (x : Ss) (s : Sh) (kl : CarOk h s.lo) (ku : CarOk h s.up) (y : Ss) (hy : Hs.relS h x s = y) (w : World) :
    Calls Try.prog 40 #[.agg #[.int .i64 h.fl, .int .i64 h.gp, .int .i64 h.ln, .int .i64 h.rf, .int .i64 h.sp, .int .i64 h.pu, .int .i64 h.br, .int .i64 h.dr, .int .i64 h.lv, .int .i64 h.dO, .int .i64 h.ld, .int .i64 h.qu], .agg #[.int .i64 x.l.lo, .int .i64 x.l.hi, .int .i64 x.u.lo, .int .i64 x.u.hi], .agg #[.int .i64 s.lo.pos, .int .i64 s.lo.vel, .int .i64 s.lo.door, .int .i64 s.up.pos, .int .i64 s.up.vel, .int .i64 s.up.door]] w fun e w' => e = .returned (.agg #[.int .i64 y.l.lo, .int .i64 y.l.hi, .int .i64 y.u.lo, .int .i64 y.u.hi]) ∧ Below w.heap.size w w' := by
  obtain ⟨g1, hg1⟩ : ∃ g1, Hs.cover h s.lo = g1 := ⟨_, rfl⟩
  obtain ⟨g2, hg2⟩ : ∃ g2, Hs.cover h s.up = g2 := ⟨_, rfl⟩
  obtain ⟨c1, hc1⟩ : ∃ c1, cutS x.l g1 = c1 := ⟨_, rfl⟩
  obtain ⟨c2, hc2⟩ : ∃ c2, cutS x.u g2 = c2 := ⟨_, rfl⟩
  unfold Hs.relS at hy
  rw [hg1, hg2, hc1, hc2] at hy
  subst hy
  have HG1 : Hid (Hs.cover h s.lo = g1) := hg1
  have HG2 : Hid (Hs.cover h s.up = g2) := hg2
  have HC1 : Hid (cutS x.l g1 = c1) := hc1
  have HC2 : Hid (cutS x.u g2 = c2) := hc2
  have HL : Hid (CarOk h s.lo) := kl
  have HU : Hid (CarOk h s.up) := ku
  clear hg1 hg2 hc1 hc2 kl ku
  have F0 : Hid (HAt ((((w.alloc (.cells #[.int .i64 h.fl, .int .i64 h.gp, .int .i64 h.ln, .int .i64 h.rf, .int .i64 h.sp, .int .i64 h.pu, .int .i64 h.br, .int .i64 h.dr, .int .i64 h.lv, .int .i64 h.dO, .int .i64 h.ld, .int .i64 h.qu] 25)).alloc (.cells #[.int .i64 x.l.lo, .int .i64 x.l.hi, .int .i64 x.u.lo, .int .i64 x.u.hi] 29)).alloc (.cells #[.int .i64 s.lo.pos, .int .i64 s.lo.vel, .int .i64 s.lo.door, .int .i64 s.up.pos, .int .i64 s.up.vel, .int .i64 s.up.door] 40)).alloc (.cells #[.int .i64 0, .int .i64 0, .int .i64 0, .int .i64 0] 29)) w.heap.size h) := (((HAt.at_ w h _ _ (by simp)).alloc _).alloc _).alloc _
  have F1 : Hid (NW ((((w.alloc (.cells #[.int .i64 h.fl, .int .i64 h.gp, .int .i64 h.ln, .int .i64 h.rf, .int .i64 h.sp, .int .i64 h.pu, .int .i64 h.br, .int .i64 h.dr, .int .i64 h.lv, .int .i64 h.dO, .int .i64 h.ld, .int .i64 h.qu] 25)).alloc (.cells #[.int .i64 x.l.lo, .int .i64 x.l.hi, .int .i64 x.u.lo, .int .i64 x.u.hi] 29)).alloc (.cells #[.int .i64 s.lo.pos, .int .i64 s.lo.vel, .int .i64 s.lo.door, .int .i64 s.up.pos, .int .i64 s.up.vel, .int .i64 s.up.door] 40)).alloc (.cells #[.int .i64 0, .int .i64 0, .int .i64 0, .int .i64 0] 29)) (w.heap.size + 1) x) := ((NW.at_ _ x _ _ (by simp)).alloc _).alloc _
  have F2 : Hid (SW ((((w.alloc (.cells #[.int .i64 h.fl, .int .i64 h.gp, .int .i64 h.ln, .int .i64 h.rf, .int .i64 h.sp, .int .i64 h.pu, .int .i64 h.br, .int .i64 h.dr, .int .i64 h.lv, .int .i64 h.dO, .int .i64 h.ld, .int .i64 h.qu] 25)).alloc (.cells #[.int .i64 x.l.lo, .int .i64 x.l.hi, .int .i64 x.u.lo, .int .i64 x.u.hi] 29)).alloc (.cells #[.int .i64 s.lo.pos, .int .i64 s.lo.vel, .int .i64 s.lo.door, .int .i64 s.up.pos, .int .i64 s.up.vel, .int .i64 s.up.door] 40)).alloc (.cells #[.int .i64 0, .int .i64 0, .int .i64 0, .int .i64 0] 29)) (w.heap.size + 2) s) := (SW.at_ _ s _ _ (by simp)).alloc _
  have F3 : Hid (NW ((((w.alloc (.cells #[.int .i64 h.fl, .int .i64 h.gp, .int .i64 h.ln, .int .i64 h.rf, .int .i64 h.sp, .int .i64 h.pu, .int .i64 h.br, .int .i64 h.dr, .int .i64 h.lv, .int .i64 h.dO, .int .i64 h.ld, .int .i64 h.qu] 25)).alloc (.cells #[.int .i64 x.l.lo, .int .i64 x.l.hi, .int .i64 x.u.lo, .int .i64 x.u.hi] 29)).alloc (.cells #[.int .i64 s.lo.pos, .int .i64 s.lo.vel, .int .i64 s.lo.door, .int .i64 s.up.pos, .int .i64 s.up.vel, .int .i64 s.up.door] 40)).alloc (.cells #[.int .i64 0, .int .i64 0, .int .i64 0, .int .i64 0] 29)) (w.heap.size + 3) (⟨⟨0, 0⟩, ⟨0, 0⟩⟩ : Ss)) := NW.at_ _ (⟨⟨0, 0⟩, ⟨0, 0⟩⟩ : Ss) _ _ (by simp)
  have FB : Hid (Below w.heap.size w ((((w.alloc (.cells #[.int .i64 h.fl, .int .i64 h.gp, .int .i64 h.ln, .int .i64 h.rf, .int .i64 h.sp, .int .i64 h.pu, .int .i64 h.br, .int .i64 h.dr, .int .i64 h.lv, .int .i64 h.dO, .int .i64 h.ld, .int .i64 h.qu] 25)).alloc (.cells #[.int .i64 x.l.lo, .int .i64 x.l.hi, .int .i64 x.u.lo, .int .i64 x.u.hi] 29)).alloc (.cells #[.int .i64 s.lo.pos, .int .i64 s.lo.vel, .int .i64 s.lo.door, .int .i64 s.up.pos, .int .i64 s.up.vel, .int .i64 s.up.door] 40)).alloc (.cells #[.int .i64 0, .int .i64 0, .int .i64 0, .int .i64 0] 29))) := ((((Below.refl _ _).alloc (Nat.le_refl _) _).alloc (by simp) _).alloc (by simp; omega) _).alloc (by simp; omega) _
  obtain ⟨W0, hW0⟩ : ∃ W0, W0 = ((((w.alloc (.cells #[.int .i64 h.fl, .int .i64 h.gp, .int .i64 h.ln, .int .i64 h.rf, .int .i64 h.sp, .int .i64 h.pu, .int .i64 h.br, .int .i64 h.dr, .int .i64 h.lv, .int .i64 h.dO, .int .i64 h.ld, .int .i64 h.qu] 25)).alloc (.cells #[.int .i64 x.l.lo, .int .i64 x.l.hi, .int .i64 x.u.lo, .int .i64 x.u.hi] 29)).alloc (.cells #[.int .i64 s.lo.pos, .int .i64 s.lo.vel, .int .i64 s.lo.door, .int .i64 s.up.pos, .int .i64 s.up.vel, .int .i64 s.up.door] 40)).alloc (.cells #[.int .i64 0, .int .i64 0, .int .i64 0, .int .i64 0] 29)) := ⟨_, rfl⟩
  rw [← hW0] at F0 F1 F2 F3 FB
  have HW0 : Hid (W0 = ((((w.alloc (.cells #[.int .i64 h.fl, .int .i64 h.gp, .int .i64 h.ln, .int .i64 h.rf, .int .i64 h.sp, .int .i64 h.pu, .int .i64 h.br, .int .i64 h.dr, .int .i64 h.lv, .int .i64 h.dO, .int .i64 h.ld, .int .i64 h.qu] 25)).alloc (.cells #[.int .i64 x.l.lo, .int .i64 x.l.hi, .int .i64 x.u.lo, .int .i64 x.u.hi] 29)).alloc (.cells #[.int .i64 s.lo.pos, .int .i64 s.lo.vel, .int .i64 s.lo.door, .int .i64 s.up.pos, .int .i64 s.up.vel, .int .i64 s.up.door] 40)).alloc (.cells #[.int .i64 0, .int .i64 0, .int .i64 0, .int .i64 0] 29))) := hW0
  clear hW0
  go_enter Try.func40, Try.ntmps40
  go_upto_region 1 with fail
  rw [← HW0.out]
  clear HW0
  replace F0 : Hid (HAt W0.drew w.heap.size h) := F0.out.below (Below.refl _ _).drew F0.out.lt
  replace F1 : Hid (NW W0.drew (w.heap.size + 1) x) := F1.out.below (Below.refl _ _).drew F1.out.lt
  replace F2 : Hid (SW W0.drew (w.heap.size + 2) s) := F2.out.below (Below.refl _ _).drew F2.out.lt
  replace F3 : Hid (NW W0.drew (w.heap.size + 3) (⟨⟨0, 0⟩, ⟨0, 0⟩⟩ : Ss)) := F3.out.below (Below.refl _ _).drew F3.out.lt
  replace FB : Hid (Below w.heap.size w W0.drew) := FB.out.drew
  obtain ⟨x0_0, x0_1, x0_2, x0_3, x0_4, x0_5, x0_6, x0_7, x0_8, x0_9, x0_10, x0_11⟩ := F0.out
  obtain ⟨x1_0, x1_1, x1_2, x1_3, y1_0, y1_1, y1_2, y1_3⟩ := F1.out
  obtain ⟨x2_0, x2_1, x2_2, x2_3, x2_4, x2_5, y2_0, y2_1, y2_2, y2_3, y2_4, y2_5⟩ := F2.out
  refine wp_region_held_drew (S := (fun w'' => w''.cell? ⟨w.heap.size, 0, none⟩ = some (.int .i64 h.fl) ∧ w''.cell? ⟨w.heap.size, 1, none⟩ = some (.int .i64 h.gp) ∧ w''.cell? ⟨w.heap.size, 2, none⟩ = some (.int .i64 h.ln) ∧ w''.cell? ⟨w.heap.size, 3, none⟩ = some (.int .i64 h.rf) ∧ w''.cell? ⟨w.heap.size, 4, none⟩ = some (.int .i64 h.sp) ∧ w''.cell? ⟨w.heap.size, 5, none⟩ = some (.int .i64 h.pu) ∧ w''.cell? ⟨w.heap.size, 6, none⟩ = some (.int .i64 h.br) ∧ w''.cell? ⟨w.heap.size, 7, none⟩ = some (.int .i64 h.dr) ∧ w''.cell? ⟨w.heap.size, 8, none⟩ = some (.int .i64 h.lv) ∧ w''.cell? ⟨w.heap.size, 9, none⟩ = some (.int .i64 h.dO) ∧ w''.cell? ⟨w.heap.size, 10, none⟩ = some (.int .i64 h.ld) ∧ w''.cell? ⟨w.heap.size, 11, none⟩ = some (.int .i64 h.qu) ∧ w''.cell? ⟨(w.heap.size + 1), 0, none⟩ = some (.int .i64 x.l.lo) ∧ w''.cell? ⟨(w.heap.size + 1), 1, none⟩ = some (.int .i64 x.l.hi) ∧ w''.cell? ⟨(w.heap.size + 1), 2, none⟩ = some (.int .i64 x.u.lo) ∧ w''.cell? ⟨(w.heap.size + 1), 3, none⟩ = some (.int .i64 x.u.hi) ∧ w''.cell? ⟨(w.heap.size + 2), 0, none⟩ = some (.int .i64 s.lo.pos) ∧ w''.cell? ⟨(w.heap.size + 2), 1, none⟩ = some (.int .i64 s.lo.vel) ∧ w''.cell? ⟨(w.heap.size + 2), 2, none⟩ = some (.int .i64 s.lo.door) ∧ w''.cell? ⟨(w.heap.size + 2), 3, none⟩ = some (.int .i64 s.up.pos) ∧ w''.cell? ⟨(w.heap.size + 2), 4, none⟩ = some (.int .i64 s.up.vel) ∧ w''.cell? ⟨(w.heap.size + 2), 5, none⟩ = some (.int .i64 s.up.door))) (by kernel_rfl) (by (try dsimp only); first | exact ⟨x0_0, x0_1, x0_2, x0_3, x0_4, x0_5, x0_6, x0_7, x0_8, x0_9, x0_10, x0_11, x1_0, x1_1, x1_2, x1_3, x2_0, x2_1, x2_2, x2_3, x2_4, x2_5⟩ | go_keep) (fun hHeld => ?_)
  obtain ⟨v_8, hw1⟩ : ∃ v_8, v_8 = W0.drew := ⟨_, rfl⟩
  replace F0 : Hid (HAt v_8 w.heap.size h) := by rw [hw1]; exact F0.out
  replace F1 : Hid (NW v_8 (w.heap.size + 1) x) := by rw [hw1]; exact F1.out
  replace F2 : Hid (SW v_8 (w.heap.size + 2) s) := by rw [hw1]; exact F2.out
  replace F3 : Hid (NW v_8 (w.heap.size + 3) (⟨⟨0, 0⟩, ⟨0, 0⟩⟩ : Ss)) := by rw [hw1]; exact F3.out
  replace FB : Hid (Below w.heap.size w v_8) := by rw [hw1]; exact FB.out
  rw [← hw1] at hHeld ⊢
  clear hw1
  clear x0_0 x0_1 x0_2 x0_3 x0_4 x0_5 x0_6 x0_7 x0_8 x0_9 x0_10 x0_11 x1_0 x1_1 x1_2 x1_3 x2_0 x2_1 x2_2 x2_3 x2_4 x2_5
  obtain ⟨x0_0, x0_1, x0_2, x0_3, x0_4, x0_5, x0_6, x0_7, x0_8, x0_9, x0_10, x0_11⟩ := F0.out
  obtain ⟨x1_0, x1_1, x1_2, x1_3, y1_0, y1_1, y1_2, y1_3⟩ := F1.out
  obtain ⟨x2_0, x2_1, x2_2, x2_3, x2_4, x2_5, y2_0, y2_1, y2_2, y2_3, y2_4, y2_5⟩ := F2.out
  refine tkz 0 rfl ?_
  refine tkz 1 rfl ?_
  refine tkz 2 rfl ?_
  refine tkz 3 rfl ?_
  refine tkz 4 rfl ?_
  refine tkz 7 rfl ?_
  refine tkz 8 rfl ?_
  refine tkz 9 rfl ?_
  refine tkz 10 rfl ?_
  refine tkz 11 rfl ?_
  refine wpAnyH_ready (rs := [5]) (by kernel_rfl) (by simp) ?_
  refine (AllReadyH.cons rfl (fun K hK => ?_) AllReadyH.nil)
  go_simp
  refine (l6Cover_any h s.lo HL.out g1 HG1.out _).mono ?_
  rintro e v_9 ⟨rfl, hb⟩
  replace F0 : Hid (HAt v_9 w.heap.size h) := F0.out.below hb F0.out.lt
  replace F1 : Hid (NW v_9 (w.heap.size + 1) x) := F1.out.below hb F1.out.lt
  replace F2 : Hid (SW v_9 (w.heap.size + 2) s) := F2.out.below hb F2.out.lt
  replace F3 : Hid (NW v_9 (w.heap.size + 3) (⟨⟨0, 0⟩, ⟨0, 0⟩⟩ : Ss)) := F3.out.below hb F3.out.lt
  replace FB : Hid (Below w.heap.size w v_9) := FB.out.trans (hb.mono FB.out.size)
  clear hb
  clear x0_0 x0_1 x0_2 x0_3 x0_4 x0_5 x0_6 x0_7 x0_8 x0_9 x0_10 x0_11 x1_0 x1_1 x1_2 x1_3 x2_0 x2_1 x2_2 x2_3 x2_4 x2_5
  obtain ⟨x0_0, x0_1, x0_2, x0_3, x0_4, x0_5, x0_6, x0_7, x0_8, x0_9, x0_10, x0_11⟩ := F0.out
  obtain ⟨x1_0, x1_1, x1_2, x1_3, y1_0, y1_1, y1_2, y1_3⟩ := F1.out
  obtain ⟨x2_0, x2_1, x2_2, x2_3, x2_4, x2_5, y2_0, y2_1, y2_2, y2_3, y2_4, y2_5⟩ := F2.out
  try dsimp only
  refine hK.out _ _ (by (try dsimp only); first | exact ⟨x0_0, x0_1, x0_2, x0_3, x0_4, x0_5, x0_6, x0_7, x0_8, x0_9, x0_10, x0_11, x1_0, x1_1, x1_2, x1_3, x2_0, x2_1, x2_2, x2_3, x2_4, x2_5⟩ | go_keep) (fun hHeld => ?_)
  clear hK K
  try simp only [Act.put, List.getElem_toArray, List.getElem_cons_succ, List.getElem_cons_zero, List.setIfInBounds_toArray, List.set_cons_zero, List.set_cons_succ]
  refine wpAnyH_ready (rs := [6]) (by kernel_rfl) (by simp) ?_
  refine (AllReadyH.cons rfl (fun K hK => ?_) AllReadyH.nil)
  go_simp
  refine (l6Cut_any x.l g1 c1 HC1.out _).mono ?_
  rintro e v_10 ⟨rfl, hb⟩
  replace F0 : Hid (HAt v_10 w.heap.size h) := F0.out.below hb F0.out.lt
  replace F1 : Hid (NW v_10 (w.heap.size + 1) x) := F1.out.below hb F1.out.lt
  replace F2 : Hid (SW v_10 (w.heap.size + 2) s) := F2.out.below hb F2.out.lt
  replace F3 : Hid (NW v_10 (w.heap.size + 3) (⟨⟨0, 0⟩, ⟨0, 0⟩⟩ : Ss)) := F3.out.below hb F3.out.lt
  replace FB : Hid (Below w.heap.size w v_10) := FB.out.trans (hb.mono FB.out.size)
  clear hb
  clear x0_0 x0_1 x0_2 x0_3 x0_4 x0_5 x0_6 x0_7 x0_8 x0_9 x0_10 x0_11 x1_0 x1_1 x1_2 x1_3 x2_0 x2_1 x2_2 x2_3 x2_4 x2_5
  obtain ⟨x0_0, x0_1, x0_2, x0_3, x0_4, x0_5, x0_6, x0_7, x0_8, x0_9, x0_10, x0_11⟩ := F0.out
  obtain ⟨x1_0, x1_1, x1_2, x1_3, y1_0, y1_1, y1_2, y1_3⟩ := F1.out
  obtain ⟨x2_0, x2_1, x2_2, x2_3, x2_4, x2_5, y2_0, y2_1, y2_2, y2_3, y2_4, y2_5⟩ := F2.out
  try dsimp only
  refine hK.out _ _ (by (try dsimp only); first | exact ⟨x0_0, x0_1, x0_2, x0_3, x0_4, x0_5, x0_6, x0_7, x0_8, x0_9, x0_10, x0_11, x1_0, x1_1, x1_2, x1_3, x2_0, x2_1, x2_2, x2_3, x2_4, x2_5⟩ | go_keep) (fun hHeld => ?_)
  clear hK K
  try simp only [Act.put, List.getElem_toArray, List.getElem_cons_succ, List.getElem_cons_zero, List.setIfInBounds_toArray, List.set_cons_zero, List.set_cons_succ]
  refine wpAnyH_ready (rs := [12]) (by kernel_rfl) (by simp) ?_
  refine (AllReadyH.cons rfl (fun K hK => ?_) AllReadyH.nil)
  go_simp
  refine (l6Cover_any h s.up HU.out g2 HG2.out _).mono ?_
  rintro e v_11 ⟨rfl, hb⟩
  replace F0 : Hid (HAt v_11 w.heap.size h) := F0.out.below hb F0.out.lt
  replace F1 : Hid (NW v_11 (w.heap.size + 1) x) := F1.out.below hb F1.out.lt
  replace F2 : Hid (SW v_11 (w.heap.size + 2) s) := F2.out.below hb F2.out.lt
  replace F3 : Hid (NW v_11 (w.heap.size + 3) (⟨⟨0, 0⟩, ⟨0, 0⟩⟩ : Ss)) := F3.out.below hb F3.out.lt
  replace FB : Hid (Below w.heap.size w v_11) := FB.out.trans (hb.mono FB.out.size)
  clear hb
  clear x0_0 x0_1 x0_2 x0_3 x0_4 x0_5 x0_6 x0_7 x0_8 x0_9 x0_10 x0_11 x1_0 x1_1 x1_2 x1_3 x2_0 x2_1 x2_2 x2_3 x2_4 x2_5
  obtain ⟨x0_0, x0_1, x0_2, x0_3, x0_4, x0_5, x0_6, x0_7, x0_8, x0_9, x0_10, x0_11⟩ := F0.out
  obtain ⟨x1_0, x1_1, x1_2, x1_3, y1_0, y1_1, y1_2, y1_3⟩ := F1.out
  obtain ⟨x2_0, x2_1, x2_2, x2_3, x2_4, x2_5, y2_0, y2_1, y2_2, y2_3, y2_4, y2_5⟩ := F2.out
  try dsimp only
  refine hK.out _ _ (by (try dsimp only); first | exact ⟨x0_0, x0_1, x0_2, x0_3, x0_4, x0_5, x0_6, x0_7, x0_8, x0_9, x0_10, x0_11, x1_0, x1_1, x1_2, x1_3, x2_0, x2_1, x2_2, x2_3, x2_4, x2_5⟩ | go_keep) (fun hHeld => ?_)
  clear hK K
  try simp only [Act.put, List.getElem_toArray, List.getElem_cons_succ, List.getElem_cons_zero, List.setIfInBounds_toArray, List.set_cons_zero, List.set_cons_succ]
  refine wpAnyH_ready (rs := [13]) (by kernel_rfl) (by simp) ?_
  refine (AllReadyH.cons rfl (fun K hK => ?_) AllReadyH.nil)
  go_simp
  refine (l6Cut_any x.u g2 c2 HC2.out _).mono ?_
  rintro e v_12 ⟨rfl, hb⟩
  replace F0 : Hid (HAt v_12 w.heap.size h) := F0.out.below hb F0.out.lt
  replace F1 : Hid (NW v_12 (w.heap.size + 1) x) := F1.out.below hb F1.out.lt
  replace F2 : Hid (SW v_12 (w.heap.size + 2) s) := F2.out.below hb F2.out.lt
  replace F3 : Hid (NW v_12 (w.heap.size + 3) (⟨⟨0, 0⟩, ⟨0, 0⟩⟩ : Ss)) := F3.out.below hb F3.out.lt
  replace FB : Hid (Below w.heap.size w v_12) := FB.out.trans (hb.mono FB.out.size)
  clear hb
  clear x0_0 x0_1 x0_2 x0_3 x0_4 x0_5 x0_6 x0_7 x0_8 x0_9 x0_10 x0_11 x1_0 x1_1 x1_2 x1_3 x2_0 x2_1 x2_2 x2_3 x2_4 x2_5
  obtain ⟨x0_0, x0_1, x0_2, x0_3, x0_4, x0_5, x0_6, x0_7, x0_8, x0_9, x0_10, x0_11⟩ := F0.out
  obtain ⟨x1_0, x1_1, x1_2, x1_3, y1_0, y1_1, y1_2, y1_3⟩ := F1.out
  obtain ⟨x2_0, x2_1, x2_2, x2_3, x2_4, x2_5, y2_0, y2_1, y2_2, y2_3, y2_4, y2_5⟩ := F2.out
  try dsimp only
  refine hK.out _ _ (by (try dsimp only); first | exact ⟨x0_0, x0_1, x0_2, x0_3, x0_4, x0_5, x0_6, x0_7, x0_8, x0_9, x0_10, x0_11, x1_0, x1_1, x1_2, x1_3, x2_0, x2_1, x2_2, x2_3, x2_4, x2_5⟩ | go_keep) (fun hHeld => ?_)
  clear hK K
  try simp only [Act.put, List.getElem_toArray, List.getElem_cons_succ, List.getElem_cons_zero, List.setIfInBounds_toArray, List.set_cons_zero, List.set_cons_succ]
  refine tkz 14 rfl ?_
  refine wpAnyH_ready (rs := [15]) (by kernel_rfl) (by simp) ?_
  refine (AllReadyH.cons rfl (fun K hK => ?_) AllReadyH.nil)
  obtain ⟨x3_0, x3_1, x3_2, x3_3, y3_0, y3_1, y3_2, y3_3⟩ := F3.out
  try dsimp only at x3_0 x3_1 x3_2 x3_3
  go_simp
  obtain ⟨v_13, hw2⟩ : ∃ v_13, v_13 = putN v_12 (w.heap.size + 3) (⟨c1, c2⟩ : Ss) := ⟨_, rfl⟩
  change K _ (putN v_12 (w.heap.size + 3) (⟨c1, c2⟩ : Ss))
  rw [← hw2]
  clear x3_0 x3_1 x3_2 x3_3 y3_0 y3_1 y3_2 y3_3
  replace F0 : Hid (HAt v_13 w.heap.size h) := by rw [hw2]; exact F0.out.below (below_putN (Below.refl _ _) (Nat.le_refl _) _) (by omega)
  replace F1 : Hid (NW v_13 (w.heap.size + 1) x) := by rw [hw2]; exact F1.out.below (below_putN (Below.refl _ _) (Nat.le_refl _) _) (by omega)
  replace F2 : Hid (SW v_13 (w.heap.size + 2) s) := by rw [hw2]; exact F2.out.below (below_putN (Below.refl _ _) (Nat.le_refl _) _) (by omega)
  replace F3 : Hid (NW v_13 (w.heap.size + 3) (⟨c1, c2⟩ : Ss)) := by rw [hw2]; exact F3.out.put _
  replace FB : Hid (Below w.heap.size w v_13) := by rw [hw2]; exact below_putN FB.out (by omega) _
  clear hw2
  clear x0_0 x0_1 x0_2 x0_3 x0_4 x0_5 x0_6 x0_7 x0_8 x0_9 x0_10 x0_11 x1_0 x1_1 x1_2 x1_3 x2_0 x2_1 x2_2 x2_3 x2_4 x2_5
  obtain ⟨x0_0, x0_1, x0_2, x0_3, x0_4, x0_5, x0_6, x0_7, x0_8, x0_9, x0_10, x0_11⟩ := F0.out
  obtain ⟨x1_0, x1_1, x1_2, x1_3, y1_0, y1_1, y1_2, y1_3⟩ := F1.out
  obtain ⟨x2_0, x2_1, x2_2, x2_3, x2_4, x2_5, y2_0, y2_1, y2_2, y2_3, y2_4, y2_5⟩ := F2.out
  refine hK.out _ _ (by (try dsimp only); first | exact ⟨x0_0, x0_1, x0_2, x0_3, x0_4, x0_5, x0_6, x0_7, x0_8, x0_9, x0_10, x0_11, x1_0, x1_1, x1_2, x1_3, x2_0, x2_1, x2_2, x2_3, x2_4, x2_5⟩ | go_keep) (fun hHeld => ?_)
  clear hK K
  try simp only [Act.put, List.getElem_toArray, List.getElem_cons_succ, List.getElem_cons_zero, List.setIfInBounds_toArray, List.set_cons_zero, List.set_cons_succ]
  refine wpAnyH_done (by kernel_rfl) ?_ _
  obtain ⟨x3_0, x3_1, x3_2, x3_3, -, -, -, -⟩ := F3.out
  try dsimp only at x3_0 x3_1 x3_2 x3_3
  go_wp2_with fail
  exact bodyPost_ret (v := .agg #[.int .i64 c1.lo, .int .i64 c1.hi, .int .i64 c2.lo, .int .i64 c2.hi]) (by simp [results, Try.results40, go_sem, x3_0, x3_1, x3_2, x3_3]) rfl ⟨rfl, FB.out⟩
set_option maxRecDepth 20000 in
set_option maxHeartbeats 8000000 in
theorem specReleaseSpans_any (h : Hs) (x : Ss) (s : Sh) (w : World) :
    Calls Try.prog 14 #[.agg #[.int .i64 h.fl, .int .i64 h.gp, .int .i64 h.ln, .int .i64 h.rf, .int .i64 h.sp, .int .i64 h.pu, .int .i64 h.br, .int .i64 h.dr, .int .i64 h.lv, .int .i64 h.dO, .int .i64 h.ld, .int .i64 h.qu], .agg #[.int .i64 x.l.lo, .int .i64 x.l.hi, .int .i64 x.u.lo, .int .i64 x.u.hi], .agg #[.int .i64 s.lo.pos, .int .i64 s.lo.vel, .int .i64 s.lo.door, .int .i64 s.up.pos, .int .i64 s.up.vel, .int .i64 s.up.door]] w (isSps w (Hs.relK h x s) (Hs.relV h x s)) := by
  have F0 : Hid (HAt ((((w.alloc (.cells #[.int .i64 h.fl, .int .i64 h.gp, .int .i64 h.ln, .int .i64 h.rf, .int .i64 h.sp, .int .i64 h.pu, .int .i64 h.br, .int .i64 h.dr, .int .i64 h.lv, .int .i64 h.dO, .int .i64 h.ld, .int .i64 h.qu] 25)).alloc (.cells #[.int .i64 x.l.lo, .int .i64 x.l.hi, .int .i64 x.u.lo, .int .i64 x.u.hi] 29)).alloc (.cells #[.int .i64 s.lo.pos, .int .i64 s.lo.vel, .int .i64 s.lo.door, .int .i64 s.up.pos, .int .i64 s.up.vel, .int .i64 s.up.door] 40)).alloc (.cells #[.int .i64 0, .int .i64 0, .int .i64 0, .int .i64 0, .int .i64 0] 33)) w.heap.size h) := (((HAt.at_ w h _ _ (by simp)).alloc _).alloc _).alloc _
  have F1 : Hid (NW ((((w.alloc (.cells #[.int .i64 h.fl, .int .i64 h.gp, .int .i64 h.ln, .int .i64 h.rf, .int .i64 h.sp, .int .i64 h.pu, .int .i64 h.br, .int .i64 h.dr, .int .i64 h.lv, .int .i64 h.dO, .int .i64 h.ld, .int .i64 h.qu] 25)).alloc (.cells #[.int .i64 x.l.lo, .int .i64 x.l.hi, .int .i64 x.u.lo, .int .i64 x.u.hi] 29)).alloc (.cells #[.int .i64 s.lo.pos, .int .i64 s.lo.vel, .int .i64 s.lo.door, .int .i64 s.up.pos, .int .i64 s.up.vel, .int .i64 s.up.door] 40)).alloc (.cells #[.int .i64 0, .int .i64 0, .int .i64 0, .int .i64 0, .int .i64 0] 33)) (w.heap.size + 1) x) := ((NW.at_ (w.alloc (.cells #[.int .i64 h.fl, .int .i64 h.gp, .int .i64 h.ln, .int .i64 h.rf, .int .i64 h.sp, .int .i64 h.pu, .int .i64 h.br, .int .i64 h.dr, .int .i64 h.lv, .int .i64 h.dO, .int .i64 h.ld, .int .i64 h.qu] 25)) x _ _ (by simp)).alloc _).alloc _
  have F2 : Hid (SW ((((w.alloc (.cells #[.int .i64 h.fl, .int .i64 h.gp, .int .i64 h.ln, .int .i64 h.rf, .int .i64 h.sp, .int .i64 h.pu, .int .i64 h.br, .int .i64 h.dr, .int .i64 h.lv, .int .i64 h.dO, .int .i64 h.ld, .int .i64 h.qu] 25)).alloc (.cells #[.int .i64 x.l.lo, .int .i64 x.l.hi, .int .i64 x.u.lo, .int .i64 x.u.hi] 29)).alloc (.cells #[.int .i64 s.lo.pos, .int .i64 s.lo.vel, .int .i64 s.lo.door, .int .i64 s.up.pos, .int .i64 s.up.vel, .int .i64 s.up.door] 40)).alloc (.cells #[.int .i64 0, .int .i64 0, .int .i64 0, .int .i64 0, .int .i64 0] 33)) (w.heap.size + 2) s) := (SW.at_ ((w.alloc (.cells #[.int .i64 h.fl, .int .i64 h.gp, .int .i64 h.ln, .int .i64 h.rf, .int .i64 h.sp, .int .i64 h.pu, .int .i64 h.br, .int .i64 h.dr, .int .i64 h.lv, .int .i64 h.dO, .int .i64 h.ld, .int .i64 h.qu] 25)).alloc (.cells #[.int .i64 x.l.lo, .int .i64 x.l.hi, .int .i64 x.u.lo, .int .i64 x.u.hi] 29)) s _ _ (by simp)).alloc _
  have F3 : Hid (RSps ((((w.alloc (.cells #[.int .i64 h.fl, .int .i64 h.gp, .int .i64 h.ln, .int .i64 h.rf, .int .i64 h.sp, .int .i64 h.pu, .int .i64 h.br, .int .i64 h.dr, .int .i64 h.lv, .int .i64 h.dO, .int .i64 h.ld, .int .i64 h.qu] 25)).alloc (.cells #[.int .i64 x.l.lo, .int .i64 x.l.hi, .int .i64 x.u.lo, .int .i64 x.u.hi] 29)).alloc (.cells #[.int .i64 s.lo.pos, .int .i64 s.lo.vel, .int .i64 s.lo.door, .int .i64 s.up.pos, .int .i64 s.up.vel, .int .i64 s.up.door] 40)).alloc (.cells #[.int .i64 0, .int .i64 0, .int .i64 0, .int .i64 0, .int .i64 0] 33)) (w.heap.size + 3)) := RSps.at_ (((w.alloc (.cells #[.int .i64 h.fl, .int .i64 h.gp, .int .i64 h.ln, .int .i64 h.rf, .int .i64 h.sp, .int .i64 h.pu, .int .i64 h.br, .int .i64 h.dr, .int .i64 h.lv, .int .i64 h.dO, .int .i64 h.ld, .int .i64 h.qu] 25)).alloc (.cells #[.int .i64 x.l.lo, .int .i64 x.l.hi, .int .i64 x.u.lo, .int .i64 x.u.hi] 29)).alloc (.cells #[.int .i64 s.lo.pos, .int .i64 s.lo.vel, .int .i64 s.lo.door, .int .i64 s.up.pos, .int .i64 s.up.vel, .int .i64 s.up.door] 40)) _ _ (by simp)
  have FB : Hid (Below w.heap.size w ((((w.alloc (.cells #[.int .i64 h.fl, .int .i64 h.gp, .int .i64 h.ln, .int .i64 h.rf, .int .i64 h.sp, .int .i64 h.pu, .int .i64 h.br, .int .i64 h.dr, .int .i64 h.lv, .int .i64 h.dO, .int .i64 h.ld, .int .i64 h.qu] 25)).alloc (.cells #[.int .i64 x.l.lo, .int .i64 x.l.hi, .int .i64 x.u.lo, .int .i64 x.u.hi] 29)).alloc (.cells #[.int .i64 s.lo.pos, .int .i64 s.lo.vel, .int .i64 s.lo.door, .int .i64 s.up.pos, .int .i64 s.up.vel, .int .i64 s.up.door] 40)).alloc (.cells #[.int .i64 0, .int .i64 0, .int .i64 0, .int .i64 0, .int .i64 0] 33))) := (((((Below.refl _ _).alloc (Nat.le_refl _) _).alloc (by simp <;> omega) _).alloc (by simp <;> omega) _).alloc (by simp <;> omega) _)
  by_cases hf : Hs.spans h x = 0
  · have q0 : Hs.relK h x s = h.shaft s := by unfold Hs.relK; rw [if_pos hf]
    by_cases hs : h.shaft s = 0
    · obtain ⟨y, hy⟩ : ∃ y, Hs.relS h x s = y := ⟨_, rfl⟩
      have q2 : Hs.relV h x s = y := by unfold Hs.relV; rw [q0, if_pos hs]; exact hy
      rw [q0, q2, hs]
      obtain ⟨k1, k2, _, _, _⟩ := shaft_parts hs
      have HL : Hid (CarOk h s.lo) := Hs.car_zero k1
      have HU : Hid (CarOk h s.up) := Hs.car_zero k2
      have HY : Hid (Hs.relS h x s = y) := hy
      clear q0 q2 hy k1 k2
      go_enter Try.func14, Try.ntmps14
      go_wp2_with (first | (go_at_call 18; refine (specSpansFault_any h x _).mono ?_; rw [hf]; rintro e w1 ⟨rfl, hb⟩; have F0 : Hid (HAt w1 w.heap.size h) := F0.out.below hb F0.out.lt; have F1 : Hid (NW w1 (w.heap.size + 1) x) := F1.out.below hb F1.out.lt; have F2 : Hid (SW w1 (w.heap.size + 2) s) := F2.out.below hb F2.out.lt; have F3 : Hid (RSps w1 (w.heap.size + 3)) := F3.out.below hb F3.out.lt; have FB : Hid (Below w.heap.size w w1) := FB.out.trans (hb.mono FB.out.size); obtain ⟨x0_0, x0_1, x0_2, x0_3, x0_4, x0_5, x0_6, x0_7, x0_8, x0_9, x0_10, x0_11⟩ := F0.out; obtain ⟨x1_0, x1_1, x1_2, x1_3, y1_0, y1_1, y1_2, y1_3⟩ := F1.out; obtain ⟨x2_0, x2_1, x2_2, x2_3, x2_4, x2_5, y2_0, y2_1, y2_2, y2_3, y2_4, y2_5⟩ := F2.out; obtain ⟨x3_0, x3_1, x3_2, x3_3, x3_4, y3_0, y3_1, y3_2, y3_3, y3_4⟩ := F3.out; clear hb) | (go_at_call 31; refine (specShaftFault_any h s _).mono ?_; rw [hs]; rintro e w2 ⟨rfl, hb⟩; have F0 : Hid (HAt w2 w.heap.size h) := F0.out.below hb F0.out.lt; have F1 : Hid (NW w2 (w.heap.size + 1) x) := F1.out.below hb F1.out.lt; have F2 : Hid (SW w2 (w.heap.size + 2) s) := F2.out.below hb F2.out.lt; have F3 : Hid (RSps w2 (w.heap.size + 3)) := F3.out.below hb F3.out.lt; have FB : Hid (Below w.heap.size w w2) := FB.out.trans (hb.mono FB.out.size); obtain ⟨x0_0, x0_1, x0_2, x0_3, x0_4, x0_5, x0_6, x0_7, x0_8, x0_9, x0_10, x0_11⟩ := F0.out; obtain ⟨x1_0, x1_1, x1_2, x1_3, y1_0, y1_1, y1_2, y1_3⟩ := F1.out; obtain ⟨x2_0, x2_1, x2_2, x2_3, x2_4, x2_5, y2_0, y2_1, y2_2, y2_3, y2_4, y2_5⟩ := F2.out; obtain ⟨x3_0, x3_1, x3_2, x3_3, x3_4, y3_0, y3_1, y3_2, y3_3, y3_4⟩ := F3.out; clear hb) | (go_at_call 40; refine (l6Release_any h x s HL.out HU.out y HY.out _).mono ?_; rintro e w3 ⟨rfl, hb⟩; have F0 : Hid (HAt w3 w.heap.size h) := F0.out.below hb F0.out.lt; have F1 : Hid (NW w3 (w.heap.size + 1) x) := F1.out.below hb F1.out.lt; have F2 : Hid (SW w3 (w.heap.size + 2) s) := F2.out.below hb F2.out.lt; have F3 : Hid (RSps w3 (w.heap.size + 3)) := F3.out.below hb F3.out.lt; have FB : Hid (Below w.heap.size w w3) := FB.out.trans (hb.mono FB.out.size); obtain ⟨x0_0, x0_1, x0_2, x0_3, x0_4, x0_5, x0_6, x0_7, x0_8, x0_9, x0_10, x0_11⟩ := F0.out; obtain ⟨x1_0, x1_1, x1_2, x1_3, y1_0, y1_1, y1_2, y1_3⟩ := F1.out; obtain ⟨x2_0, x2_1, x2_2, x2_3, x2_4, x2_5, y2_0, y2_1, y2_2, y2_3, y2_4, y2_5⟩ := F2.out; obtain ⟨x3_0, x3_1, x3_2, x3_3, x3_4, y3_0, y3_1, y3_2, y3_3, y3_4⟩ := F3.out; clear hb))
      exact bodyPost_ret (v := .agg #[.int .i64 0, .int .i64 y.l.lo, .int .i64 y.l.hi, .int .i64 y.u.lo, .int .i64 y.u.hi]) (by simp [results, Try.results14, go_sem, x3_0, x3_1, x3_2, x3_3, x3_4]) rfl ⟨rfl, by repeat (first | exact FB.out | (refine Below.setCell ?_ (by simp <;> omega) _))⟩
    · have q2 : Hs.relV h x s = ⟨⟨0, 0⟩, ⟨0, 0⟩⟩ := by unfold Hs.relV; rw [q0, if_neg hs]
      rw [q0, q2]
      have hn : (h.shaft s != 0) = true := by simpa using hs
      clear q0 q2 hs
      go_enter Try.func14, Try.ntmps14
      go_wp2_with (first | (go_at_call 18; refine (specSpansFault_any h x _).mono ?_; rw [hf]; rintro e w1 ⟨rfl, hb⟩; have F0 : Hid (HAt w1 w.heap.size h) := F0.out.below hb F0.out.lt; have F1 : Hid (NW w1 (w.heap.size + 1) x) := F1.out.below hb F1.out.lt; have F2 : Hid (SW w1 (w.heap.size + 2) s) := F2.out.below hb F2.out.lt; have F3 : Hid (RSps w1 (w.heap.size + 3)) := F3.out.below hb F3.out.lt; have FB : Hid (Below w.heap.size w w1) := FB.out.trans (hb.mono FB.out.size); obtain ⟨x0_0, x0_1, x0_2, x0_3, x0_4, x0_5, x0_6, x0_7, x0_8, x0_9, x0_10, x0_11⟩ := F0.out; obtain ⟨x1_0, x1_1, x1_2, x1_3, y1_0, y1_1, y1_2, y1_3⟩ := F1.out; obtain ⟨x2_0, x2_1, x2_2, x2_3, x2_4, x2_5, y2_0, y2_1, y2_2, y2_3, y2_4, y2_5⟩ := F2.out; obtain ⟨x3_0, x3_1, x3_2, x3_3, x3_4, y3_0, y3_1, y3_2, y3_3, y3_4⟩ := F3.out; clear hb) | (go_at_call 31; refine (specShaftFault_any h s _).mono ?_; rintro e w2 ⟨rfl, hb⟩; have F0 : Hid (HAt w2 w.heap.size h) := F0.out.below hb F0.out.lt; have F1 : Hid (NW w2 (w.heap.size + 1) x) := F1.out.below hb F1.out.lt; have F2 : Hid (SW w2 (w.heap.size + 2) s) := F2.out.below hb F2.out.lt; have F3 : Hid (RSps w2 (w.heap.size + 3)) := F3.out.below hb F3.out.lt; have FB : Hid (Below w.heap.size w w2) := FB.out.trans (hb.mono FB.out.size); obtain ⟨x0_0, x0_1, x0_2, x0_3, x0_4, x0_5, x0_6, x0_7, x0_8, x0_9, x0_10, x0_11⟩ := F0.out; obtain ⟨x1_0, x1_1, x1_2, x1_3, y1_0, y1_1, y1_2, y1_3⟩ := F1.out; obtain ⟨x2_0, x2_1, x2_2, x2_3, x2_4, x2_5, y2_0, y2_1, y2_2, y2_3, y2_4, y2_5⟩ := F2.out; obtain ⟨x3_0, x3_1, x3_2, x3_3, x3_4, y3_0, y3_1, y3_2, y3_3, y3_4⟩ := F3.out; clear hb))
      exact bodyPost_ret (v := .agg #[.int .i64 (h.shaft s), .int .i64 0, .int .i64 0, .int .i64 0, .int .i64 0]) (by simp [results, Try.results14, go_sem, x3_0, x3_1, x3_2, x3_3, x3_4]) rfl ⟨rfl, by repeat (first | exact FB.out | (refine Below.setCell ?_ (by simp <;> omega) _))⟩
  · have q0 : Hs.relK h x s = Hs.spans h x := by unfold Hs.relK; rw [if_neg hf]
    have q2 : Hs.relV h x s = ⟨⟨0, 0⟩, ⟨0, 0⟩⟩ := by unfold Hs.relV; rw [q0, if_neg hf]
    rw [q0, q2]
    have hn : (Hs.spans h x != 0) = true := by simpa using hf
    clear q0 q2 hf
    go_enter Try.func14, Try.ntmps14
    go_wp2_with (go_at_call 18; refine (specSpansFault_any h x _).mono ?_; rintro e w1 ⟨rfl, hb⟩; have F0 : Hid (HAt w1 w.heap.size h) := F0.out.below hb F0.out.lt; have F1 : Hid (NW w1 (w.heap.size + 1) x) := F1.out.below hb F1.out.lt; have F2 : Hid (SW w1 (w.heap.size + 2) s) := F2.out.below hb F2.out.lt; have F3 : Hid (RSps w1 (w.heap.size + 3)) := F3.out.below hb F3.out.lt; have FB : Hid (Below w.heap.size w w1) := FB.out.trans (hb.mono FB.out.size); obtain ⟨x0_0, x0_1, x0_2, x0_3, x0_4, x0_5, x0_6, x0_7, x0_8, x0_9, x0_10, x0_11⟩ := F0.out; obtain ⟨x1_0, x1_1, x1_2, x1_3, y1_0, y1_1, y1_2, y1_3⟩ := F1.out; obtain ⟨x2_0, x2_1, x2_2, x2_3, x2_4, x2_5, y2_0, y2_1, y2_2, y2_3, y2_4, y2_5⟩ := F2.out; obtain ⟨x3_0, x3_1, x3_2, x3_3, x3_4, y3_0, y3_1, y3_2, y3_3, y3_4⟩ := F3.out; clear hb)
    exact bodyPost_ret (v := .agg #[.int .i64 (Hs.spans h x), .int .i64 0, .int .i64 0, .int .i64 0, .int .i64 0]) (by simp [results, Try.results14, go_sem, x3_0, x3_1, x3_2, x3_3, x3_4]) rfl ⟨rfl, by repeat (first | exact FB.out | (refine Below.setCell ?_ (by simp <;> omega) _))⟩
end Go.Proofs.Ytpfihpplpefikaa
