/-
  The model's spans: how they grow; ExtendSpans.
-/
import Derived.Test.YtpfihpplpefikaaSpanA
import Derived.Deep.DeepCutAuto
namespace Go.Proofs.Ytpfihpplpefikaa
open Go.RowKit Pl
set_option linter.unusedSimpArgs false
set_option linter.unusedVariables false

set_option maxRecDepth 20000 in
set_option maxHeartbeats 16000000 in
theorem l6Extend_any (x : Ss) (a b : Int) (a1 : -1000 ≤ x.l.hi) (a2 : x.l.hi ≤ 1000) (a3 : -1000 ≤ x.u.lo) (a4 : x.u.lo ≤ 1000) (a5 : -1000 ≤ a) (a6 : a ≤ 1000) (y : Ss) (hy : extS x a b = y) (w : World) :
    Calls Try.prog 27 #[.agg #[.int .i64 x.l.lo, .int .i64 x.l.hi, .int .i64 x.u.lo, .int .i64 x.u.hi], .int .i64 a, .int .i64 b] w fun e w' => e = .returned (.agg #[.int .i64 y.l.lo, .int .i64 y.l.hi, .int .i64 y.u.lo, .int .i64 y.u.hi]) ∧ Below w.heap.size w w' := by
  obtain ⟨p0, hp0⟩ : ∃ p0, (min x.l.lo a) = p0 := ⟨_, rfl⟩
  obtain ⟨p1, hp1⟩ : ∃ p1, (max x.l.hi (min a (x.u.lo - 1))) = p1 := ⟨_, rfl⟩
  obtain ⟨p3, hp3⟩ : ∃ p3, (max x.u.hi b) = p3 := ⟨_, rfl⟩
  obtain ⟨p2, hp2⟩ : ∃ p2, (min x.u.lo (max b (p1 + 1))) = p2 := ⟨_, rfl⟩
  unfold extS at hy
  rw [hp0, hp1, hp3, hp2] at hy
  subst hy
  have e1 : IntKind.i64.wrap (x.u.lo - 1) = x.u.lo - 1 := IntWalk.i64_in _ (by omega)
  have e2 : IntKind.i64.wrap (p1 + 1) = p1 + 1 := IntWalk.i64_in _ (by omega)
  have F0 : Hid (NW ((w.alloc (.cells #[.int .i64 x.l.lo, .int .i64 x.l.hi, .int .i64 x.u.lo, .int .i64 x.u.hi] 29)).alloc (.cells #[.int .i64 0, .int .i64 0, .int .i64 0, .int .i64 0] 29)) w.heap.size x) := (NW.at_ w x _ _ (by simp)).alloc _
  have F1 : Hid (NW ((w.alloc (.cells #[.int .i64 x.l.lo, .int .i64 x.l.hi, .int .i64 x.u.lo, .int .i64 x.u.hi] 29)).alloc (.cells #[.int .i64 0, .int .i64 0, .int .i64 0, .int .i64 0] 29)) (w.heap.size + 1) (⟨⟨0, 0⟩, ⟨0, 0⟩⟩ : Ss)) := NW.at_ _ (⟨⟨0, 0⟩, ⟨0, 0⟩⟩ : Ss) _ _ (by simp)
  have FB : Hid (Below w.heap.size w ((w.alloc (.cells #[.int .i64 x.l.lo, .int .i64 x.l.hi, .int .i64 x.u.lo, .int .i64 x.u.hi] 29)).alloc (.cells #[.int .i64 0, .int .i64 0, .int .i64 0, .int .i64 0] 29))) := ((Below.refl _ _).alloc (Nat.le_refl _) _).alloc (by simp) _
  obtain ⟨W0, hW0⟩ : ∃ W0, W0 = ((w.alloc (.cells #[.int .i64 x.l.lo, .int .i64 x.l.hi, .int .i64 x.u.lo, .int .i64 x.u.hi] 29)).alloc (.cells #[.int .i64 0, .int .i64 0, .int .i64 0, .int .i64 0] 29)) := ⟨_, rfl⟩
  rw [← hW0] at F0 F1 FB
  have HW0 : Hid (W0 = ((w.alloc (.cells #[.int .i64 x.l.lo, .int .i64 x.l.hi, .int .i64 x.u.lo, .int .i64 x.u.hi] 29)).alloc (.cells #[.int .i64 0, .int .i64 0, .int .i64 0, .int .i64 0] 29))) := hW0
  clear hW0 a1 a2 a3 a4 a5 a6
  go_enter Try.func27, Try.ntmps27
  go_upto_region 1 with fail
  rw [← HW0.out]
  clear HW0
  obtain ⟨x0_0, x0_1, x0_2, x0_3, y0_0, y0_1, y0_2, y0_3⟩ := F0.out
  go_upto_region 2 with (go_at_call 44; refine (l1Min_any _ _ _).mono ?_; rw [hp0]; rintro e w' ⟨rfl, hw⟩; obtain rfl := hw.symm; clear hw)
  clear x0_0 x0_1 x0_2 x0_3 y0_0 y0_1 y0_2 y0_3
  obtain ⟨W1, hw_⟩ : ∃ W1, W1 = W0.setCell ⟨w.heap.size, 0, none⟩ (.int .i64 p0) := ⟨_, rfl⟩
  rw [← hw_]
  have F0 : Hid (NW W1 w.heap.size (⟨⟨p0, x.l.hi⟩, ⟨x.u.lo, x.u.hi⟩⟩ : Ss)) := by rw [hw_]; exact F0.out.set0 p0
  have F1 : Hid (NW W1 (w.heap.size + 1) (⟨⟨0, 0⟩, ⟨0, 0⟩⟩ : Ss)) := by rw [hw_]; exact F1.out.other (by omega)
  have FB : Hid (Below w.heap.size w W1) := by rw [hw_]; exact FB.out.setCell (Nat.le_refl _) _
  clear hw_
  go_cut [3] (fun t wx => t = .pointer (some ⟨w.heap.size, 0, none⟩) ∧ NW wx w.heap.size (⟨⟨p0, p1⟩, ⟨x.u.lo, x.u.hi⟩⟩ : Ss) ∧ NW wx (w.heap.size + 1) (⟨⟨0, 0⟩, ⟨0, 0⟩⟩ : Ss) ∧ Below w.heap.size w wx)
  case first =>
    have F0 : Hid (NW W1.drew w.heap.size (⟨⟨p0, x.l.hi⟩, ⟨x.u.lo, x.u.hi⟩⟩ : Ss)) := F0.out.below (Below.refl _ _).drew F0.out.lt
    have F1 : Hid (NW W1.drew (w.heap.size + 1) (⟨⟨0, 0⟩, ⟨0, 0⟩⟩ : Ss)) := F1.out.below (Below.refl _ _).drew F1.out.lt
    have FB : Hid (Below w.heap.size w W1.drew) := FB.out.drew
    have m0 := F0.out.c0
    have m2 := F0.out.c2
    have m3 := F0.out.c3
    refine wp_region_held_drew (S := (fun w'' => w''.cell? ⟨w.heap.size, 0, none⟩ = some (.int .i64 p0) ∧ w''.cell? ⟨w.heap.size, 2, none⟩ = some (.int .i64 x.u.lo) ∧ w''.cell? ⟨w.heap.size, 3, none⟩ = some (.int .i64 x.u.hi))) (by kernel_rfl) (by (try dsimp only); first | exact ⟨m0, m2, m3⟩ | go_keep) (fun hHeld => ?_)
    obtain ⟨v_1, hw1⟩ : ∃ v_1, v_1 = W1.drew := ⟨_, rfl⟩
    have F0 : Hid (NW v_1 w.heap.size (⟨⟨p0, x.l.hi⟩, ⟨x.u.lo, x.u.hi⟩⟩ : Ss)) := by rw [hw1]; exact F0.out
    have F1 : Hid (NW v_1 (w.heap.size + 1) (⟨⟨0, 0⟩, ⟨0, 0⟩⟩ : Ss)) := by rw [hw1]; exact F1.out
    have FB : Hid (Below w.heap.size w v_1) := by rw [hw1]; exact FB.out
    rw [← hw1] at hHeld ⊢
    clear hw1
    have m0 := F0.out.c0
    have m2 := F0.out.c2
    have m3 := F0.out.c3
    refine tkz 0 rfl ?_
    refine tkz 1 rfl ?_
    refine tkz 3 rfl ?_
    refine tkz 4 rfl ?_
    refine tkz 5 rfl ?_
    refine tkz 6 rfl ?_
    refine tkz 7 rfl ?_
    refine wpAnyH_ready (rs := [2, 8]) (by kernel_rfl) (by simp) ?_
    refine (AllReadyH.cons rfl (fun K hK => ?_) (AllReadyH.cons rfl (fun K hK => ?_) AllReadyH.nil))
    · obtain ⟨x0_0, x0_1, x0_2, x0_3, y0_0, y0_1, y0_2, y0_3⟩ := F0.out
      try dsimp only at x0_0 x0_1 x0_2 x0_3
      go_simp
      refine hK.out _ _ (by (try dsimp only); first | exact ⟨m0, m2, m3⟩ | go_keep) (fun hHeld => ?_)
      clear hK K
      try simp only [Act.put, List.getElem_toArray, List.getElem_cons_succ, List.getElem_cons_zero, List.setIfInBounds_toArray, List.set_cons_zero, List.set_cons_succ]
      refine wpAnyH_ready (rs := [8]) (by kernel_rfl) (by simp) ?_
      refine (AllReadyH.cons rfl (fun K hK => ?_) AllReadyH.nil)
      go_simp
      refine (l1Min_any _ _ _).mono ?_
      rintro e w_ ⟨rfl, hw⟩
      obtain rfl := hw.symm
      clear hw
      try dsimp only
      refine hK.out _ _ (by (try dsimp only); first | exact ⟨m0, m2, m3⟩ | go_keep) (fun hHeld => ?_)
      clear hK K
      try simp only [Act.put, List.getElem_toArray, List.getElem_cons_succ, List.getElem_cons_zero, List.setIfInBounds_toArray, List.set_cons_zero, List.set_cons_succ]
      refine wpAnyH_ready (rs := [9]) (by kernel_rfl) (by simp) ?_
      refine (AllReadyH.cons rfl (fun K hK => ?_) AllReadyH.nil)
      go_simp
      refine (l1Max_any _ _ _).mono ?_
      rintro e w_ ⟨rfl, hw⟩
      obtain rfl := hw.symm
      clear hw
      rw [hp1]
      try dsimp only
      refine hK.out _ _ (by (try dsimp only); first | exact ⟨m0, m2, m3⟩ | go_keep) (fun hHeld => ?_)
      clear hK K
      try simp only [Act.put, List.getElem_toArray, List.getElem_cons_succ, List.getElem_cons_zero, List.setIfInBounds_toArray, List.set_cons_zero, List.set_cons_succ]
      refine tkz 10 rfl ?_
      refine tkz 11 rfl ?_
      refine wpAnyH_ready (rs := [12]) (by kernel_rfl) (by simp) ?_
      refine (AllReadyH.cons rfl (fun K hK => ?_) AllReadyH.nil)
      obtain ⟨x0_0, x0_1, x0_2, x0_3, y0_0, y0_1, y0_2, y0_3⟩ := F0.out
      try dsimp only at x0_0 x0_1 x0_2 x0_3
      go_simp
      obtain ⟨v_2, hw2⟩ : ∃ v_2, v_2 = v_1.setCell ⟨w.heap.size, 1, none⟩ (.int .i64 p1) := ⟨_, rfl⟩
      change K _ (v_1.setCell ⟨w.heap.size, 1, none⟩ (.int .i64 p1))
      rw [← hw2]
      clear x0_0 x0_1 x0_2 x0_3 y0_0 y0_1 y0_2 y0_3
      have F0 : Hid (NW v_2 w.heap.size (⟨⟨p0, p1⟩, ⟨x.u.lo, x.u.hi⟩⟩ : Ss)) := by rw [hw2]; exact F0.out.set1 p1
      have F1 : Hid (NW v_2 (w.heap.size + 1) (⟨⟨0, 0⟩, ⟨0, 0⟩⟩ : Ss)) := by rw [hw2]; exact F1.out.other (by omega)
      have FB : Hid (Below w.heap.size w v_2) := by rw [hw2]; exact FB.out.setCell (Nat.le_refl _) _
      clear hw2
      have m0 := F0.out.c0
      have m2 := F0.out.c2
      have m3 := F0.out.c3
      refine hK.out _ _ (by (try dsimp only); first | exact ⟨m0, m2, m3⟩ | go_keep) (fun hHeld => ?_)
      clear hK K
      try simp only [Act.put, List.getElem_toArray, List.getElem_cons_succ, List.getElem_cons_zero, List.setIfInBounds_toArray, List.set_cons_zero, List.set_cons_succ]
      refine wpAnyH_done (by kernel_rfl) ?_ _
      go_wp2_with fail
      go_meet
      case rel => exact ⟨rfl, F0.out, F1.out, FB.out⟩
    · go_simp
      refine (l1Min_any _ _ _).mono ?_
      rintro e w_ ⟨rfl, hw⟩
      obtain rfl := hw.symm
      clear hw
      try dsimp only
      refine hK.out _ _ (by (try dsimp only); first | exact ⟨m0, m2, m3⟩ | go_keep) (fun hHeld => ?_)
      clear hK K
      try simp only [Act.put, List.getElem_toArray, List.getElem_cons_succ, List.getElem_cons_zero, List.setIfInBounds_toArray, List.set_cons_zero, List.set_cons_succ]
      refine wpAnyH_ready (rs := [2]) (by kernel_rfl) (by simp) ?_
      refine (AllReadyH.cons rfl (fun K hK => ?_) AllReadyH.nil)
      obtain ⟨x0_0, x0_1, x0_2, x0_3, y0_0, y0_1, y0_2, y0_3⟩ := F0.out
      try dsimp only at x0_0 x0_1 x0_2 x0_3
      go_simp
      refine hK.out _ _ (by (try dsimp only); first | exact ⟨m0, m2, m3⟩ | go_keep) (fun hHeld => ?_)
      clear hK K
      try simp only [Act.put, List.getElem_toArray, List.getElem_cons_succ, List.getElem_cons_zero, List.setIfInBounds_toArray, List.set_cons_zero, List.set_cons_succ]
      refine wpAnyH_ready (rs := [9]) (by kernel_rfl) (by simp) ?_
      refine (AllReadyH.cons rfl (fun K hK => ?_) AllReadyH.nil)
      go_simp
      refine (l1Max_any _ _ _).mono ?_
      rintro e w_ ⟨rfl, hw⟩
      obtain rfl := hw.symm
      clear hw
      rw [hp1]
      try dsimp only
      refine hK.out _ _ (by (try dsimp only); first | exact ⟨m0, m2, m3⟩ | go_keep) (fun hHeld => ?_)
      clear hK K
      try simp only [Act.put, List.getElem_toArray, List.getElem_cons_succ, List.getElem_cons_zero, List.setIfInBounds_toArray, List.set_cons_zero, List.set_cons_succ]
      refine tkz 10 rfl ?_
      refine tkz 11 rfl ?_
      refine wpAnyH_ready (rs := [12]) (by kernel_rfl) (by simp) ?_
      refine (AllReadyH.cons rfl (fun K hK => ?_) AllReadyH.nil)
      obtain ⟨x0_0, x0_1, x0_2, x0_3, y0_0, y0_1, y0_2, y0_3⟩ := F0.out
      try dsimp only at x0_0 x0_1 x0_2 x0_3
      go_simp
      obtain ⟨v_3, hw2⟩ : ∃ v_3, v_3 = v_1.setCell ⟨w.heap.size, 1, none⟩ (.int .i64 p1) := ⟨_, rfl⟩
      change K _ (v_1.setCell ⟨w.heap.size, 1, none⟩ (.int .i64 p1))
      rw [← hw2]
      clear x0_0 x0_1 x0_2 x0_3 y0_0 y0_1 y0_2 y0_3
      have F0 : Hid (NW v_3 w.heap.size (⟨⟨p0, p1⟩, ⟨x.u.lo, x.u.hi⟩⟩ : Ss)) := by rw [hw2]; exact F0.out.set1 p1
      have F1 : Hid (NW v_3 (w.heap.size + 1) (⟨⟨0, 0⟩, ⟨0, 0⟩⟩ : Ss)) := by rw [hw2]; exact F1.out.other (by omega)
      have FB : Hid (Below w.heap.size w v_3) := by rw [hw2]; exact FB.out.setCell (Nat.le_refl _) _
      clear hw2
      have m0 := F0.out.c0
      have m2 := F0.out.c2
      have m3 := F0.out.c3
      refine hK.out _ _ (by (try dsimp only); first | exact ⟨m0, m2, m3⟩ | go_keep) (fun hHeld => ?_)
      clear hK K
      try simp only [Act.put, List.getElem_toArray, List.getElem_cons_succ, List.getElem_cons_zero, List.setIfInBounds_toArray, List.set_cons_zero, List.set_cons_succ]
      refine wpAnyH_done (by kernel_rfl) ?_ _
      go_wp2_with fail
      go_meet
      case rel => exact ⟨rfl, F0.out, F1.out, FB.out⟩
  case rest =>
    obtain ⟨rfl, h0, h1, h2⟩ := hcut
    have F0 : Hid (NW wc w.heap.size (⟨⟨p0, p1⟩, ⟨x.u.lo, x.u.hi⟩⟩ : Ss)) := h0
    have F1 : Hid (NW wc (w.heap.size + 1) (⟨⟨0, 0⟩, ⟨0, 0⟩⟩ : Ss)) := h1
    have FB : Hid (Below w.heap.size w wc) := h2
    clear h0 h1 h2
    obtain ⟨x0_0, x0_1, x0_2, x0_3, y0_0, y0_1, y0_2, y0_3⟩ := F0.out
    try dsimp only at x0_0 x0_1 x0_2 x0_3
    go_upto_region 4 with (go_at_call 47; refine (l1Max_any _ _ _).mono ?_; rw [hp3]; rintro e w' ⟨rfl, hw⟩; obtain rfl := hw.symm; clear hw)
    clear x0_0 x0_1 x0_2 x0_3 y0_0 y0_1 y0_2 y0_3
    obtain ⟨W3, hw_⟩ : ∃ W3, W3 = wc.setCell ⟨w.heap.size, 3, none⟩ (.int .i64 p3) := ⟨_, rfl⟩
    rw [← hw_]
    have F0 : Hid (NW W3 w.heap.size (⟨⟨p0, p1⟩, ⟨x.u.lo, p3⟩⟩ : Ss)) := by rw [hw_]; exact F0.out.set3 p3
    have F1 : Hid (NW W3 (w.heap.size + 1) (⟨⟨0, 0⟩, ⟨0, 0⟩⟩ : Ss)) := by rw [hw_]; exact F1.out.other (by omega)
    have FB : Hid (Below w.heap.size w W3) := by rw [hw_]; exact FB.out.setCell (Nat.le_refl _) _
    clear hw_
    go_cut [3] (fun t wx => t = .pointer (some ⟨w.heap.size, 0, none⟩) ∧ NW wx w.heap.size (⟨⟨p0, p1⟩, ⟨p2, p3⟩⟩ : Ss) ∧ NW wx (w.heap.size + 1) (⟨⟨0, 0⟩, ⟨0, 0⟩⟩ : Ss) ∧ Below w.heap.size w wx)
    case first =>
      have F0 : Hid (NW W3.drew w.heap.size (⟨⟨p0, p1⟩, ⟨x.u.lo, p3⟩⟩ : Ss)) := F0.out.below (Below.refl _ _).drew F0.out.lt
      have F1 : Hid (NW W3.drew (w.heap.size + 1) (⟨⟨0, 0⟩, ⟨0, 0⟩⟩ : Ss)) := F1.out.below (Below.refl _ _).drew F1.out.lt
      have FB : Hid (Below w.heap.size w W3.drew) := FB.out.drew
      have m0 := F0.out.c0
      have m1 := F0.out.c1
      have m3 := F0.out.c3
      refine wp_region_held_drew (S := (fun w'' => w''.cell? ⟨w.heap.size, 0, none⟩ = some (.int .i64 p0) ∧ w''.cell? ⟨w.heap.size, 1, none⟩ = some (.int .i64 p1) ∧ w''.cell? ⟨w.heap.size, 3, none⟩ = some (.int .i64 p3))) (by kernel_rfl) (by (try dsimp only); first | exact ⟨m0, m1, m3⟩ | go_keep) (fun hHeld => ?_)
      obtain ⟨v_4, hw1⟩ : ∃ v_4, v_4 = W3.drew := ⟨_, rfl⟩
      have F0 : Hid (NW v_4 w.heap.size (⟨⟨p0, p1⟩, ⟨x.u.lo, p3⟩⟩ : Ss)) := by rw [hw1]; exact F0.out
      have F1 : Hid (NW v_4 (w.heap.size + 1) (⟨⟨0, 0⟩, ⟨0, 0⟩⟩ : Ss)) := by rw [hw1]; exact F1.out
      have FB : Hid (Below w.heap.size w v_4) := by rw [hw1]; exact FB.out
      rw [← hw1] at hHeld ⊢
      clear hw1
      have m0 := F0.out.c0
      have m1 := F0.out.c1
      have m3 := F0.out.c3
      refine tkz 0 rfl ?_
      refine tkz 1 rfl ?_
      refine tkz 3 rfl ?_
      refine tkz 4 rfl ?_
      refine tkz 5 rfl ?_
      refine tkz 6 rfl ?_
      refine tkz 7 rfl ?_
      refine wpAnyH_ready (rs := [2, 8]) (by kernel_rfl) (by simp) ?_
      refine (AllReadyH.cons rfl (fun K hK => ?_) (AllReadyH.cons rfl (fun K hK => ?_) AllReadyH.nil))
      · obtain ⟨x0_0, x0_1, x0_2, x0_3, y0_0, y0_1, y0_2, y0_3⟩ := F0.out
        try dsimp only at x0_0 x0_1 x0_2 x0_3
        go_simp
        refine hK.out _ _ (by (try dsimp only); first | exact ⟨m0, m1, m3⟩ | go_keep) (fun hHeld => ?_)
        clear hK K
        try simp only [Act.put, List.getElem_toArray, List.getElem_cons_succ, List.getElem_cons_zero, List.setIfInBounds_toArray, List.set_cons_zero, List.set_cons_succ]
        refine wpAnyH_ready (rs := [8]) (by kernel_rfl) (by simp) ?_
        refine (AllReadyH.cons rfl (fun K hK => ?_) AllReadyH.nil)
        go_simp
        refine (l1Max_any _ _ _).mono ?_
        rintro e w_ ⟨rfl, hw⟩
        obtain rfl := hw.symm
        clear hw
        try dsimp only
        refine hK.out _ _ (by (try dsimp only); first | exact ⟨m0, m1, m3⟩ | go_keep) (fun hHeld => ?_)
        clear hK K
        try simp only [Act.put, List.getElem_toArray, List.getElem_cons_succ, List.getElem_cons_zero, List.setIfInBounds_toArray, List.set_cons_zero, List.set_cons_succ]
        refine wpAnyH_ready (rs := [9]) (by kernel_rfl) (by simp) ?_
        refine (AllReadyH.cons rfl (fun K hK => ?_) AllReadyH.nil)
        go_simp
        refine (l1Min_any _ _ _).mono ?_
        rintro e w_ ⟨rfl, hw⟩
        obtain rfl := hw.symm
        clear hw
        rw [hp2]
        try dsimp only
        refine hK.out _ _ (by (try dsimp only); first | exact ⟨m0, m1, m3⟩ | go_keep) (fun hHeld => ?_)
        clear hK K
        try simp only [Act.put, List.getElem_toArray, List.getElem_cons_succ, List.getElem_cons_zero, List.setIfInBounds_toArray, List.set_cons_zero, List.set_cons_succ]
        refine tkz 10 rfl ?_
        refine tkz 11 rfl ?_
        refine wpAnyH_ready (rs := [12]) (by kernel_rfl) (by simp) ?_
        refine (AllReadyH.cons rfl (fun K hK => ?_) AllReadyH.nil)
        obtain ⟨x0_0, x0_1, x0_2, x0_3, y0_0, y0_1, y0_2, y0_3⟩ := F0.out
        try dsimp only at x0_0 x0_1 x0_2 x0_3
        go_simp
        obtain ⟨v_5, hw2⟩ : ∃ v_5, v_5 = v_4.setCell ⟨w.heap.size, 2, none⟩ (.int .i64 p2) := ⟨_, rfl⟩
        change K _ (v_4.setCell ⟨w.heap.size, 2, none⟩ (.int .i64 p2))
        rw [← hw2]
        clear x0_0 x0_1 x0_2 x0_3 y0_0 y0_1 y0_2 y0_3
        have F0 : Hid (NW v_5 w.heap.size (⟨⟨p0, p1⟩, ⟨p2, p3⟩⟩ : Ss)) := by rw [hw2]; exact F0.out.set2 p2
        have F1 : Hid (NW v_5 (w.heap.size + 1) (⟨⟨0, 0⟩, ⟨0, 0⟩⟩ : Ss)) := by rw [hw2]; exact F1.out.other (by omega)
        have FB : Hid (Below w.heap.size w v_5) := by rw [hw2]; exact FB.out.setCell (Nat.le_refl _) _
        clear hw2
        have m0 := F0.out.c0
        have m1 := F0.out.c1
        have m3 := F0.out.c3
        refine hK.out _ _ (by (try dsimp only); first | exact ⟨m0, m1, m3⟩ | go_keep) (fun hHeld => ?_)
        clear hK K
        try simp only [Act.put, List.getElem_toArray, List.getElem_cons_succ, List.getElem_cons_zero, List.setIfInBounds_toArray, List.set_cons_zero, List.set_cons_succ]
        refine wpAnyH_done (by kernel_rfl) ?_ _
        go_wp2_with fail
        go_meet
        case rel => exact ⟨rfl, F0.out, F1.out, FB.out⟩
      · go_simp
        refine (l1Max_any _ _ _).mono ?_
        rintro e w_ ⟨rfl, hw⟩
        obtain rfl := hw.symm
        clear hw
        try dsimp only
        refine hK.out _ _ (by (try dsimp only); first | exact ⟨m0, m1, m3⟩ | go_keep) (fun hHeld => ?_)
        clear hK K
        try simp only [Act.put, List.getElem_toArray, List.getElem_cons_succ, List.getElem_cons_zero, List.setIfInBounds_toArray, List.set_cons_zero, List.set_cons_succ]
        refine wpAnyH_ready (rs := [2]) (by kernel_rfl) (by simp) ?_
        refine (AllReadyH.cons rfl (fun K hK => ?_) AllReadyH.nil)
        obtain ⟨x0_0, x0_1, x0_2, x0_3, y0_0, y0_1, y0_2, y0_3⟩ := F0.out
        try dsimp only at x0_0 x0_1 x0_2 x0_3
        go_simp
        refine hK.out _ _ (by (try dsimp only); first | exact ⟨m0, m1, m3⟩ | go_keep) (fun hHeld => ?_)
        clear hK K
        try simp only [Act.put, List.getElem_toArray, List.getElem_cons_succ, List.getElem_cons_zero, List.setIfInBounds_toArray, List.set_cons_zero, List.set_cons_succ]
        refine wpAnyH_ready (rs := [9]) (by kernel_rfl) (by simp) ?_
        refine (AllReadyH.cons rfl (fun K hK => ?_) AllReadyH.nil)
        go_simp
        refine (l1Min_any _ _ _).mono ?_
        rintro e w_ ⟨rfl, hw⟩
        obtain rfl := hw.symm
        clear hw
        rw [hp2]
        try dsimp only
        refine hK.out _ _ (by (try dsimp only); first | exact ⟨m0, m1, m3⟩ | go_keep) (fun hHeld => ?_)
        clear hK K
        try simp only [Act.put, List.getElem_toArray, List.getElem_cons_succ, List.getElem_cons_zero, List.setIfInBounds_toArray, List.set_cons_zero, List.set_cons_succ]
        refine tkz 10 rfl ?_
        refine tkz 11 rfl ?_
        refine wpAnyH_ready (rs := [12]) (by kernel_rfl) (by simp) ?_
        refine (AllReadyH.cons rfl (fun K hK => ?_) AllReadyH.nil)
        obtain ⟨x0_0, x0_1, x0_2, x0_3, y0_0, y0_1, y0_2, y0_3⟩ := F0.out
        try dsimp only at x0_0 x0_1 x0_2 x0_3
        go_simp
        obtain ⟨v_6, hw2⟩ : ∃ v_6, v_6 = v_4.setCell ⟨w.heap.size, 2, none⟩ (.int .i64 p2) := ⟨_, rfl⟩
        change K _ (v_4.setCell ⟨w.heap.size, 2, none⟩ (.int .i64 p2))
        rw [← hw2]
        clear x0_0 x0_1 x0_2 x0_3 y0_0 y0_1 y0_2 y0_3
        have F0 : Hid (NW v_6 w.heap.size (⟨⟨p0, p1⟩, ⟨p2, p3⟩⟩ : Ss)) := by rw [hw2]; exact F0.out.set2 p2
        have F1 : Hid (NW v_6 (w.heap.size + 1) (⟨⟨0, 0⟩, ⟨0, 0⟩⟩ : Ss)) := by rw [hw2]; exact F1.out.other (by omega)
        have FB : Hid (Below w.heap.size w v_6) := by rw [hw2]; exact FB.out.setCell (Nat.le_refl _) _
        clear hw2
        have m0 := F0.out.c0
        have m1 := F0.out.c1
        have m3 := F0.out.c3
        refine hK.out _ _ (by (try dsimp only); first | exact ⟨m0, m1, m3⟩ | go_keep) (fun hHeld => ?_)
        clear hK K
        try simp only [Act.put, List.getElem_toArray, List.getElem_cons_succ, List.getElem_cons_zero, List.setIfInBounds_toArray, List.set_cons_zero, List.set_cons_succ]
        refine wpAnyH_done (by kernel_rfl) ?_ _
        go_wp2_with fail
        go_meet
        case rel => exact ⟨rfl, F0.out, F1.out, FB.out⟩
    case rest =>
      obtain ⟨rfl, h0, h1, h2⟩ := hcut
      have F0 : Hid (NW wc w.heap.size (⟨⟨p0, p1⟩, ⟨p2, p3⟩⟩ : Ss)) := h0
      have F1 : Hid (NW wc (w.heap.size + 1) (⟨⟨0, 0⟩, ⟨0, 0⟩⟩ : Ss)) := h1
      have FB : Hid (Below w.heap.size w wc) := h2
      clear h0 h1 h2
      obtain ⟨x0_0, x0_1, x0_2, x0_3, y0_0, y0_1, y0_2, y0_3⟩ := F0.out
      try dsimp only at x0_0 x0_1 x0_2 x0_3
      obtain ⟨x1_0, x1_1, x1_2, x1_3, y1_0, y1_1, y1_2, y1_3⟩ := F1.out
      try dsimp only at x1_0 x1_1 x1_2 x1_3
      go_wp2_with fail
      change bodyPost _ _ _ _ _ (putN wc (w.heap.size + 1) (⟨⟨p0, p1⟩, ⟨p2, p3⟩⟩ : Ss))
      obtain ⟨Wf, hWf⟩ : ∃ Wf, putN wc (w.heap.size + 1) (⟨⟨p0, p1⟩, ⟨p2, p3⟩⟩ : Ss) = Wf := ⟨_, rfl⟩
      have HRf : NW Wf (w.heap.size + 1) (⟨⟨p0, p1⟩, ⟨p2, p3⟩⟩ : Ss) := hWf ▸ F1.out.put _
      have HBf : Below w.heap.size w Wf := hWf ▸ below_putN FB.out (by omega) _
      rw [hWf]
      clear hWf
      obtain ⟨d0, d1, d2, d3, -, -, -, -⟩ := HRf
      try dsimp only at d0 d1 d2 d3
      exact bodyPost_ret (v := .agg #[.int .i64 p0, .int .i64 p1, .int .i64 p2, .int .i64 p3]) (by simp [results, Try.results27, go_sem, d0, d1, d2, d3]) rfl ⟨rfl, HBf⟩
theorem spans_zero {h : Hs} {x : Ss} (e : Hs.spans h x = 0) : h.fault = 0 ∧ -1 ≤ x.l.lo ∧ x.l.lo ≤ x.l.hi ∧ x.l.hi < x.u.lo ∧ x.u.lo ≤ x.u.hi ∧ x.u.hi ≤ h.fl := by
  unfold Hs.spans at e
  by_cases hf : h.fault = 0
  · rw [if_pos hf] at e
    refine ⟨hf, ?_⟩
    unfold Hs.spanC at e
    by_cases hr : Hs.spanR h x = true
    · rw [if_pos hr] at e
      by_cases hb : spanB x = true
      · rw [if_pos hb] at e; omega
      · unfold Hs.spanR at hr
        unfold spanB at hb
        simp only [Bool.and_eq_true, inB_iff] at hr
        simp only [Bool.or_eq_true, decide_eq_true_eq, not_or] at hb
        omega
    · rw [if_neg hr] at e; omega
  · rw [if_neg hf] at e; exact absurd e hf
set_option maxRecDepth 20000 in
set_option maxHeartbeats 8000000 in
theorem specExtendSpans_any (h : Hs) (x : Ss) (a b : Int) (w : World) :
    Calls Try.prog 9 #[.agg #[.int .i64 h.fl, .int .i64 h.gp, .int .i64 h.ln, .int .i64 h.rf, .int .i64 h.sp, .int .i64 h.pu, .int .i64 h.br, .int .i64 h.dr, .int .i64 h.lv, .int .i64 h.dO, .int .i64 h.ld, .int .i64 h.qu], .agg #[.int .i64 x.l.lo, .int .i64 x.l.hi, .int .i64 x.u.lo, .int .i64 x.u.hi], .int .i64 a, .int .i64 b] w (isSps w (Hs.extK h x a b) (Hs.extV h x a b)) := by
  have F0 : Hid (HAt (((w.alloc (.cells #[.int .i64 h.fl, .int .i64 h.gp, .int .i64 h.ln, .int .i64 h.rf, .int .i64 h.sp, .int .i64 h.pu, .int .i64 h.br, .int .i64 h.dr, .int .i64 h.lv, .int .i64 h.dO, .int .i64 h.ld, .int .i64 h.qu] 25)).alloc (.cells #[.int .i64 x.l.lo, .int .i64 x.l.hi, .int .i64 x.u.lo, .int .i64 x.u.hi] 29)).alloc (.cells #[.int .i64 0, .int .i64 0, .int .i64 0, .int .i64 0, .int .i64 0] 33)) w.heap.size h) := ((HAt.at_ w h _ _ (by simp)).alloc _).alloc _
  have F1 : Hid (NW (((w.alloc (.cells #[.int .i64 h.fl, .int .i64 h.gp, .int .i64 h.ln, .int .i64 h.rf, .int .i64 h.sp, .int .i64 h.pu, .int .i64 h.br, .int .i64 h.dr, .int .i64 h.lv, .int .i64 h.dO, .int .i64 h.ld, .int .i64 h.qu] 25)).alloc (.cells #[.int .i64 x.l.lo, .int .i64 x.l.hi, .int .i64 x.u.lo, .int .i64 x.u.hi] 29)).alloc (.cells #[.int .i64 0, .int .i64 0, .int .i64 0, .int .i64 0, .int .i64 0] 33)) (w.heap.size + 1) x) := (NW.at_ (w.alloc (.cells #[.int .i64 h.fl, .int .i64 h.gp, .int .i64 h.ln, .int .i64 h.rf, .int .i64 h.sp, .int .i64 h.pu, .int .i64 h.br, .int .i64 h.dr, .int .i64 h.lv, .int .i64 h.dO, .int .i64 h.ld, .int .i64 h.qu] 25)) x _ _ (by simp)).alloc _
  have F2 : Hid (RSps (((w.alloc (.cells #[.int .i64 h.fl, .int .i64 h.gp, .int .i64 h.ln, .int .i64 h.rf, .int .i64 h.sp, .int .i64 h.pu, .int .i64 h.br, .int .i64 h.dr, .int .i64 h.lv, .int .i64 h.dO, .int .i64 h.ld, .int .i64 h.qu] 25)).alloc (.cells #[.int .i64 x.l.lo, .int .i64 x.l.hi, .int .i64 x.u.lo, .int .i64 x.u.hi] 29)).alloc (.cells #[.int .i64 0, .int .i64 0, .int .i64 0, .int .i64 0, .int .i64 0] 33)) (w.heap.size + 2)) := RSps.at_ ((w.alloc (.cells #[.int .i64 h.fl, .int .i64 h.gp, .int .i64 h.ln, .int .i64 h.rf, .int .i64 h.sp, .int .i64 h.pu, .int .i64 h.br, .int .i64 h.dr, .int .i64 h.lv, .int .i64 h.dO, .int .i64 h.ld, .int .i64 h.qu] 25)).alloc (.cells #[.int .i64 x.l.lo, .int .i64 x.l.hi, .int .i64 x.u.lo, .int .i64 x.u.hi] 29)) _ _ (by simp)
  have FB : Hid (Below w.heap.size w (((w.alloc (.cells #[.int .i64 h.fl, .int .i64 h.gp, .int .i64 h.ln, .int .i64 h.rf, .int .i64 h.sp, .int .i64 h.pu, .int .i64 h.br, .int .i64 h.dr, .int .i64 h.lv, .int .i64 h.dO, .int .i64 h.ld, .int .i64 h.qu] 25)).alloc (.cells #[.int .i64 x.l.lo, .int .i64 x.l.hi, .int .i64 x.u.lo, .int .i64 x.u.hi] 29)).alloc (.cells #[.int .i64 0, .int .i64 0, .int .i64 0, .int .i64 0, .int .i64 0] 33))) := ((((Below.refl _ _).alloc (Nat.le_refl _) _).alloc (by simp <;> omega) _).alloc (by simp <;> omega) _)
  by_cases hf : Hs.spans h x = 0
  · cases i1 : inB a (-1) h.fl with
    | false =>
      have q1 : Hs.extK h x a b = 3 := by unfold Hs.extK; rw [if_pos hf, i1]; simp
      have q2 : Hs.extV h x a b = ⟨⟨0, 0⟩, ⟨0, 0⟩⟩ := by unfold Hs.extV; rw [q1]; simp
      rw [q1, q2]
      clear q1 q2
      go_enter Try.func9, Try.ntmps9
      go_wp2_with (first | (go_at_call 18; refine (specSpansFault_any h x _).mono ?_; rw [hf]; rintro e w1 ⟨rfl, hb⟩; have F0 : Hid (HAt w1 w.heap.size h) := F0.out.below hb F0.out.lt; have F1 : Hid (NW w1 (w.heap.size + 1) x) := F1.out.below hb F1.out.lt; have F2 : Hid (RSps w1 (w.heap.size + 2)) := F2.out.below hb F2.out.lt; have FB : Hid (Below w.heap.size w w1) := FB.out.trans (hb.mono FB.out.size); obtain ⟨x0_0, x0_1, x0_2, x0_3, x0_4, x0_5, x0_6, x0_7, x0_8, x0_9, x0_10, x0_11⟩ := F0.out; obtain ⟨x1_0, x1_1, x1_2, x1_3, y1_0, y1_1, y1_2, y1_3⟩ := F1.out; obtain ⟨x2_0, x2_1, x2_2, x2_3, x2_4, y2_0, y2_1, y2_2, y2_3, y2_4⟩ := F2.out; clear hb) | (go_at_call 26; refine (l1In_any _ _ _ _).mono ?_; rintro e w' ⟨rfl, hw⟩; obtain rfl := hw.symm; clear hw))
      exact bodyPost_ret (v := .agg #[.int .i64 3, .int .i64 0, .int .i64 0, .int .i64 0, .int .i64 0]) (by simp [results, Try.results9, go_sem, x2_0, x2_1, x2_2, x2_3, x2_4]) rfl ⟨rfl, by repeat (first | exact FB.out | (refine Below.setCell ?_ (by simp <;> omega) _))⟩
    | true =>
      cases i2 : inB b (-1) h.fl with
      | false =>
        have q1 : Hs.extK h x a b = 3 := by unfold Hs.extK; rw [if_pos hf, i2]; simp
        have q2 : Hs.extV h x a b = ⟨⟨0, 0⟩, ⟨0, 0⟩⟩ := by unfold Hs.extV; rw [q1]; simp
        rw [q1, q2]
        clear q1 q2
        go_enter Try.func9, Try.ntmps9
        go_wp2_with (first | (go_at_call 18; refine (specSpansFault_any h x _).mono ?_; rw [hf]; rintro e w1 ⟨rfl, hb⟩; have F0 : Hid (HAt w1 w.heap.size h) := F0.out.below hb F0.out.lt; have F1 : Hid (NW w1 (w.heap.size + 1) x) := F1.out.below hb F1.out.lt; have F2 : Hid (RSps w1 (w.heap.size + 2)) := F2.out.below hb F2.out.lt; have FB : Hid (Below w.heap.size w w1) := FB.out.trans (hb.mono FB.out.size); obtain ⟨x0_0, x0_1, x0_2, x0_3, x0_4, x0_5, x0_6, x0_7, x0_8, x0_9, x0_10, x0_11⟩ := F0.out; obtain ⟨x1_0, x1_1, x1_2, x1_3, y1_0, y1_1, y1_2, y1_3⟩ := F1.out; obtain ⟨x2_0, x2_1, x2_2, x2_3, x2_4, y2_0, y2_1, y2_2, y2_3, y2_4⟩ := F2.out; clear hb) | (go_at_call 26; refine (l1In_any _ _ _ _).mono ?_; rintro e w' ⟨rfl, hw⟩; obtain rfl := hw.symm; clear hw))
        exact bodyPost_ret (v := .agg #[.int .i64 3, .int .i64 0, .int .i64 0, .int .i64 0, .int .i64 0]) (by simp [results, Try.results9, go_sem, x2_0, x2_1, x2_2, x2_3, x2_4]) rfl ⟨rfl, by repeat (first | exact FB.out | (refine Below.setCell ?_ (by simp <;> omega) _))⟩
      | true =>
        by_cases lt : a < b
        · have q1 : Hs.extK h x a b = 0 := by unfold Hs.extK; rw [if_pos hf, i1, i2]; simp [lt]
          obtain ⟨y, hy⟩ : ∃ y, extS x a b = y := ⟨_, rfl⟩
          have q2 : Hs.extV h x a b = y := by unfold Hs.extV; rw [if_pos q1]; exact hy
          rw [q1, q2]
          obtain ⟨z1, z2, z3, z4, z5, z6⟩ := spans_zero hf
          have o := Hs.ok_of (Hs.fault_zero z1).1
          have l1 := o.fl2
          obtain ⟨j1, j2⟩ := inB_iff.1 i1
          have HY : Hid (extS x a b = y) := hy
          have ng : ¬ b ≤ a := by omega
          clear q1 q2 hy o z1
          go_enter Try.func9, Try.ntmps9
          go_wp2_with (first | (go_at_call 18; refine (specSpansFault_any h x _).mono ?_; rw [hf]; rintro e w1 ⟨rfl, hb⟩; have F0 : Hid (HAt w1 w.heap.size h) := F0.out.below hb F0.out.lt; have F1 : Hid (NW w1 (w.heap.size + 1) x) := F1.out.below hb F1.out.lt; have F2 : Hid (RSps w1 (w.heap.size + 2)) := F2.out.below hb F2.out.lt; have FB : Hid (Below w.heap.size w w1) := FB.out.trans (hb.mono FB.out.size); obtain ⟨x0_0, x0_1, x0_2, x0_3, x0_4, x0_5, x0_6, x0_7, x0_8, x0_9, x0_10, x0_11⟩ := F0.out; obtain ⟨x1_0, x1_1, x1_2, x1_3, y1_0, y1_1, y1_2, y1_3⟩ := F1.out; obtain ⟨x2_0, x2_1, x2_2, x2_3, x2_4, y2_0, y2_1, y2_2, y2_3, y2_4⟩ := F2.out; clear hb) | (go_at_call 26; refine (l1In_any _ _ _ _).mono ?_; rintro e w' ⟨rfl, hw⟩; obtain rfl := hw.symm; clear hw) | (go_at_call 27; refine (l6Extend_any x a b (by omega) (by omega) (by omega) (by omega) (by omega) (by omega) y HY.out _).mono ?_; rintro e w2 ⟨rfl, hb⟩; have F0 : Hid (HAt w2 w.heap.size h) := F0.out.below hb F0.out.lt; have F1 : Hid (NW w2 (w.heap.size + 1) x) := F1.out.below hb F1.out.lt; have F2 : Hid (RSps w2 (w.heap.size + 2)) := F2.out.below hb F2.out.lt; have FB : Hid (Below w.heap.size w w2) := FB.out.trans (hb.mono FB.out.size); obtain ⟨x0_0, x0_1, x0_2, x0_3, x0_4, x0_5, x0_6, x0_7, x0_8, x0_9, x0_10, x0_11⟩ := F0.out; obtain ⟨x1_0, x1_1, x1_2, x1_3, y1_0, y1_1, y1_2, y1_3⟩ := F1.out; obtain ⟨x2_0, x2_1, x2_2, x2_3, x2_4, y2_0, y2_1, y2_2, y2_3, y2_4⟩ := F2.out; clear hb))
          exact bodyPost_ret (v := .agg #[.int .i64 0, .int .i64 y.l.lo, .int .i64 y.l.hi, .int .i64 y.u.lo, .int .i64 y.u.hi]) (by simp [results, Try.results9, go_sem, x2_0, x2_1, x2_2, x2_3, x2_4]) rfl ⟨rfl, by repeat (first | exact FB.out | (refine Below.setCell ?_ (by simp <;> omega) _))⟩
        · have ng : b ≤ a := by omega
          have q1 : Hs.extK h x a b = 1 := by unfold Hs.extK; rw [if_pos hf, i1, i2]; simp [lt]
          have q2 : Hs.extV h x a b = ⟨⟨0, 0⟩, ⟨0, 0⟩⟩ := by unfold Hs.extV; rw [q1]; simp
          rw [q1, q2]
          clear q1 q2
          go_enter Try.func9, Try.ntmps9
          go_wp2_with (first | (go_at_call 18; refine (specSpansFault_any h x _).mono ?_; rw [hf]; rintro e w1 ⟨rfl, hb⟩; have F0 : Hid (HAt w1 w.heap.size h) := F0.out.below hb F0.out.lt; have F1 : Hid (NW w1 (w.heap.size + 1) x) := F1.out.below hb F1.out.lt; have F2 : Hid (RSps w1 (w.heap.size + 2)) := F2.out.below hb F2.out.lt; have FB : Hid (Below w.heap.size w w1) := FB.out.trans (hb.mono FB.out.size); obtain ⟨x0_0, x0_1, x0_2, x0_3, x0_4, x0_5, x0_6, x0_7, x0_8, x0_9, x0_10, x0_11⟩ := F0.out; obtain ⟨x1_0, x1_1, x1_2, x1_3, y1_0, y1_1, y1_2, y1_3⟩ := F1.out; obtain ⟨x2_0, x2_1, x2_2, x2_3, x2_4, y2_0, y2_1, y2_2, y2_3, y2_4⟩ := F2.out; clear hb) | (go_at_call 26; refine (l1In_any _ _ _ _).mono ?_; rintro e w' ⟨rfl, hw⟩; obtain rfl := hw.symm; clear hw))
          exact bodyPost_ret (v := .agg #[.int .i64 1, .int .i64 0, .int .i64 0, .int .i64 0, .int .i64 0]) (by simp [results, Try.results9, go_sem, x2_0, x2_1, x2_2, x2_3, x2_4]) rfl ⟨rfl, by repeat (first | exact FB.out | (refine Below.setCell ?_ (by simp <;> omega) _))⟩
  · have q1 : Hs.extK h x a b = Hs.spans h x := by unfold Hs.extK; rw [if_neg hf]
    have q2 : Hs.extV h x a b = ⟨⟨0, 0⟩, ⟨0, 0⟩⟩ := by unfold Hs.extV; rw [q1, if_neg hf]
    rw [q1, q2]
    have hn : (Hs.spans h x != 0) = true := by simpa using hf
    clear q1 q2 hf
    go_enter Try.func9, Try.ntmps9
    go_wp2_with (go_at_call 18; refine (specSpansFault_any h x _).mono ?_; rintro e w1 ⟨rfl, hb⟩; have F0 : Hid (HAt w1 w.heap.size h) := F0.out.below hb F0.out.lt; have F1 : Hid (NW w1 (w.heap.size + 1) x) := F1.out.below hb F1.out.lt; have F2 : Hid (RSps w1 (w.heap.size + 2)) := F2.out.below hb F2.out.lt; have FB : Hid (Below w.heap.size w w1) := FB.out.trans (hb.mono FB.out.size); obtain ⟨x0_0, x0_1, x0_2, x0_3, x0_4, x0_5, x0_6, x0_7, x0_8, x0_9, x0_10, x0_11⟩ := F0.out; obtain ⟨x1_0, x1_1, x1_2, x1_3, y1_0, y1_1, y1_2, y1_3⟩ := F1.out; obtain ⟨x2_0, x2_1, x2_2, x2_3, x2_4, y2_0, y2_1, y2_2, y2_3, y2_4⟩ := F2.out; clear hb)
    exact bodyPost_ret (v := .agg #[.int .i64 (Hs.spans h x), .int .i64 0, .int .i64 0, .int .i64 0, .int .i64 0]) (by simp [results, Try.results9, go_sem, x2_0, x2_1, x2_2, x2_3, x2_4]) rfl ⟨rfl, by repeat (first | exact FB.out | (refine Below.setCell ?_ (by simp <;> omega) _))⟩
end Go.Proofs.Ytpfihpplpefikaa
