/-
  Draws: riders, the nearest floor.
-/
import Derived.Test.YtgdhbkgpjeedhaaSrcW
import Derived.Test.YtgdhbkgpjeedhaaHouseP
import Derived.Test.YtgdhbkgpjeedhaaCarS
import Derived.Test.YtgdhbkgpjeedhaaEnA
namespace Go.Proofs.Ytgdhbkgpjeedhaa
open Go.RowKit Pl
set_option linter.unusedSimpArgs false
set_option linter.unusedVariables false

theorem Blk.keeps {W w : World} {b sb : Nat} {vs : List Value} (a : Blk W b vs) (hk : Keeps sb W w) (hne : b ≠ sb) : Blk w b vs := a.of (hk.block b a.lt hne)
def absW (x : Int) : Int := if x < 0 then wrap64 (-x) else x
theorem l1Abs_w (x : Int) (w : World) : Calls Try.prog 26 #[.int .i64 x] w fun e w' => e = .returned (.int .i64 (absW x)) ∧ w' = w := by
  by_cases h : x < 0
  · have e : Hid (wrap64 (-x) = absW x) := by show _ = absW x; unfold absW; rw [if_pos h]
    go_enter Try.func26, Try.ntmps26
    go_wp2
    go_ret
    exact ⟨ret_i e.out, rfl⟩
  · have e : Hid (x = absW x) := by show _ = absW x; unfold absW; rw [if_neg h]
    go_enter Try.func26, Try.ntmps26
    go_wp2
    go_ret
    exact ⟨ret_i e.out, rfl⟩
set_option maxRecDepth 20000 in
set_option maxHeartbeats 16000000 in
theorem l2Near_w (h : Hs) (o : h.Ok) (p : Int) (w : World) :
    Calls Try.prog 41 #[.agg #[.int .i64 h.fl, .int .i64 h.gp, .int .i64 h.ln, .int .i64 h.rf, .int .i64 h.sp, .int .i64 h.pu, .int .i64 h.br, .int .i64 h.dr, .int .i64 h.lv, .int .i64 h.dO, .int .i64 h.ld, .int .i64 h.qu], .int .i64 p] w fun e w' => ∃ r : Int, e = .returned (.int .i64 r) ∧ Below w.heap.size w w' := by
  have l1 := o.fl1; have l2 := o.fl2
  have HO : Hid h.Ok := o
  clear o
  obtain ⟨b0, hb0⟩ : ∃ b0, b0 = w.heap.size := ⟨_, rfl⟩
  obtain ⟨W0, hW0⟩ : ∃ W0, W0 = w.alloc (.cells #[.int .i64 h.fl, .int .i64 h.gp, .int .i64 h.ln, .int .i64 h.rf, .int .i64 h.sp, .int .i64 h.pu, .int .i64 h.br, .int .i64 h.dr, .int .i64 h.lv, .int .i64 h.dO, .int .i64 h.ld, .int .i64 h.qu] 25) := ⟨_, rfl⟩
  have F0 : Hid (Blk W0 b0 [.int .i64 h.fl, .int .i64 h.gp, .int .i64 h.ln, .int .i64 h.rf, .int .i64 h.sp, .int .i64 h.pu, .int .i64 h.br, .int .i64 h.dr, .int .i64 h.lv, .int .i64 h.dO, .int .i64 h.ld, .int .i64 h.qu]) := by rw [hW0]; exact (Blk.at_ _ #[.int .i64 h.fl, .int .i64 h.gp, .int .i64 h.ln, .int .i64 h.rf, .int .i64 h.sp, .int .i64 h.pu, .int .i64 h.br, .int .i64 h.dr, .int .i64 h.lv, .int .i64 h.dO, .int .i64 h.ld, .int .i64 h.qu] _ _ hb0)
  have FB : Hid (Below w.heap.size w W0) := by rw [hW0]; exact ((Below.refl _ _).alloc (Nat.le_refl _) _)
  have leb0 : w.heap.size ≤ b0 := by omega
  go_enter Try.func41, Try.ntmps41
  go_upto_region 1 with fail
  rw [← hb0, ← hW0]
  clear hb0 hW0
  go_wp2_with fail
  go_loopw [5, 6] (fun b f wr => ∃ r n : Int, b = .int .i64 r ∧ f = .int .i64 n ∧ 0 ≤ n ∧ n ≤ h.fl + 1 ∧ -1 ≤ r ∧ r ≤ h.fl ∧ Blk wr b0 [.int .i64 h.fl, .int .i64 h.gp, .int .i64 h.ln, .int .i64 h.rf, .int .i64 h.sp, .int .i64 h.pu, .int .i64 h.br, .int .i64 h.dr, .int .i64 h.lv, .int .i64 h.dO, .int .i64 h.ld, .int .i64 h.qu] ∧ Below w.heap.size w wr) (fun _ f _ => (h.fl + 1 - intOf f).toNat)
  case atStart => exact ⟨-1, 0, rfl, rfl, by omega, by omega, by omega, by omega, F0.out, FB.out⟩
  case round =>
    obtain ⟨r, n, rfl, rfl, n1, n2, r1, r2, h_F0, hB⟩ := hrel
    clear F0 FB
    have F0 : Hid (Blk wr b0 [.int .i64 h.fl, .int .i64 h.gp, .int .i64 h.ln, .int .i64 h.rf, .int .i64 h.sp, .int .i64 h.pu, .int .i64 h.br, .int .i64 h.dr, .int .i64 h.lv, .int .i64 h.dO, .int .i64 h.ld, .int .i64 h.qu]) := h_F0
    have FB : Hid (Below w.heap.size w wr) := hB
    clear h_F0 hB
    have c0 := F0.out.c 0 _ rfl
    by_cases hlt : n ≤ h.fl
    · obtain ⟨x1, hx1⟩ : ∃ x1, IntKind.i64.wrap (p - h.level n) = x1 := ⟨_, rfl⟩
      obtain ⟨x2, hx2⟩ : ∃ x2, IntKind.i64.wrap (p - h.level r) = x2 := ⟨_, rfl⟩
      have C1 : ∀ W, Calls Try.prog 27 #[.agg #[.int .i64 h.fl, .int .i64 h.gp, .int .i64 h.ln, .int .i64 h.rf, .int .i64 h.sp, .int .i64 h.pu, .int .i64 h.br, .int .i64 h.dr, .int .i64 h.lv, .int .i64 h.dO, .int .i64 h.ld, .int .i64 h.qu], .int .i64 n] W fun e w' => e = .returned (.int .i64 (h.level n)) ∧ Below W.heap.size W w' := fun W => specLevel_below h HO.out n (by omega) (by omega) W
      have C2 : ∀ W, Calls Try.prog 27 #[.agg #[.int .i64 h.fl, .int .i64 h.gp, .int .i64 h.ln, .int .i64 h.rf, .int .i64 h.sp, .int .i64 h.pu, .int .i64 h.br, .int .i64 h.dr, .int .i64 h.lv, .int .i64 h.dO, .int .i64 h.ld, .int .i64 h.qu], .int .i64 r] W fun e w' => e = .returned (.int .i64 (h.level r)) ∧ Below W.heap.size W w' := fun W => specLevel_below h HO.out r (by omega) (by omega) W
      cases hd : decide (absW x1 < absW x2) with
      | true =>
        go_upto_region 5 with fail
        have F0 : Hid (Blk wr.drew b0 [.int .i64 h.fl, .int .i64 h.gp, .int .i64 h.ln, .int .i64 h.rf, .int .i64 h.sp, .int .i64 h.pu, .int .i64 h.br, .int .i64 h.dr, .int .i64 h.lv, .int .i64 h.dO, .int .i64 h.ld, .int .i64 h.qu]) := F0.out.below (Below.refl _ _).drew F0.out.lt
        have FB : Hid (Below w.heap.size w wr.drew) := FB.out.drew
        refine wp_region_held_drew (S := (fun w'' => Blk w'' b0 ([.int .i64 h.fl, .int .i64 h.gp, .int .i64 h.ln, .int .i64 h.rf, .int .i64 h.sp, .int .i64 h.pu, .int .i64 h.br, .int .i64 h.dr, .int .i64 h.lv, .int .i64 h.dO, .int .i64 h.ld, .int .i64 h.qu]))) (by kernel_rfl) (by (try dsimp only); first | exact F0.out | go_keep) (fun hHeld => ?_)
        obtain ⟨v_1, hw1⟩ : ∃ v_1, v_1 = wr.drew := ⟨_, rfl⟩
        have F0 : Hid (Blk v_1 b0 [.int .i64 h.fl, .int .i64 h.gp, .int .i64 h.ln, .int .i64 h.rf, .int .i64 h.sp, .int .i64 h.pu, .int .i64 h.br, .int .i64 h.dr, .int .i64 h.lv, .int .i64 h.dO, .int .i64 h.ld, .int .i64 h.qu]) := by rw [hw1]; exact F0.out
        have FB : Hid (Below w.heap.size w v_1) := by rw [hw1]; exact FB.out
        rw [← hw1] at hHeld ⊢
        clear hw1
        refine tkz 0 rfl ?_
        refine tkz 1 rfl ?_ (hy := Or.inl ⟨by kernel_rfl, fun wx hSw => exec_load_blk 25 _ Try.underlying25 (by kernel_rfl) rfl rfl hSw⟩)
        refine tkz 2 rfl ?_
        refine tkz 6 rfl ?_
        refine tkz 7 rfl ?_ (hy := Or.inl ⟨by kernel_rfl, fun wx hSw => exec_load_blk 25 _ Try.underlying25 (by kernel_rfl) rfl rfl hSw⟩)
        refine tkz 8 rfl ?_
        refine wpAnyH_ready (rs := [3]) (by kernel_rfl) (by simp) ?_
        refine (AllReadyH.cons rfl (fun K hK => ?_) AllReadyH.nil)
        go_simp
        refine (C1 _).mono ?_
        rintro e v_2 ⟨rfl, hb⟩
        have F0 : Hid (Blk v_2 b0 [.int .i64 h.fl, .int .i64 h.gp, .int .i64 h.ln, .int .i64 h.rf, .int .i64 h.sp, .int .i64 h.pu, .int .i64 h.br, .int .i64 h.dr, .int .i64 h.lv, .int .i64 h.dO, .int .i64 h.ld, .int .i64 h.qu]) := F0.out.below hb F0.out.lt
        have FB : Hid (Below w.heap.size w v_2) := FB.out.trans (hb.mono FB.out.size)
        clear hb
        try dsimp only
        refine hK.out _ _ (by (try dsimp only); first | exact F0.out | go_keep) (fun hHeld => ?_)
        clear hK K
        try simp only [Act.put, List.getElem_toArray, List.getElem_cons_succ, List.getElem_cons_zero, List.setIfInBounds_toArray, List.set_cons_zero, List.set_cons_succ]
        refine tkz 4 rfl ?_
        refine wpAnyH_ready (rs := [5]) (by kernel_rfl) (by simp) ?_
        refine (AllReadyH.cons rfl (fun K hK => ?_) AllReadyH.nil)
        go_simp
        refine (l1Abs_w x1 _).mono ?_
        rintro e w_ ⟨rfl, hw⟩
        obtain rfl := hw.symm
        clear hw
        try dsimp only
        refine hK.out _ _ (by (try dsimp only); first | exact F0.out | go_keep) (fun hHeld => ?_)
        clear hK K
        try simp only [Act.put, List.getElem_toArray, List.getElem_cons_succ, List.getElem_cons_zero, List.setIfInBounds_toArray, List.set_cons_zero, List.set_cons_succ]
        refine wpAnyH_ready (rs := [9]) (by kernel_rfl) (by simp) ?_
        refine (AllReadyH.cons rfl (fun K hK => ?_) AllReadyH.nil)
        go_simp
        refine (C2 _).mono ?_
        rintro e v_3 ⟨rfl, hb⟩
        have F0 : Hid (Blk v_3 b0 [.int .i64 h.fl, .int .i64 h.gp, .int .i64 h.ln, .int .i64 h.rf, .int .i64 h.sp, .int .i64 h.pu, .int .i64 h.br, .int .i64 h.dr, .int .i64 h.lv, .int .i64 h.dO, .int .i64 h.ld, .int .i64 h.qu]) := F0.out.below hb F0.out.lt
        have FB : Hid (Below w.heap.size w v_3) := FB.out.trans (hb.mono FB.out.size)
        clear hb
        try dsimp only
        refine hK.out _ _ (by (try dsimp only); first | exact F0.out | go_keep) (fun hHeld => ?_)
        clear hK K
        try simp only [Act.put, List.getElem_toArray, List.getElem_cons_succ, List.getElem_cons_zero, List.setIfInBounds_toArray, List.set_cons_zero, List.set_cons_succ]
        refine tkz 10 rfl ?_
        refine wpAnyH_ready (rs := [11]) (by kernel_rfl) (by simp) ?_
        refine (AllReadyH.cons rfl (fun K hK => ?_) AllReadyH.nil)
        go_simp
        refine (l1Abs_w x2 _).mono ?_
        rintro e w_ ⟨rfl, hw⟩
        obtain rfl := hw.symm
        clear hw
        try dsimp only
        refine hK.out _ _ (by (try dsimp only); first | exact F0.out | go_keep) (fun hHeld => ?_)
        clear hK K
        try simp only [Act.put, List.getElem_toArray, List.getElem_cons_succ, List.getElem_cons_zero, List.setIfInBounds_toArray, List.set_cons_zero, List.set_cons_succ]
        refine tkz 12 rfl ?_
        refine wpAnyH_done (by kernel_rfl) ?_ _
        go_wp2_with fail
        go_roundw
        case rel => exact ⟨n, n + 1, rfl, rfl, by omega, by omega, by omega, by omega, F0.out, FB.out⟩
        case measure => simp [intOf]; omega
      | false =>
        go_upto_region 5 with fail
        have F0 : Hid (Blk wr.drew b0 [.int .i64 h.fl, .int .i64 h.gp, .int .i64 h.ln, .int .i64 h.rf, .int .i64 h.sp, .int .i64 h.pu, .int .i64 h.br, .int .i64 h.dr, .int .i64 h.lv, .int .i64 h.dO, .int .i64 h.ld, .int .i64 h.qu]) := F0.out.below (Below.refl _ _).drew F0.out.lt
        have FB : Hid (Below w.heap.size w wr.drew) := FB.out.drew
        refine wp_region_held_drew (S := (fun w'' => Blk w'' b0 ([.int .i64 h.fl, .int .i64 h.gp, .int .i64 h.ln, .int .i64 h.rf, .int .i64 h.sp, .int .i64 h.pu, .int .i64 h.br, .int .i64 h.dr, .int .i64 h.lv, .int .i64 h.dO, .int .i64 h.ld, .int .i64 h.qu]))) (by kernel_rfl) (by (try dsimp only); first | exact F0.out | go_keep) (fun hHeld => ?_)
        obtain ⟨v_4, hw1⟩ : ∃ v_4, v_4 = wr.drew := ⟨_, rfl⟩
        have F0 : Hid (Blk v_4 b0 [.int .i64 h.fl, .int .i64 h.gp, .int .i64 h.ln, .int .i64 h.rf, .int .i64 h.sp, .int .i64 h.pu, .int .i64 h.br, .int .i64 h.dr, .int .i64 h.lv, .int .i64 h.dO, .int .i64 h.ld, .int .i64 h.qu]) := by rw [hw1]; exact F0.out
        have FB : Hid (Below w.heap.size w v_4) := by rw [hw1]; exact FB.out
        rw [← hw1] at hHeld ⊢
        clear hw1
        refine tkz 0 rfl ?_
        refine tkz 1 rfl ?_ (hy := Or.inl ⟨by kernel_rfl, fun wx hSw => exec_load_blk 25 _ Try.underlying25 (by kernel_rfl) rfl rfl hSw⟩)
        refine tkz 2 rfl ?_
        refine tkz 6 rfl ?_
        refine tkz 7 rfl ?_ (hy := Or.inl ⟨by kernel_rfl, fun wx hSw => exec_load_blk 25 _ Try.underlying25 (by kernel_rfl) rfl rfl hSw⟩)
        refine tkz 8 rfl ?_
        refine wpAnyH_ready (rs := [3]) (by kernel_rfl) (by simp) ?_
        refine (AllReadyH.cons rfl (fun K hK => ?_) AllReadyH.nil)
        go_simp
        refine (C1 _).mono ?_
        rintro e v_5 ⟨rfl, hb⟩
        have F0 : Hid (Blk v_5 b0 [.int .i64 h.fl, .int .i64 h.gp, .int .i64 h.ln, .int .i64 h.rf, .int .i64 h.sp, .int .i64 h.pu, .int .i64 h.br, .int .i64 h.dr, .int .i64 h.lv, .int .i64 h.dO, .int .i64 h.ld, .int .i64 h.qu]) := F0.out.below hb F0.out.lt
        have FB : Hid (Below w.heap.size w v_5) := FB.out.trans (hb.mono FB.out.size)
        clear hb
        try dsimp only
        refine hK.out _ _ (by (try dsimp only); first | exact F0.out | go_keep) (fun hHeld => ?_)
        clear hK K
        try simp only [Act.put, List.getElem_toArray, List.getElem_cons_succ, List.getElem_cons_zero, List.setIfInBounds_toArray, List.set_cons_zero, List.set_cons_succ]
        refine tkz 4 rfl ?_
        refine wpAnyH_ready (rs := [5]) (by kernel_rfl) (by simp) ?_
        refine (AllReadyH.cons rfl (fun K hK => ?_) AllReadyH.nil)
        go_simp
        refine (l1Abs_w x1 _).mono ?_
        rintro e w_ ⟨rfl, hw⟩
        obtain rfl := hw.symm
        clear hw
        try dsimp only
        refine hK.out _ _ (by (try dsimp only); first | exact F0.out | go_keep) (fun hHeld => ?_)
        clear hK K
        try simp only [Act.put, List.getElem_toArray, List.getElem_cons_succ, List.getElem_cons_zero, List.setIfInBounds_toArray, List.set_cons_zero, List.set_cons_succ]
        refine wpAnyH_ready (rs := [9]) (by kernel_rfl) (by simp) ?_
        refine (AllReadyH.cons rfl (fun K hK => ?_) AllReadyH.nil)
        go_simp
        refine (C2 _).mono ?_
        rintro e v_6 ⟨rfl, hb⟩
        have F0 : Hid (Blk v_6 b0 [.int .i64 h.fl, .int .i64 h.gp, .int .i64 h.ln, .int .i64 h.rf, .int .i64 h.sp, .int .i64 h.pu, .int .i64 h.br, .int .i64 h.dr, .int .i64 h.lv, .int .i64 h.dO, .int .i64 h.ld, .int .i64 h.qu]) := F0.out.below hb F0.out.lt
        have FB : Hid (Below w.heap.size w v_6) := FB.out.trans (hb.mono FB.out.size)
        clear hb
        try dsimp only
        refine hK.out _ _ (by (try dsimp only); first | exact F0.out | go_keep) (fun hHeld => ?_)
        clear hK K
        try simp only [Act.put, List.getElem_toArray, List.getElem_cons_succ, List.getElem_cons_zero, List.setIfInBounds_toArray, List.set_cons_zero, List.set_cons_succ]
        refine tkz 10 rfl ?_
        refine wpAnyH_ready (rs := [11]) (by kernel_rfl) (by simp) ?_
        refine (AllReadyH.cons rfl (fun K hK => ?_) AllReadyH.nil)
        go_simp
        refine (l1Abs_w x2 _).mono ?_
        rintro e w_ ⟨rfl, hw⟩
        obtain rfl := hw.symm
        clear hw
        try dsimp only
        refine hK.out _ _ (by (try dsimp only); first | exact F0.out | go_keep) (fun hHeld => ?_)
        clear hK K
        try simp only [Act.put, List.getElem_toArray, List.getElem_cons_succ, List.getElem_cons_zero, List.setIfInBounds_toArray, List.set_cons_zero, List.set_cons_succ]
        refine tkz 12 rfl ?_
        refine wpAnyH_done (by kernel_rfl) ?_ _
        go_wp2_with fail
        go_roundw
        case rel => exact ⟨r, n + 1, rfl, rfl, by omega, by omega, by omega, by omega, F0.out, FB.out⟩
        case measure => simp [intOf]; omega
    · go_wp2
      go_ret
      first | exact ⟨r, rfl, FB.out⟩ | exact ⟨⟨r, rfl⟩, FB.out⟩
end Go.Proofs.Ytgdhbkgpjeedhaa
