/-
  Two floors are drawn.
-/
import Derived.Test.YtoacnglcneliiaaGreatDoorDrawT
import Derived.Deep.RegionHeld3
import Derived.BigGuardPart
namespace Go.Proofs.YtoacnglcneliiaaGreatDoor
open Go.RowKit Pl
set_option linter.unusedSimpArgs false
set_option linter.unusedVariables false

set_option maxRecDepth 20000 in
set_option maxHeartbeats 16000000 in
theorem l7Two_t (h : Hs) (l1 : 2 ≤ h.fl) (l2 : h.fl ≤ 12) (sb B : Nat) (a : Option Addr) (len cap T : Nat) (w : World) (hS : SrcT w sb B a len cap T) (hT : T ≤ 900000) :
    Calls Tryz.prog 47 #[.pointer (some ⟨sb, 0, none⟩), .agg #[.int .i64 h.fl, .int .i64 h.gp, .int .i64 h.ln, .int .i64 h.rf, .int .i64 h.sp, .int .i64 h.pu, .int .i64 h.br, .int .i64 h.dr, .int .i64 h.lv, .int .i64 h.dO, .int .i64 h.ld, .int .i64 h.qu]] w fun e w' => ∃ x y : Int, e = .returned (.tuple #[.int .i64 x, .int .i64 y]) ∧ SrcT w' sb B a len cap (T + 10) ∧ Keeps sb w w' := by
  have lsb := hS.lt
  have F0 : Hid (HAt (w.alloc (.cells #[.int .i64 h.fl, .int .i64 h.gp, .int .i64 h.ln, .int .i64 h.rf, .int .i64 h.sp, .int .i64 h.pu, .int .i64 h.br, .int .i64 h.dr, .int .i64 h.lv, .int .i64 h.dO, .int .i64 h.ld, .int .i64 h.qu] 25)) w.heap.size h) := HAt.new w h _
  have FS : Hid (SrcT (w.alloc (.cells #[.int .i64 h.fl, .int .i64 h.gp, .int .i64 h.ln, .int .i64 h.rf, .int .i64 h.sp, .int .i64 h.pu, .int .i64 h.br, .int .i64 h.dr, .int .i64 h.lv, .int .i64 h.dO, .int .i64 h.ld, .int .i64 h.qu] 25)) sb B a len cap T) := hS.alloc _
  have FK : Hid (Keeps sb w (w.alloc (.cells #[.int .i64 h.fl, .int .i64 h.gp, .int .i64 h.ln, .int .i64 h.rf, .int .i64 h.sp, .int .i64 h.pu, .int .i64 h.br, .int .i64 h.dr, .int .i64 h.lv, .int .i64 h.dO, .int .i64 h.ld, .int .i64 h.qu] 25))) := (Keeps.refl _ _).alloc _
  obtain ⟨W0, hW0⟩ : ∃ W0, W0 = (w.alloc (.cells #[.int .i64 h.fl, .int .i64 h.gp, .int .i64 h.ln, .int .i64 h.rf, .int .i64 h.sp, .int .i64 h.pu, .int .i64 h.br, .int .i64 h.dr, .int .i64 h.lv, .int .i64 h.dO, .int .i64 h.ld, .int .i64 h.qu] 25)) := ⟨_, rfl⟩
  rw [← hW0] at F0 FS FK
  have HW0 : Hid (W0 = (w.alloc (.cells #[.int .i64 h.fl, .int .i64 h.gp, .int .i64 h.ln, .int .i64 h.rf, .int .i64 h.sp, .int .i64 h.pu, .int .i64 h.br, .int .i64 h.dr, .int .i64 h.lv, .int .i64 h.dO, .int .i64 h.ld, .int .i64 h.qu] 25))) := hW0
  have hfz : (h.fl == 0) = false := by simp; omega
  clear hS hW0
  go_enter Tryz.func47, Tryz.ntmps47
  go_upto_region 1 with fail
  rw [← HW0.out]
  clear HW0
  obtain ⟨x0_0, x0_1, x0_2, x0_3, x0_4, x0_5, x0_6, x0_7, x0_8, x0_9, x0_10, x0_11⟩ := F0.out
  go_upto_region 2 with (go_at_call 44; refine (l1Next_t sb B a len cap (T) h.fl _ FS.out (by omega) (by omega) (by omega)).mono ?_; rintro e w1 ⟨x, rfl, hx, hs, hk⟩; have F0 : Hid (HAt w1 w.heap.size h) := F0.out.keeps hk (by omega); have FK : Hid (Keeps sb w w1) := FK.out.trans hk; have FS : Hid (SrcT w1 sb B a len cap (T + 1)) := hs; clear hk hs; obtain ⟨x0_0, x0_1, x0_2, x0_3, x0_4, x0_5, x0_6, x0_7, x0_8, x0_9, x0_10, x0_11⟩ := F0.out)
  go_upto_region 3 with (go_at_call 44; refine (l1Next_t sb B a len cap (T + 1) h.fl _ FS.out (by omega) (by omega) (by omega)).mono ?_; rintro e w2 ⟨y, rfl, hy, hs, hk⟩; have F0 : Hid (HAt w2 w.heap.size h) := F0.out.keeps hk (by omega); have FK : Hid (Keeps sb w w2) := FK.out.trans hk; have FS : Hid (SrcT w2 sb B a len cap (T + 1 + 1)) := hs; clear hk hs; obtain ⟨x0_0, x0_1, x0_2, x0_3, x0_4, x0_5, x0_6, x0_7, x0_8, x0_9, x0_10, x0_11⟩ := F0.out)
  have ew : IntKind.i64.wrap ((x : Int) + 1) = (x : Int) + 1 := IntWalk.i64_in _ (by omega)
  by_cases exy : x = y
  case neg =>
    have bxy : ((x : Int) == (y : Int)) = false := by simp; omega
    go_upto_region 5 with fail
    have F0 : Hid (HAt w2.drew w.heap.size h) := F0.out.below (Below.refl _ _).drew F0.out.lt
    have FS : Hid (SrcT w2.drew sb B a len cap (T + 1 + 1)) := FS.out.drew
    have FK : Hid (Keeps sb w w2.drew) := FK.out.of_below (Below.refl _ _).drew
    have mf := F0.out.c0
    refine wp_region_held_drew (S := (fun w'' => w''.cell? ⟨w.heap.size, 0, none⟩ = some (.int .i64 h.fl))) (by kernel_rfl) (by (try dsimp only); first | exact mf | go_keep) (fun hHeld => ?_)
    obtain ⟨v_1, hw1⟩ : ∃ v_1, v_1 = w2.drew := ⟨_, rfl⟩
    have F0 : Hid (HAt v_1 w.heap.size h) := by rw [hw1]; exact F0.out
    have FS : Hid (SrcT v_1 sb B a len cap (T + 1 + 1)) := by rw [hw1]; exact FS.out
    have FK : Hid (Keeps sb w v_1) := by rw [hw1]; exact FK.out
    rw [← hw1] at hHeld ⊢
    clear hw1
    have mf := F0.out.c0
    refine tkz 0 rfl ?_
    refine tkz 1 rfl ?_
    refine tkz 2 rfl ?_
    refine tkz 3 rfl ?_
    refine tkz 4 rfl ?_
    refine tkz 5 rfl ?_
    refine tkz 6 rfl ?_
    refine tkz 7 rfl ?_
    refine tkz 8 rfl ?_
    refine tkz 11 rfl ?_
    refine tkz 12 rfl ?_
    refine tkz 13 rfl ?_
    refine tkz 14 rfl ?_
    refine tkz 15 rfl ?_
    refine tkz 16 rfl ?_
    refine tkz 17 rfl ?_
    refine tkz 18 rfl ?_
    refine tkz 19 rfl ?_
    refine wpAnyH_ready (rs := [9, 20]) (by kernel_rfl) (by simp) ?_
    refine (AllReadyH.cons rfl (fun K hK => ?_) (AllReadyH.cons rfl (fun K hK => ?_) AllReadyH.nil))
    · go_simp
      obtain ⟨lb9, hbb⟩ : ∃ lb9, lb9 = v_1.heap.size := ⟨_, rfl⟩
      obtain ⟨v_2, hw2⟩ : ∃ v_2, v_2 = v_1.alloc (.cells #[.int .i64 (x : Int), .int .i64 (x : Int), .int .i64 (x : Int), .int .i64 (x : Int), .int .i64 (x : Int), .int .i64 (x : Int), .int .i64 (-1), .int .i64 h.fl] 2) := ⟨_, rfl⟩
      have nlb9_0 := F0.out.lt
      rw [← hbb] at nlb9_0
      have nlb9_s := FS.out.lt
      rw [← hbb] at nlb9_s
      have FL9 : Hid (LstAt v_2 lb9 [(x : Int), (x : Int), (x : Int), (x : Int), (x : Int), (x : Int), (-1), h.fl]) := by rw [hw2]; exact LstAt.new v_1 [(x : Int), (x : Int), (x : Int), (x : Int), (x : Int), (x : Int), (-1), h.fl] 2 lb9 hbb (by simp)
      have F0 : Hid (HAt v_2 w.heap.size h) := by rw [hw2]; exact F0.out.alloc _
      have FS : Hid (SrcT v_2 sb B a len cap (T + 1 + 1)) := by rw [hw2]; exact FS.out.alloc _
      have FK : Hid (Keeps sb w v_2) := by rw [hw2]; exact FK.out.alloc _
      rw [← hw2, ← hbb]
      clear hbb hw2
      have mf := F0.out.c0
      refine hK.out _ _ (by (try dsimp only); first | exact mf | go_keep) (fun hHeld => ?_)
      clear hK K
      try simp only [Act.put, List.getElem_toArray, List.getElem_cons_succ, List.getElem_cons_zero, List.setIfInBounds_toArray, List.set_cons_zero, List.set_cons_succ]
      refine wpAnyH_ready (rs := [10, 20]) (by kernel_rfl) (by simp) ?_
      refine (AllReadyH.cons rfl (fun K hK => ?_) (AllReadyH.cons rfl (fun K hK => ?_) AllReadyH.nil))
      · go_simp
        refine (l1Pick_t sb B lb9 [(x : Int), (x : Int), (x : Int), (x : Int), (x : Int), (x : Int), (-1), h.fl] (fun _ => True) (fun _ _ => trivial) a len cap _ _ FS.out (by omega) FL9.out (by simp) (by omega)).mono ?_
        rintro e v_3 ⟨p, rfl, -, hs, hk⟩
        have F0 : Hid (HAt v_3 w.heap.size h) := F0.out.keeps hk (by omega)
        have FS : Hid (SrcT v_3 sb B a len cap ((T + 1 + 1) + 1)) := hs
        have FK : Hid (Keeps sb w v_3) := FK.out.trans hk
        have FL9 : Hid (LstAt v_3 lb9 [(x : Int), (x : Int), (x : Int), (x : Int), (x : Int), (x : Int), (-1), h.fl]) := FL9.out.keeps hk (by omega)
        clear hs hk
        have mf := F0.out.c0
        try dsimp only
        refine hK.out _ _ (by (try dsimp only); first | exact mf | go_keep) (fun hHeld => ?_)
        clear hK K
        try simp only [Act.put, List.getElem_toArray, List.getElem_cons_succ, List.getElem_cons_zero, List.setIfInBounds_toArray, List.set_cons_zero, List.set_cons_succ]
        refine wpAnyH_ready (rs := [20]) (by kernel_rfl) (by simp) ?_
        refine (AllReadyH.cons rfl (fun K hK => ?_) AllReadyH.nil)
        go_simp
        obtain ⟨lb20, hbb⟩ : ∃ lb20, lb20 = v_3.heap.size := ⟨_, rfl⟩
        obtain ⟨v_4, hw2⟩ : ∃ v_4, v_4 = v_3.alloc (.cells #[.int .i64 (y : Int), .int .i64 (y : Int), .int .i64 (y : Int), .int .i64 (y : Int), .int .i64 (y : Int), .int .i64 (y : Int), .int .i64 (-1), .int .i64 h.fl] 2) := ⟨_, rfl⟩
        have nlb20_0 := F0.out.lt
        rw [← hbb] at nlb20_0
        have nlb20_s := FS.out.lt
        rw [← hbb] at nlb20_s
        have nlb20_3 := FL9.out.lt
        rw [← hbb] at nlb20_3
        have FL20 : Hid (LstAt v_4 lb20 [(y : Int), (y : Int), (y : Int), (y : Int), (y : Int), (y : Int), (-1), h.fl]) := by rw [hw2]; exact LstAt.new v_3 [(y : Int), (y : Int), (y : Int), (y : Int), (y : Int), (y : Int), (-1), h.fl] 2 lb20 hbb (by simp)
        have F0 : Hid (HAt v_4 w.heap.size h) := by rw [hw2]; exact F0.out.alloc _
        have FS : Hid (SrcT v_4 sb B a len cap ((T + 1 + 1) + 1)) := by rw [hw2]; exact FS.out.alloc _
        have FK : Hid (Keeps sb w v_4) := by rw [hw2]; exact FK.out.alloc _
        have FL9 : Hid (LstAt v_4 lb9 [(x : Int), (x : Int), (x : Int), (x : Int), (x : Int), (x : Int), (-1), h.fl]) := by rw [hw2]; exact FL9.out.alloc _
        rw [← hw2, ← hbb]
        clear hbb hw2
        have mf := F0.out.c0
        refine hK.out _ _ (by (try dsimp only); first | exact mf | go_keep) (fun hHeld => ?_)
        clear hK K
        try simp only [Act.put, List.getElem_toArray, List.getElem_cons_succ, List.getElem_cons_zero, List.setIfInBounds_toArray, List.set_cons_zero, List.set_cons_succ]
        refine wpAnyH_ready (rs := [21]) (by kernel_rfl) (by simp) ?_
        refine (AllReadyH.cons rfl (fun K hK => ?_) AllReadyH.nil)
        go_simp
        refine (l1Pick_t sb B lb20 [(y : Int), (y : Int), (y : Int), (y : Int), (y : Int), (y : Int), (-1), h.fl] (fun _ => True) (fun _ _ => trivial) a len cap _ _ FS.out (by omega) FL20.out (by simp) (by omega)).mono ?_
        rintro e v_5 ⟨q, rfl, -, hs, hk⟩
        have F0 : Hid (HAt v_5 w.heap.size h) := F0.out.keeps hk (by omega)
        have FS : Hid (SrcT v_5 sb B a len cap (((T + 1 + 1) + 1) + 1)) := hs
        have FK : Hid (Keeps sb w v_5) := FK.out.trans hk
        have FL9 : Hid (LstAt v_5 lb9 [(x : Int), (x : Int), (x : Int), (x : Int), (x : Int), (x : Int), (-1), h.fl]) := FL9.out.keeps hk (by omega)
        have FL20 : Hid (LstAt v_5 lb20 [(y : Int), (y : Int), (y : Int), (y : Int), (y : Int), (y : Int), (-1), h.fl]) := FL20.out.keeps hk (by omega)
        clear hs hk
        have mf := F0.out.c0
        try dsimp only
        refine hK.out _ _ (by (try dsimp only); first | exact mf | go_keep) (fun hHeld => ?_)
        clear hK K
        try simp only [Act.put, List.getElem_toArray, List.getElem_cons_succ, List.getElem_cons_zero, List.setIfInBounds_toArray, List.set_cons_zero, List.set_cons_succ]
        refine tkz 22 rfl ?_
        refine tkz 23 rfl ?_
        refine wpAnyH_done (by kernel_rfl) ?_ _
        go_wp2_with fail
        go_ret2
        exact ⟨_, _, rfl, FS.out.more (by omega), FK.out⟩
      · go_simp
        obtain ⟨lb20, hbb⟩ : ∃ lb20, lb20 = v_2.heap.size := ⟨_, rfl⟩
        obtain ⟨v_6, hw2⟩ : ∃ v_6, v_6 = v_2.alloc (.cells #[.int .i64 (y : Int), .int .i64 (y : Int), .int .i64 (y : Int), .int .i64 (y : Int), .int .i64 (y : Int), .int .i64 (y : Int), .int .i64 (-1), .int .i64 h.fl] 2) := ⟨_, rfl⟩
        have nlb20_0 := F0.out.lt
        rw [← hbb] at nlb20_0
        have nlb20_s := FS.out.lt
        rw [← hbb] at nlb20_s
        have nlb20_3 := FL9.out.lt
        rw [← hbb] at nlb20_3
        have FL20 : Hid (LstAt v_6 lb20 [(y : Int), (y : Int), (y : Int), (y : Int), (y : Int), (y : Int), (-1), h.fl]) := by rw [hw2]; exact LstAt.new v_2 [(y : Int), (y : Int), (y : Int), (y : Int), (y : Int), (y : Int), (-1), h.fl] 2 lb20 hbb (by simp)
        have F0 : Hid (HAt v_6 w.heap.size h) := by rw [hw2]; exact F0.out.alloc _
        have FS : Hid (SrcT v_6 sb B a len cap (T + 1 + 1)) := by rw [hw2]; exact FS.out.alloc _
        have FK : Hid (Keeps sb w v_6) := by rw [hw2]; exact FK.out.alloc _
        have FL9 : Hid (LstAt v_6 lb9 [(x : Int), (x : Int), (x : Int), (x : Int), (x : Int), (x : Int), (-1), h.fl]) := by rw [hw2]; exact FL9.out.alloc _
        rw [← hw2, ← hbb]
        clear hbb hw2
        have mf := F0.out.c0
        refine hK.out _ _ (by (try dsimp only); first | exact mf | go_keep) (fun hHeld => ?_)
        clear hK K
        try simp only [Act.put, List.getElem_toArray, List.getElem_cons_succ, List.getElem_cons_zero, List.setIfInBounds_toArray, List.set_cons_zero, List.set_cons_succ]
        refine wpAnyH_ready (rs := [10]) (by kernel_rfl) (by simp) ?_
        refine (AllReadyH.cons rfl (fun K hK => ?_) AllReadyH.nil)
        go_simp
        refine (l1Pick_t sb B lb9 [(x : Int), (x : Int), (x : Int), (x : Int), (x : Int), (x : Int), (-1), h.fl] (fun _ => True) (fun _ _ => trivial) a len cap _ _ FS.out (by omega) FL9.out (by simp) (by omega)).mono ?_
        rintro e v_7 ⟨p, rfl, -, hs, hk⟩
        have F0 : Hid (HAt v_7 w.heap.size h) := F0.out.keeps hk (by omega)
        have FS : Hid (SrcT v_7 sb B a len cap ((T + 1 + 1) + 1)) := hs
        have FK : Hid (Keeps sb w v_7) := FK.out.trans hk
        have FL9 : Hid (LstAt v_7 lb9 [(x : Int), (x : Int), (x : Int), (x : Int), (x : Int), (x : Int), (-1), h.fl]) := FL9.out.keeps hk (by omega)
        have FL20 : Hid (LstAt v_7 lb20 [(y : Int), (y : Int), (y : Int), (y : Int), (y : Int), (y : Int), (-1), h.fl]) := FL20.out.keeps hk (by omega)
        clear hs hk
        have mf := F0.out.c0
        try dsimp only
        refine hK.out _ _ (by (try dsimp only); first | exact mf | go_keep) (fun hHeld => ?_)
        clear hK K
        try simp only [Act.put, List.getElem_toArray, List.getElem_cons_succ, List.getElem_cons_zero, List.setIfInBounds_toArray, List.set_cons_zero, List.set_cons_succ]
        refine wpAnyH_ready (rs := [21]) (by kernel_rfl) (by simp) ?_
        refine (AllReadyH.cons rfl (fun K hK => ?_) AllReadyH.nil)
        go_simp
        refine (l1Pick_t sb B lb20 [(y : Int), (y : Int), (y : Int), (y : Int), (y : Int), (y : Int), (-1), h.fl] (fun _ => True) (fun _ _ => trivial) a len cap _ _ FS.out (by omega) FL20.out (by simp) (by omega)).mono ?_
        rintro e v_8 ⟨q, rfl, -, hs, hk⟩
        have F0 : Hid (HAt v_8 w.heap.size h) := F0.out.keeps hk (by omega)
        have FS : Hid (SrcT v_8 sb B a len cap (((T + 1 + 1) + 1) + 1)) := hs
        have FK : Hid (Keeps sb w v_8) := FK.out.trans hk
        have FL9 : Hid (LstAt v_8 lb9 [(x : Int), (x : Int), (x : Int), (x : Int), (x : Int), (x : Int), (-1), h.fl]) := FL9.out.keeps hk (by omega)
        have FL20 : Hid (LstAt v_8 lb20 [(y : Int), (y : Int), (y : Int), (y : Int), (y : Int), (y : Int), (-1), h.fl]) := FL20.out.keeps hk (by omega)
        clear hs hk
        have mf := F0.out.c0
        try dsimp only
        refine hK.out _ _ (by (try dsimp only); first | exact mf | go_keep) (fun hHeld => ?_)
        clear hK K
        try simp only [Act.put, List.getElem_toArray, List.getElem_cons_succ, List.getElem_cons_zero, List.setIfInBounds_toArray, List.set_cons_zero, List.set_cons_succ]
        refine tkz 22 rfl ?_
        refine tkz 23 rfl ?_
        refine wpAnyH_done (by kernel_rfl) ?_ _
        go_wp2_with fail
        go_ret2
        exact ⟨_, _, rfl, FS.out.more (by omega), FK.out⟩
    · go_simp
      obtain ⟨lb20, hbb⟩ : ∃ lb20, lb20 = v_1.heap.size := ⟨_, rfl⟩
      obtain ⟨v_9, hw2⟩ : ∃ v_9, v_9 = v_1.alloc (.cells #[.int .i64 (y : Int), .int .i64 (y : Int), .int .i64 (y : Int), .int .i64 (y : Int), .int .i64 (y : Int), .int .i64 (y : Int), .int .i64 (-1), .int .i64 h.fl] 2) := ⟨_, rfl⟩
      have nlb20_0 := F0.out.lt
      rw [← hbb] at nlb20_0
      have nlb20_s := FS.out.lt
      rw [← hbb] at nlb20_s
      have FL20 : Hid (LstAt v_9 lb20 [(y : Int), (y : Int), (y : Int), (y : Int), (y : Int), (y : Int), (-1), h.fl]) := by rw [hw2]; exact LstAt.new v_1 [(y : Int), (y : Int), (y : Int), (y : Int), (y : Int), (y : Int), (-1), h.fl] 2 lb20 hbb (by simp)
      have F0 : Hid (HAt v_9 w.heap.size h) := by rw [hw2]; exact F0.out.alloc _
      have FS : Hid (SrcT v_9 sb B a len cap (T + 1 + 1)) := by rw [hw2]; exact FS.out.alloc _
      have FK : Hid (Keeps sb w v_9) := by rw [hw2]; exact FK.out.alloc _
      rw [← hw2, ← hbb]
      clear hbb hw2
      have mf := F0.out.c0
      refine hK.out _ _ (by (try dsimp only); first | exact mf | go_keep) (fun hHeld => ?_)
      clear hK K
      try simp only [Act.put, List.getElem_toArray, List.getElem_cons_succ, List.getElem_cons_zero, List.setIfInBounds_toArray, List.set_cons_zero, List.set_cons_succ]
      refine wpAnyH_ready (rs := [9]) (by kernel_rfl) (by simp) ?_
      refine (AllReadyH.cons rfl (fun K hK => ?_) AllReadyH.nil)
      go_simp
      obtain ⟨lb9, hbb⟩ : ∃ lb9, lb9 = v_9.heap.size := ⟨_, rfl⟩
      obtain ⟨v_10, hw2⟩ : ∃ v_10, v_10 = v_9.alloc (.cells #[.int .i64 (x : Int), .int .i64 (x : Int), .int .i64 (x : Int), .int .i64 (x : Int), .int .i64 (x : Int), .int .i64 (x : Int), .int .i64 (-1), .int .i64 h.fl] 2) := ⟨_, rfl⟩
      have nlb9_0 := F0.out.lt
      rw [← hbb] at nlb9_0
      have nlb9_s := FS.out.lt
      rw [← hbb] at nlb9_s
      have nlb9_3 := FL20.out.lt
      rw [← hbb] at nlb9_3
      have FL9 : Hid (LstAt v_10 lb9 [(x : Int), (x : Int), (x : Int), (x : Int), (x : Int), (x : Int), (-1), h.fl]) := by rw [hw2]; exact LstAt.new v_9 [(x : Int), (x : Int), (x : Int), (x : Int), (x : Int), (x : Int), (-1), h.fl] 2 lb9 hbb (by simp)
      have F0 : Hid (HAt v_10 w.heap.size h) := by rw [hw2]; exact F0.out.alloc _
      have FS : Hid (SrcT v_10 sb B a len cap (T + 1 + 1)) := by rw [hw2]; exact FS.out.alloc _
      have FK : Hid (Keeps sb w v_10) := by rw [hw2]; exact FK.out.alloc _
      have FL20 : Hid (LstAt v_10 lb20 [(y : Int), (y : Int), (y : Int), (y : Int), (y : Int), (y : Int), (-1), h.fl]) := by rw [hw2]; exact FL20.out.alloc _
      rw [← hw2, ← hbb]
      clear hbb hw2
      have mf := F0.out.c0
      refine hK.out _ _ (by (try dsimp only); first | exact mf | go_keep) (fun hHeld => ?_)
      clear hK K
      try simp only [Act.put, List.getElem_toArray, List.getElem_cons_succ, List.getElem_cons_zero, List.setIfInBounds_toArray, List.set_cons_zero, List.set_cons_succ]
      refine wpAnyH_ready (rs := [10]) (by kernel_rfl) (by simp) ?_
      refine (AllReadyH.cons rfl (fun K hK => ?_) AllReadyH.nil)
      go_simp
      refine (l1Pick_t sb B lb9 [(x : Int), (x : Int), (x : Int), (x : Int), (x : Int), (x : Int), (-1), h.fl] (fun _ => True) (fun _ _ => trivial) a len cap _ _ FS.out (by omega) FL9.out (by simp) (by omega)).mono ?_
      rintro e v_11 ⟨p, rfl, -, hs, hk⟩
      have F0 : Hid (HAt v_11 w.heap.size h) := F0.out.keeps hk (by omega)
      have FS : Hid (SrcT v_11 sb B a len cap ((T + 1 + 1) + 1)) := hs
      have FK : Hid (Keeps sb w v_11) := FK.out.trans hk
      have FL20 : Hid (LstAt v_11 lb20 [(y : Int), (y : Int), (y : Int), (y : Int), (y : Int), (y : Int), (-1), h.fl]) := FL20.out.keeps hk (by omega)
      have FL9 : Hid (LstAt v_11 lb9 [(x : Int), (x : Int), (x : Int), (x : Int), (x : Int), (x : Int), (-1), h.fl]) := FL9.out.keeps hk (by omega)
      clear hs hk
      have mf := F0.out.c0
      try dsimp only
      refine hK.out _ _ (by (try dsimp only); first | exact mf | go_keep) (fun hHeld => ?_)
      clear hK K
      try simp only [Act.put, List.getElem_toArray, List.getElem_cons_succ, List.getElem_cons_zero, List.setIfInBounds_toArray, List.set_cons_zero, List.set_cons_succ]
      refine wpAnyH_ready (rs := [21]) (by kernel_rfl) (by simp) ?_
      refine (AllReadyH.cons rfl (fun K hK => ?_) AllReadyH.nil)
      go_simp
      refine (l1Pick_t sb B lb20 [(y : Int), (y : Int), (y : Int), (y : Int), (y : Int), (y : Int), (-1), h.fl] (fun _ => True) (fun _ _ => trivial) a len cap _ _ FS.out (by omega) FL20.out (by simp) (by omega)).mono ?_
      rintro e v_12 ⟨q, rfl, -, hs, hk⟩
      have F0 : Hid (HAt v_12 w.heap.size h) := F0.out.keeps hk (by omega)
      have FS : Hid (SrcT v_12 sb B a len cap (((T + 1 + 1) + 1) + 1)) := hs
      have FK : Hid (Keeps sb w v_12) := FK.out.trans hk
      have FL20 : Hid (LstAt v_12 lb20 [(y : Int), (y : Int), (y : Int), (y : Int), (y : Int), (y : Int), (-1), h.fl]) := FL20.out.keeps hk (by omega)
      have FL9 : Hid (LstAt v_12 lb9 [(x : Int), (x : Int), (x : Int), (x : Int), (x : Int), (x : Int), (-1), h.fl]) := FL9.out.keeps hk (by omega)
      clear hs hk
      have mf := F0.out.c0
      try dsimp only
      refine hK.out _ _ (by (try dsimp only); first | exact mf | go_keep) (fun hHeld => ?_)
      clear hK K
      try simp only [Act.put, List.getElem_toArray, List.getElem_cons_succ, List.getElem_cons_zero, List.setIfInBounds_toArray, List.set_cons_zero, List.set_cons_succ]
      refine tkz 22 rfl ?_
      refine tkz 23 rfl ?_
      refine wpAnyH_done (by kernel_rfl) ?_ _
      go_wp2_with fail
      go_ret2
      exact ⟨_, _, rfl, FS.out.more (by omega), FK.out⟩
  subst exy
  have bxy : ((x : Int) == (x : Int)) = true := by simp
  go_upto_region 5 with (go_at_call 24; refine (l1Chance_t sb B a len cap (T + 1 + 1) 8 _ FS.out (by omega) (by omega) (by omega)).mono ?_; rintro e w3 ⟨cc, rfl, hs, hk⟩; have F0 : Hid (HAt w3 w.heap.size h) := F0.out.keeps hk (by omega); have FK : Hid (Keeps sb w w3) := FK.out.trans hk; have FS : Hid (SrcT w3 sb B a len cap (T + 1 + 1 + 1)) := hs; clear hk hs; obtain ⟨x0_0, x0_1, x0_2, x0_3, x0_4, x0_5, x0_6, x0_7, x0_8, x0_9, x0_10, x0_11⟩ := F0.out)
  · obtain ⟨z, hz⟩ : ∃ z, z = ((x : Int) + 1) % h.fl := ⟨_, rfl⟩
    rw [← hz]
    clear hz
    have F0 : Hid (HAt w3.drew w.heap.size h) := F0.out.below (Below.refl _ _).drew F0.out.lt
    have FS : Hid (SrcT w3.drew sb B a len cap (T + 1 + 1 + 1)) := FS.out.drew
    have FK : Hid (Keeps sb w w3.drew) := FK.out.of_below (Below.refl _ _).drew
    have mf := F0.out.c0
    refine wp_region_held_drew (S := (fun w'' => w''.cell? ⟨w.heap.size, 0, none⟩ = some (.int .i64 h.fl))) (by kernel_rfl) (by (try dsimp only); first | exact mf | go_keep) (fun hHeld => ?_)
    obtain ⟨v_13, hw1⟩ : ∃ v_13, v_13 = w3.drew := ⟨_, rfl⟩
    have F0 : Hid (HAt v_13 w.heap.size h) := by rw [hw1]; exact F0.out
    have FS : Hid (SrcT v_13 sb B a len cap (T + 1 + 1 + 1)) := by rw [hw1]; exact FS.out
    have FK : Hid (Keeps sb w v_13) := by rw [hw1]; exact FK.out
    rw [← hw1] at hHeld ⊢
    clear hw1
    have mf := F0.out.c0
    refine tkz 0 rfl ?_
    refine tkz 1 rfl ?_
    refine tkz 2 rfl ?_
    refine tkz 3 rfl ?_
    refine tkz 4 rfl ?_
    refine tkz 5 rfl ?_
    refine tkz 6 rfl ?_
    refine tkz 7 rfl ?_
    refine tkz 8 rfl ?_
    refine tkz 11 rfl ?_
    refine tkz 12 rfl ?_
    refine tkz 13 rfl ?_
    refine tkz 14 rfl ?_
    refine tkz 15 rfl ?_
    refine tkz 16 rfl ?_
    refine tkz 17 rfl ?_
    refine tkz 18 rfl ?_
    refine tkz 19 rfl ?_
    refine wpAnyH_ready (rs := [9, 20]) (by kernel_rfl) (by simp) ?_
    refine (AllReadyH.cons rfl (fun K hK => ?_) (AllReadyH.cons rfl (fun K hK => ?_) AllReadyH.nil))
    · go_simp
      obtain ⟨lb9, hbb⟩ : ∃ lb9, lb9 = v_13.heap.size := ⟨_, rfl⟩
      obtain ⟨v_14, hw2⟩ : ∃ v_14, v_14 = v_13.alloc (.cells #[.int .i64 (x : Int), .int .i64 (x : Int), .int .i64 (x : Int), .int .i64 (x : Int), .int .i64 (x : Int), .int .i64 (x : Int), .int .i64 (-1), .int .i64 h.fl] 2) := ⟨_, rfl⟩
      have nlb9_0 := F0.out.lt
      rw [← hbb] at nlb9_0
      have nlb9_s := FS.out.lt
      rw [← hbb] at nlb9_s
      have FL9 : Hid (LstAt v_14 lb9 [(x : Int), (x : Int), (x : Int), (x : Int), (x : Int), (x : Int), (-1), h.fl]) := by rw [hw2]; exact LstAt.new v_13 [(x : Int), (x : Int), (x : Int), (x : Int), (x : Int), (x : Int), (-1), h.fl] 2 lb9 hbb (by simp)
      have F0 : Hid (HAt v_14 w.heap.size h) := by rw [hw2]; exact F0.out.alloc _
      have FS : Hid (SrcT v_14 sb B a len cap (T + 1 + 1 + 1)) := by rw [hw2]; exact FS.out.alloc _
      have FK : Hid (Keeps sb w v_14) := by rw [hw2]; exact FK.out.alloc _
      rw [← hw2, ← hbb]
      clear hbb hw2
      have mf := F0.out.c0
      refine hK.out _ _ (by (try dsimp only); first | exact mf | go_keep) (fun hHeld => ?_)
      clear hK K
      try simp only [Act.put, List.getElem_toArray, List.getElem_cons_succ, List.getElem_cons_zero, List.setIfInBounds_toArray, List.set_cons_zero, List.set_cons_succ]
      refine wpAnyH_ready (rs := [10, 20]) (by kernel_rfl) (by simp) ?_
      refine (AllReadyH.cons rfl (fun K hK => ?_) (AllReadyH.cons rfl (fun K hK => ?_) AllReadyH.nil))
      · go_simp
        refine (l1Pick_t sb B lb9 [(x : Int), (x : Int), (x : Int), (x : Int), (x : Int), (x : Int), (-1), h.fl] (fun _ => True) (fun _ _ => trivial) a len cap _ _ FS.out (by omega) FL9.out (by simp) (by omega)).mono ?_
        rintro e v_15 ⟨p, rfl, -, hs, hk⟩
        have F0 : Hid (HAt v_15 w.heap.size h) := F0.out.keeps hk (by omega)
        have FS : Hid (SrcT v_15 sb B a len cap ((T + 1 + 1 + 1) + 1)) := hs
        have FK : Hid (Keeps sb w v_15) := FK.out.trans hk
        have FL9 : Hid (LstAt v_15 lb9 [(x : Int), (x : Int), (x : Int), (x : Int), (x : Int), (x : Int), (-1), h.fl]) := FL9.out.keeps hk (by omega)
        clear hs hk
        have mf := F0.out.c0
        try dsimp only
        refine hK.out _ _ (by (try dsimp only); first | exact mf | go_keep) (fun hHeld => ?_)
        clear hK K
        try simp only [Act.put, List.getElem_toArray, List.getElem_cons_succ, List.getElem_cons_zero, List.setIfInBounds_toArray, List.set_cons_zero, List.set_cons_succ]
        refine wpAnyH_ready (rs := [20]) (by kernel_rfl) (by simp) ?_
        refine (AllReadyH.cons rfl (fun K hK => ?_) AllReadyH.nil)
        go_simp
        obtain ⟨lb20, hbb⟩ : ∃ lb20, lb20 = v_15.heap.size := ⟨_, rfl⟩
        obtain ⟨v_16, hw2⟩ : ∃ v_16, v_16 = v_15.alloc (.cells #[.int .i64 z, .int .i64 z, .int .i64 z, .int .i64 z, .int .i64 z, .int .i64 z, .int .i64 (-1), .int .i64 h.fl] 2) := ⟨_, rfl⟩
        have nlb20_0 := F0.out.lt
        rw [← hbb] at nlb20_0
        have nlb20_s := FS.out.lt
        rw [← hbb] at nlb20_s
        have nlb20_3 := FL9.out.lt
        rw [← hbb] at nlb20_3
        have FL20 : Hid (LstAt v_16 lb20 [z, z, z, z, z, z, (-1), h.fl]) := by rw [hw2]; exact LstAt.new v_15 [z, z, z, z, z, z, (-1), h.fl] 2 lb20 hbb (by simp)
        have F0 : Hid (HAt v_16 w.heap.size h) := by rw [hw2]; exact F0.out.alloc _
        have FS : Hid (SrcT v_16 sb B a len cap ((T + 1 + 1 + 1) + 1)) := by rw [hw2]; exact FS.out.alloc _
        have FK : Hid (Keeps sb w v_16) := by rw [hw2]; exact FK.out.alloc _
        have FL9 : Hid (LstAt v_16 lb9 [(x : Int), (x : Int), (x : Int), (x : Int), (x : Int), (x : Int), (-1), h.fl]) := by rw [hw2]; exact FL9.out.alloc _
        rw [← hw2, ← hbb]
        clear hbb hw2
        have mf := F0.out.c0
        refine hK.out _ _ (by (try dsimp only); first | exact mf | go_keep) (fun hHeld => ?_)
        clear hK K
        try simp only [Act.put, List.getElem_toArray, List.getElem_cons_succ, List.getElem_cons_zero, List.setIfInBounds_toArray, List.set_cons_zero, List.set_cons_succ]
        refine wpAnyH_ready (rs := [21]) (by kernel_rfl) (by simp) ?_
        refine (AllReadyH.cons rfl (fun K hK => ?_) AllReadyH.nil)
        go_simp
        refine (l1Pick_t sb B lb20 [z, z, z, z, z, z, (-1), h.fl] (fun _ => True) (fun _ _ => trivial) a len cap _ _ FS.out (by omega) FL20.out (by simp) (by omega)).mono ?_
        rintro e v_17 ⟨q, rfl, -, hs, hk⟩
        have F0 : Hid (HAt v_17 w.heap.size h) := F0.out.keeps hk (by omega)
        have FS : Hid (SrcT v_17 sb B a len cap (((T + 1 + 1 + 1) + 1) + 1)) := hs
        have FK : Hid (Keeps sb w v_17) := FK.out.trans hk
        have FL9 : Hid (LstAt v_17 lb9 [(x : Int), (x : Int), (x : Int), (x : Int), (x : Int), (x : Int), (-1), h.fl]) := FL9.out.keeps hk (by omega)
        have FL20 : Hid (LstAt v_17 lb20 [z, z, z, z, z, z, (-1), h.fl]) := FL20.out.keeps hk (by omega)
        clear hs hk
        have mf := F0.out.c0
        try dsimp only
        refine hK.out _ _ (by (try dsimp only); first | exact mf | go_keep) (fun hHeld => ?_)
        clear hK K
        try simp only [Act.put, List.getElem_toArray, List.getElem_cons_succ, List.getElem_cons_zero, List.setIfInBounds_toArray, List.set_cons_zero, List.set_cons_succ]
        refine tkz 22 rfl ?_
        refine tkz 23 rfl ?_
        refine wpAnyH_done (by kernel_rfl) ?_ _
        go_wp2_with fail
        go_ret2
        exact ⟨_, _, rfl, FS.out.more (by omega), FK.out⟩
      · go_simp
        obtain ⟨lb20, hbb⟩ : ∃ lb20, lb20 = v_14.heap.size := ⟨_, rfl⟩
        obtain ⟨v_18, hw2⟩ : ∃ v_18, v_18 = v_14.alloc (.cells #[.int .i64 z, .int .i64 z, .int .i64 z, .int .i64 z, .int .i64 z, .int .i64 z, .int .i64 (-1), .int .i64 h.fl] 2) := ⟨_, rfl⟩
        have nlb20_0 := F0.out.lt
        rw [← hbb] at nlb20_0
        have nlb20_s := FS.out.lt
        rw [← hbb] at nlb20_s
        have nlb20_3 := FL9.out.lt
        rw [← hbb] at nlb20_3
        have FL20 : Hid (LstAt v_18 lb20 [z, z, z, z, z, z, (-1), h.fl]) := by rw [hw2]; exact LstAt.new v_14 [z, z, z, z, z, z, (-1), h.fl] 2 lb20 hbb (by simp)
        have F0 : Hid (HAt v_18 w.heap.size h) := by rw [hw2]; exact F0.out.alloc _
        have FS : Hid (SrcT v_18 sb B a len cap (T + 1 + 1 + 1)) := by rw [hw2]; exact FS.out.alloc _
        have FK : Hid (Keeps sb w v_18) := by rw [hw2]; exact FK.out.alloc _
        have FL9 : Hid (LstAt v_18 lb9 [(x : Int), (x : Int), (x : Int), (x : Int), (x : Int), (x : Int), (-1), h.fl]) := by rw [hw2]; exact FL9.out.alloc _
        rw [← hw2, ← hbb]
        clear hbb hw2
        have mf := F0.out.c0
        refine hK.out _ _ (by (try dsimp only); first | exact mf | go_keep) (fun hHeld => ?_)
        clear hK K
        try simp only [Act.put, List.getElem_toArray, List.getElem_cons_succ, List.getElem_cons_zero, List.setIfInBounds_toArray, List.set_cons_zero, List.set_cons_succ]
        refine wpAnyH_ready (rs := [10]) (by kernel_rfl) (by simp) ?_
        refine (AllReadyH.cons rfl (fun K hK => ?_) AllReadyH.nil)
        go_simp
        refine (l1Pick_t sb B lb9 [(x : Int), (x : Int), (x : Int), (x : Int), (x : Int), (x : Int), (-1), h.fl] (fun _ => True) (fun _ _ => trivial) a len cap _ _ FS.out (by omega) FL9.out (by simp) (by omega)).mono ?_
        rintro e v_19 ⟨p, rfl, -, hs, hk⟩
        have F0 : Hid (HAt v_19 w.heap.size h) := F0.out.keeps hk (by omega)
        have FS : Hid (SrcT v_19 sb B a len cap ((T + 1 + 1 + 1) + 1)) := hs
        have FK : Hid (Keeps sb w v_19) := FK.out.trans hk
        have FL9 : Hid (LstAt v_19 lb9 [(x : Int), (x : Int), (x : Int), (x : Int), (x : Int), (x : Int), (-1), h.fl]) := FL9.out.keeps hk (by omega)
        have FL20 : Hid (LstAt v_19 lb20 [z, z, z, z, z, z, (-1), h.fl]) := FL20.out.keeps hk (by omega)
        clear hs hk
        have mf := F0.out.c0
        try dsimp only
        refine hK.out _ _ (by (try dsimp only); first | exact mf | go_keep) (fun hHeld => ?_)
        clear hK K
        try simp only [Act.put, List.getElem_toArray, List.getElem_cons_succ, List.getElem_cons_zero, List.setIfInBounds_toArray, List.set_cons_zero, List.set_cons_succ]
        refine wpAnyH_ready (rs := [21]) (by kernel_rfl) (by simp) ?_
        refine (AllReadyH.cons rfl (fun K hK => ?_) AllReadyH.nil)
        go_simp
        refine (l1Pick_t sb B lb20 [z, z, z, z, z, z, (-1), h.fl] (fun _ => True) (fun _ _ => trivial) a len cap _ _ FS.out (by omega) FL20.out (by simp) (by omega)).mono ?_
        rintro e v_20 ⟨q, rfl, -, hs, hk⟩
        have F0 : Hid (HAt v_20 w.heap.size h) := F0.out.keeps hk (by omega)
        have FS : Hid (SrcT v_20 sb B a len cap (((T + 1 + 1 + 1) + 1) + 1)) := hs
        have FK : Hid (Keeps sb w v_20) := FK.out.trans hk
        have FL9 : Hid (LstAt v_20 lb9 [(x : Int), (x : Int), (x : Int), (x : Int), (x : Int), (x : Int), (-1), h.fl]) := FL9.out.keeps hk (by omega)
        have FL20 : Hid (LstAt v_20 lb20 [z, z, z, z, z, z, (-1), h.fl]) := FL20.out.keeps hk (by omega)
        clear hs hk
        have mf := F0.out.c0
        try dsimp only
        refine hK.out _ _ (by (try dsimp only); first | exact mf | go_keep) (fun hHeld => ?_)
        clear hK K
        try simp only [Act.put, List.getElem_toArray, List.getElem_cons_succ, List.getElem_cons_zero, List.setIfInBounds_toArray, List.set_cons_zero, List.set_cons_succ]
        refine tkz 22 rfl ?_
        refine tkz 23 rfl ?_
        refine wpAnyH_done (by kernel_rfl) ?_ _
        go_wp2_with fail
        go_ret2
        exact ⟨_, _, rfl, FS.out.more (by omega), FK.out⟩
    · go_simp
      obtain ⟨lb20, hbb⟩ : ∃ lb20, lb20 = v_13.heap.size := ⟨_, rfl⟩
      obtain ⟨v_21, hw2⟩ : ∃ v_21, v_21 = v_13.alloc (.cells #[.int .i64 z, .int .i64 z, .int .i64 z, .int .i64 z, .int .i64 z, .int .i64 z, .int .i64 (-1), .int .i64 h.fl] 2) := ⟨_, rfl⟩
      have nlb20_0 := F0.out.lt
      rw [← hbb] at nlb20_0
      have nlb20_s := FS.out.lt
      rw [← hbb] at nlb20_s
      have FL20 : Hid (LstAt v_21 lb20 [z, z, z, z, z, z, (-1), h.fl]) := by rw [hw2]; exact LstAt.new v_13 [z, z, z, z, z, z, (-1), h.fl] 2 lb20 hbb (by simp)
      have F0 : Hid (HAt v_21 w.heap.size h) := by rw [hw2]; exact F0.out.alloc _
      have FS : Hid (SrcT v_21 sb B a len cap (T + 1 + 1 + 1)) := by rw [hw2]; exact FS.out.alloc _
      have FK : Hid (Keeps sb w v_21) := by rw [hw2]; exact FK.out.alloc _
      rw [← hw2, ← hbb]
      clear hbb hw2
      have mf := F0.out.c0
      refine hK.out _ _ (by (try dsimp only); first | exact mf | go_keep) (fun hHeld => ?_)
      clear hK K
      try simp only [Act.put, List.getElem_toArray, List.getElem_cons_succ, List.getElem_cons_zero, List.setIfInBounds_toArray, List.set_cons_zero, List.set_cons_succ]
      refine wpAnyH_ready (rs := [9]) (by kernel_rfl) (by simp) ?_
      refine (AllReadyH.cons rfl (fun K hK => ?_) AllReadyH.nil)
      go_simp
      obtain ⟨lb9, hbb⟩ : ∃ lb9, lb9 = v_21.heap.size := ⟨_, rfl⟩
      obtain ⟨v_22, hw2⟩ : ∃ v_22, v_22 = v_21.alloc (.cells #[.int .i64 (x : Int), .int .i64 (x : Int), .int .i64 (x : Int), .int .i64 (x : Int), .int .i64 (x : Int), .int .i64 (x : Int), .int .i64 (-1), .int .i64 h.fl] 2) := ⟨_, rfl⟩
      have nlb9_0 := F0.out.lt
      rw [← hbb] at nlb9_0
      have nlb9_s := FS.out.lt
      rw [← hbb] at nlb9_s
      have nlb9_3 := FL20.out.lt
      rw [← hbb] at nlb9_3
      have FL9 : Hid (LstAt v_22 lb9 [(x : Int), (x : Int), (x : Int), (x : Int), (x : Int), (x : Int), (-1), h.fl]) := by rw [hw2]; exact LstAt.new v_21 [(x : Int), (x : Int), (x : Int), (x : Int), (x : Int), (x : Int), (-1), h.fl] 2 lb9 hbb (by simp)
      have F0 : Hid (HAt v_22 w.heap.size h) := by rw [hw2]; exact F0.out.alloc _
      have FS : Hid (SrcT v_22 sb B a len cap (T + 1 + 1 + 1)) := by rw [hw2]; exact FS.out.alloc _
      have FK : Hid (Keeps sb w v_22) := by rw [hw2]; exact FK.out.alloc _
      have FL20 : Hid (LstAt v_22 lb20 [z, z, z, z, z, z, (-1), h.fl]) := by rw [hw2]; exact FL20.out.alloc _
      rw [← hw2, ← hbb]
      clear hbb hw2
      have mf := F0.out.c0
      refine hK.out _ _ (by (try dsimp only); first | exact mf | go_keep) (fun hHeld => ?_)
      clear hK K
      try simp only [Act.put, List.getElem_toArray, List.getElem_cons_succ, List.getElem_cons_zero, List.setIfInBounds_toArray, List.set_cons_zero, List.set_cons_succ]
      refine wpAnyH_ready (rs := [10]) (by kernel_rfl) (by simp) ?_
      refine (AllReadyH.cons rfl (fun K hK => ?_) AllReadyH.nil)
      go_simp
      refine (l1Pick_t sb B lb9 [(x : Int), (x : Int), (x : Int), (x : Int), (x : Int), (x : Int), (-1), h.fl] (fun _ => True) (fun _ _ => trivial) a len cap _ _ FS.out (by omega) FL9.out (by simp) (by omega)).mono ?_
      rintro e v_23 ⟨p, rfl, -, hs, hk⟩
      have F0 : Hid (HAt v_23 w.heap.size h) := F0.out.keeps hk (by omega)
      have FS : Hid (SrcT v_23 sb B a len cap ((T + 1 + 1 + 1) + 1)) := hs
      have FK : Hid (Keeps sb w v_23) := FK.out.trans hk
      have FL20 : Hid (LstAt v_23 lb20 [z, z, z, z, z, z, (-1), h.fl]) := FL20.out.keeps hk (by omega)
      have FL9 : Hid (LstAt v_23 lb9 [(x : Int), (x : Int), (x : Int), (x : Int), (x : Int), (x : Int), (-1), h.fl]) := FL9.out.keeps hk (by omega)
      clear hs hk
      have mf := F0.out.c0
      try dsimp only
      refine hK.out _ _ (by (try dsimp only); first | exact mf | go_keep) (fun hHeld => ?_)
      clear hK K
      try simp only [Act.put, List.getElem_toArray, List.getElem_cons_succ, List.getElem_cons_zero, List.setIfInBounds_toArray, List.set_cons_zero, List.set_cons_succ]
      refine wpAnyH_ready (rs := [21]) (by kernel_rfl) (by simp) ?_
      refine (AllReadyH.cons rfl (fun K hK => ?_) AllReadyH.nil)
      go_simp
      refine (l1Pick_t sb B lb20 [z, z, z, z, z, z, (-1), h.fl] (fun _ => True) (fun _ _ => trivial) a len cap _ _ FS.out (by omega) FL20.out (by simp) (by omega)).mono ?_
      rintro e v_24 ⟨q, rfl, -, hs, hk⟩
      have F0 : Hid (HAt v_24 w.heap.size h) := F0.out.keeps hk (by omega)
      have FS : Hid (SrcT v_24 sb B a len cap (((T + 1 + 1 + 1) + 1) + 1)) := hs
      have FK : Hid (Keeps sb w v_24) := FK.out.trans hk
      have FL20 : Hid (LstAt v_24 lb20 [z, z, z, z, z, z, (-1), h.fl]) := FL20.out.keeps hk (by omega)
      have FL9 : Hid (LstAt v_24 lb9 [(x : Int), (x : Int), (x : Int), (x : Int), (x : Int), (x : Int), (-1), h.fl]) := FL9.out.keeps hk (by omega)
      clear hs hk
      have mf := F0.out.c0
      try dsimp only
      refine hK.out _ _ (by (try dsimp only); first | exact mf | go_keep) (fun hHeld => ?_)
      clear hK K
      try simp only [Act.put, List.getElem_toArray, List.getElem_cons_succ, List.getElem_cons_zero, List.setIfInBounds_toArray, List.set_cons_zero, List.set_cons_succ]
      refine tkz 22 rfl ?_
      refine tkz 23 rfl ?_
      refine wpAnyH_done (by kernel_rfl) ?_ _
      go_wp2_with fail
      go_ret2
      exact ⟨_, _, rfl, FS.out.more (by omega), FK.out⟩
  · have F0 : Hid (HAt w3.drew w.heap.size h) := F0.out.below (Below.refl _ _).drew F0.out.lt
    have FS : Hid (SrcT w3.drew sb B a len cap (T + 1 + 1 + 1)) := FS.out.drew
    have FK : Hid (Keeps sb w w3.drew) := FK.out.of_below (Below.refl _ _).drew
    have mf := F0.out.c0
    refine wp_region_held_drew (S := (fun w'' => w''.cell? ⟨w.heap.size, 0, none⟩ = some (.int .i64 h.fl))) (by kernel_rfl) (by (try dsimp only); first | exact mf | go_keep) (fun hHeld => ?_)
    obtain ⟨v_25, hw1⟩ : ∃ v_25, v_25 = w3.drew := ⟨_, rfl⟩
    have F0 : Hid (HAt v_25 w.heap.size h) := by rw [hw1]; exact F0.out
    have FS : Hid (SrcT v_25 sb B a len cap (T + 1 + 1 + 1)) := by rw [hw1]; exact FS.out
    have FK : Hid (Keeps sb w v_25) := by rw [hw1]; exact FK.out
    rw [← hw1] at hHeld ⊢
    clear hw1
    have mf := F0.out.c0
    refine tkz 0 rfl ?_
    refine tkz 1 rfl ?_
    refine tkz 2 rfl ?_
    refine tkz 3 rfl ?_
    refine tkz 4 rfl ?_
    refine tkz 5 rfl ?_
    refine tkz 6 rfl ?_
    refine tkz 7 rfl ?_
    refine tkz 8 rfl ?_
    refine tkz 11 rfl ?_
    refine tkz 12 rfl ?_
    refine tkz 13 rfl ?_
    refine tkz 14 rfl ?_
    refine tkz 15 rfl ?_
    refine tkz 16 rfl ?_
    refine tkz 17 rfl ?_
    refine tkz 18 rfl ?_
    refine tkz 19 rfl ?_
    refine wpAnyH_ready (rs := [9, 20]) (by kernel_rfl) (by simp) ?_
    refine (AllReadyH.cons rfl (fun K hK => ?_) (AllReadyH.cons rfl (fun K hK => ?_) AllReadyH.nil))
    · go_simp
      obtain ⟨lb9, hbb⟩ : ∃ lb9, lb9 = v_25.heap.size := ⟨_, rfl⟩
      obtain ⟨v_26, hw2⟩ : ∃ v_26, v_26 = v_25.alloc (.cells #[.int .i64 (x : Int), .int .i64 (x : Int), .int .i64 (x : Int), .int .i64 (x : Int), .int .i64 (x : Int), .int .i64 (x : Int), .int .i64 (-1), .int .i64 h.fl] 2) := ⟨_, rfl⟩
      have nlb9_0 := F0.out.lt
      rw [← hbb] at nlb9_0
      have nlb9_s := FS.out.lt
      rw [← hbb] at nlb9_s
      have FL9 : Hid (LstAt v_26 lb9 [(x : Int), (x : Int), (x : Int), (x : Int), (x : Int), (x : Int), (-1), h.fl]) := by rw [hw2]; exact LstAt.new v_25 [(x : Int), (x : Int), (x : Int), (x : Int), (x : Int), (x : Int), (-1), h.fl] 2 lb9 hbb (by simp)
      have F0 : Hid (HAt v_26 w.heap.size h) := by rw [hw2]; exact F0.out.alloc _
      have FS : Hid (SrcT v_26 sb B a len cap (T + 1 + 1 + 1)) := by rw [hw2]; exact FS.out.alloc _
      have FK : Hid (Keeps sb w v_26) := by rw [hw2]; exact FK.out.alloc _
      rw [← hw2, ← hbb]
      clear hbb hw2
      have mf := F0.out.c0
      refine hK.out _ _ (by (try dsimp only); first | exact mf | go_keep) (fun hHeld => ?_)
      clear hK K
      try simp only [Act.put, List.getElem_toArray, List.getElem_cons_succ, List.getElem_cons_zero, List.setIfInBounds_toArray, List.set_cons_zero, List.set_cons_succ]
      refine wpAnyH_ready (rs := [10, 20]) (by kernel_rfl) (by simp) ?_
      refine (AllReadyH.cons rfl (fun K hK => ?_) (AllReadyH.cons rfl (fun K hK => ?_) AllReadyH.nil))
      · go_simp
        refine (l1Pick_t sb B lb9 [(x : Int), (x : Int), (x : Int), (x : Int), (x : Int), (x : Int), (-1), h.fl] (fun _ => True) (fun _ _ => trivial) a len cap _ _ FS.out (by omega) FL9.out (by simp) (by omega)).mono ?_
        rintro e v_27 ⟨p, rfl, -, hs, hk⟩
        have F0 : Hid (HAt v_27 w.heap.size h) := F0.out.keeps hk (by omega)
        have FS : Hid (SrcT v_27 sb B a len cap ((T + 1 + 1 + 1) + 1)) := hs
        have FK : Hid (Keeps sb w v_27) := FK.out.trans hk
        have FL9 : Hid (LstAt v_27 lb9 [(x : Int), (x : Int), (x : Int), (x : Int), (x : Int), (x : Int), (-1), h.fl]) := FL9.out.keeps hk (by omega)
        clear hs hk
        have mf := F0.out.c0
        try dsimp only
        refine hK.out _ _ (by (try dsimp only); first | exact mf | go_keep) (fun hHeld => ?_)
        clear hK K
        try simp only [Act.put, List.getElem_toArray, List.getElem_cons_succ, List.getElem_cons_zero, List.setIfInBounds_toArray, List.set_cons_zero, List.set_cons_succ]
        refine wpAnyH_ready (rs := [20]) (by kernel_rfl) (by simp) ?_
        refine (AllReadyH.cons rfl (fun K hK => ?_) AllReadyH.nil)
        go_simp
        obtain ⟨lb20, hbb⟩ : ∃ lb20, lb20 = v_27.heap.size := ⟨_, rfl⟩
        obtain ⟨v_28, hw2⟩ : ∃ v_28, v_28 = v_27.alloc (.cells #[.int .i64 (x : Int), .int .i64 (x : Int), .int .i64 (x : Int), .int .i64 (x : Int), .int .i64 (x : Int), .int .i64 (x : Int), .int .i64 (-1), .int .i64 h.fl] 2) := ⟨_, rfl⟩
        have nlb20_0 := F0.out.lt
        rw [← hbb] at nlb20_0
        have nlb20_s := FS.out.lt
        rw [← hbb] at nlb20_s
        have nlb20_3 := FL9.out.lt
        rw [← hbb] at nlb20_3
        have FL20 : Hid (LstAt v_28 lb20 [(x : Int), (x : Int), (x : Int), (x : Int), (x : Int), (x : Int), (-1), h.fl]) := by rw [hw2]; exact LstAt.new v_27 [(x : Int), (x : Int), (x : Int), (x : Int), (x : Int), (x : Int), (-1), h.fl] 2 lb20 hbb (by simp)
        have F0 : Hid (HAt v_28 w.heap.size h) := by rw [hw2]; exact F0.out.alloc _
        have FS : Hid (SrcT v_28 sb B a len cap ((T + 1 + 1 + 1) + 1)) := by rw [hw2]; exact FS.out.alloc _
        have FK : Hid (Keeps sb w v_28) := by rw [hw2]; exact FK.out.alloc _
        have FL9 : Hid (LstAt v_28 lb9 [(x : Int), (x : Int), (x : Int), (x : Int), (x : Int), (x : Int), (-1), h.fl]) := by rw [hw2]; exact FL9.out.alloc _
        rw [← hw2, ← hbb]
        clear hbb hw2
        have mf := F0.out.c0
        refine hK.out _ _ (by (try dsimp only); first | exact mf | go_keep) (fun hHeld => ?_)
        clear hK K
        try simp only [Act.put, List.getElem_toArray, List.getElem_cons_succ, List.getElem_cons_zero, List.setIfInBounds_toArray, List.set_cons_zero, List.set_cons_succ]
        refine wpAnyH_ready (rs := [21]) (by kernel_rfl) (by simp) ?_
        refine (AllReadyH.cons rfl (fun K hK => ?_) AllReadyH.nil)
        go_simp
        refine (l1Pick_t sb B lb20 [(x : Int), (x : Int), (x : Int), (x : Int), (x : Int), (x : Int), (-1), h.fl] (fun _ => True) (fun _ _ => trivial) a len cap _ _ FS.out (by omega) FL20.out (by simp) (by omega)).mono ?_
        rintro e v_29 ⟨q, rfl, -, hs, hk⟩
        have F0 : Hid (HAt v_29 w.heap.size h) := F0.out.keeps hk (by omega)
        have FS : Hid (SrcT v_29 sb B a len cap (((T + 1 + 1 + 1) + 1) + 1)) := hs
        have FK : Hid (Keeps sb w v_29) := FK.out.trans hk
        have FL9 : Hid (LstAt v_29 lb9 [(x : Int), (x : Int), (x : Int), (x : Int), (x : Int), (x : Int), (-1), h.fl]) := FL9.out.keeps hk (by omega)
        have FL20 : Hid (LstAt v_29 lb20 [(x : Int), (x : Int), (x : Int), (x : Int), (x : Int), (x : Int), (-1), h.fl]) := FL20.out.keeps hk (by omega)
        clear hs hk
        have mf := F0.out.c0
        try dsimp only
        refine hK.out _ _ (by (try dsimp only); first | exact mf | go_keep) (fun hHeld => ?_)
        clear hK K
        try simp only [Act.put, List.getElem_toArray, List.getElem_cons_succ, List.getElem_cons_zero, List.setIfInBounds_toArray, List.set_cons_zero, List.set_cons_succ]
        refine tkz 22 rfl ?_
        refine tkz 23 rfl ?_
        refine wpAnyH_done (by kernel_rfl) ?_ _
        go_wp2_with fail
        go_ret2
        exact ⟨_, _, rfl, FS.out.more (by omega), FK.out⟩
      · go_simp
        obtain ⟨lb20, hbb⟩ : ∃ lb20, lb20 = v_26.heap.size := ⟨_, rfl⟩
        obtain ⟨v_30, hw2⟩ : ∃ v_30, v_30 = v_26.alloc (.cells #[.int .i64 (x : Int), .int .i64 (x : Int), .int .i64 (x : Int), .int .i64 (x : Int), .int .i64 (x : Int), .int .i64 (x : Int), .int .i64 (-1), .int .i64 h.fl] 2) := ⟨_, rfl⟩
        have nlb20_0 := F0.out.lt
        rw [← hbb] at nlb20_0
        have nlb20_s := FS.out.lt
        rw [← hbb] at nlb20_s
        have nlb20_3 := FL9.out.lt
        rw [← hbb] at nlb20_3
        have FL20 : Hid (LstAt v_30 lb20 [(x : Int), (x : Int), (x : Int), (x : Int), (x : Int), (x : Int), (-1), h.fl]) := by rw [hw2]; exact LstAt.new v_26 [(x : Int), (x : Int), (x : Int), (x : Int), (x : Int), (x : Int), (-1), h.fl] 2 lb20 hbb (by simp)
        have F0 : Hid (HAt v_30 w.heap.size h) := by rw [hw2]; exact F0.out.alloc _
        have FS : Hid (SrcT v_30 sb B a len cap (T + 1 + 1 + 1)) := by rw [hw2]; exact FS.out.alloc _
        have FK : Hid (Keeps sb w v_30) := by rw [hw2]; exact FK.out.alloc _
        have FL9 : Hid (LstAt v_30 lb9 [(x : Int), (x : Int), (x : Int), (x : Int), (x : Int), (x : Int), (-1), h.fl]) := by rw [hw2]; exact FL9.out.alloc _
        rw [← hw2, ← hbb]
        clear hbb hw2
        have mf := F0.out.c0
        refine hK.out _ _ (by (try dsimp only); first | exact mf | go_keep) (fun hHeld => ?_)
        clear hK K
        try simp only [Act.put, List.getElem_toArray, List.getElem_cons_succ, List.getElem_cons_zero, List.setIfInBounds_toArray, List.set_cons_zero, List.set_cons_succ]
        refine wpAnyH_ready (rs := [10]) (by kernel_rfl) (by simp) ?_
        refine (AllReadyH.cons rfl (fun K hK => ?_) AllReadyH.nil)
        go_simp
        refine (l1Pick_t sb B lb9 [(x : Int), (x : Int), (x : Int), (x : Int), (x : Int), (x : Int), (-1), h.fl] (fun _ => True) (fun _ _ => trivial) a len cap _ _ FS.out (by omega) FL9.out (by simp) (by omega)).mono ?_
        rintro e v_31 ⟨p, rfl, -, hs, hk⟩
        have F0 : Hid (HAt v_31 w.heap.size h) := F0.out.keeps hk (by omega)
        have FS : Hid (SrcT v_31 sb B a len cap ((T + 1 + 1 + 1) + 1)) := hs
        have FK : Hid (Keeps sb w v_31) := FK.out.trans hk
        have FL9 : Hid (LstAt v_31 lb9 [(x : Int), (x : Int), (x : Int), (x : Int), (x : Int), (x : Int), (-1), h.fl]) := FL9.out.keeps hk (by omega)
        have FL20 : Hid (LstAt v_31 lb20 [(x : Int), (x : Int), (x : Int), (x : Int), (x : Int), (x : Int), (-1), h.fl]) := FL20.out.keeps hk (by omega)
        clear hs hk
        have mf := F0.out.c0
        try dsimp only
        refine hK.out _ _ (by (try dsimp only); first | exact mf | go_keep) (fun hHeld => ?_)
        clear hK K
        try simp only [Act.put, List.getElem_toArray, List.getElem_cons_succ, List.getElem_cons_zero, List.setIfInBounds_toArray, List.set_cons_zero, List.set_cons_succ]
        refine wpAnyH_ready (rs := [21]) (by kernel_rfl) (by simp) ?_
        refine (AllReadyH.cons rfl (fun K hK => ?_) AllReadyH.nil)
        go_simp
        refine (l1Pick_t sb B lb20 [(x : Int), (x : Int), (x : Int), (x : Int), (x : Int), (x : Int), (-1), h.fl] (fun _ => True) (fun _ _ => trivial) a len cap _ _ FS.out (by omega) FL20.out (by simp) (by omega)).mono ?_
        rintro e v_32 ⟨q, rfl, -, hs, hk⟩
        have F0 : Hid (HAt v_32 w.heap.size h) := F0.out.keeps hk (by omega)
        have FS : Hid (SrcT v_32 sb B a len cap (((T + 1 + 1 + 1) + 1) + 1)) := hs
        have FK : Hid (Keeps sb w v_32) := FK.out.trans hk
        have FL9 : Hid (LstAt v_32 lb9 [(x : Int), (x : Int), (x : Int), (x : Int), (x : Int), (x : Int), (-1), h.fl]) := FL9.out.keeps hk (by omega)
        have FL20 : Hid (LstAt v_32 lb20 [(x : Int), (x : Int), (x : Int), (x : Int), (x : Int), (x : Int), (-1), h.fl]) := FL20.out.keeps hk (by omega)
        clear hs hk
        have mf := F0.out.c0
        try dsimp only
        refine hK.out _ _ (by (try dsimp only); first | exact mf | go_keep) (fun hHeld => ?_)
        clear hK K
        try simp only [Act.put, List.getElem_toArray, List.getElem_cons_succ, List.getElem_cons_zero, List.setIfInBounds_toArray, List.set_cons_zero, List.set_cons_succ]
        refine tkz 22 rfl ?_
        refine tkz 23 rfl ?_
        refine wpAnyH_done (by kernel_rfl) ?_ _
        go_wp2_with fail
        go_ret2
        exact ⟨_, _, rfl, FS.out.more (by omega), FK.out⟩
    · go_simp
      obtain ⟨lb20, hbb⟩ : ∃ lb20, lb20 = v_25.heap.size := ⟨_, rfl⟩
      obtain ⟨v_33, hw2⟩ : ∃ v_33, v_33 = v_25.alloc (.cells #[.int .i64 (x : Int), .int .i64 (x : Int), .int .i64 (x : Int), .int .i64 (x : Int), .int .i64 (x : Int), .int .i64 (x : Int), .int .i64 (-1), .int .i64 h.fl] 2) := ⟨_, rfl⟩
      have nlb20_0 := F0.out.lt
      rw [← hbb] at nlb20_0
      have nlb20_s := FS.out.lt
      rw [← hbb] at nlb20_s
      have FL20 : Hid (LstAt v_33 lb20 [(x : Int), (x : Int), (x : Int), (x : Int), (x : Int), (x : Int), (-1), h.fl]) := by rw [hw2]; exact LstAt.new v_25 [(x : Int), (x : Int), (x : Int), (x : Int), (x : Int), (x : Int), (-1), h.fl] 2 lb20 hbb (by simp)
      have F0 : Hid (HAt v_33 w.heap.size h) := by rw [hw2]; exact F0.out.alloc _
      have FS : Hid (SrcT v_33 sb B a len cap (T + 1 + 1 + 1)) := by rw [hw2]; exact FS.out.alloc _
      have FK : Hid (Keeps sb w v_33) := by rw [hw2]; exact FK.out.alloc _
      rw [← hw2, ← hbb]
      clear hbb hw2
      have mf := F0.out.c0
      refine hK.out _ _ (by (try dsimp only); first | exact mf | go_keep) (fun hHeld => ?_)
      clear hK K
      try simp only [Act.put, List.getElem_toArray, List.getElem_cons_succ, List.getElem_cons_zero, List.setIfInBounds_toArray, List.set_cons_zero, List.set_cons_succ]
      refine wpAnyH_ready (rs := [9]) (by kernel_rfl) (by simp) ?_
      refine (AllReadyH.cons rfl (fun K hK => ?_) AllReadyH.nil)
      go_simp
      obtain ⟨lb9, hbb⟩ : ∃ lb9, lb9 = v_33.heap.size := ⟨_, rfl⟩
      obtain ⟨v_34, hw2⟩ : ∃ v_34, v_34 = v_33.alloc (.cells #[.int .i64 (x : Int), .int .i64 (x : Int), .int .i64 (x : Int), .int .i64 (x : Int), .int .i64 (x : Int), .int .i64 (x : Int), .int .i64 (-1), .int .i64 h.fl] 2) := ⟨_, rfl⟩
      have nlb9_0 := F0.out.lt
      rw [← hbb] at nlb9_0
      have nlb9_s := FS.out.lt
      rw [← hbb] at nlb9_s
      have nlb9_3 := FL20.out.lt
      rw [← hbb] at nlb9_3
      have FL9 : Hid (LstAt v_34 lb9 [(x : Int), (x : Int), (x : Int), (x : Int), (x : Int), (x : Int), (-1), h.fl]) := by rw [hw2]; exact LstAt.new v_33 [(x : Int), (x : Int), (x : Int), (x : Int), (x : Int), (x : Int), (-1), h.fl] 2 lb9 hbb (by simp)
      have F0 : Hid (HAt v_34 w.heap.size h) := by rw [hw2]; exact F0.out.alloc _
      have FS : Hid (SrcT v_34 sb B a len cap (T + 1 + 1 + 1)) := by rw [hw2]; exact FS.out.alloc _
      have FK : Hid (Keeps sb w v_34) := by rw [hw2]; exact FK.out.alloc _
      have FL20 : Hid (LstAt v_34 lb20 [(x : Int), (x : Int), (x : Int), (x : Int), (x : Int), (x : Int), (-1), h.fl]) := by rw [hw2]; exact FL20.out.alloc _
      rw [← hw2, ← hbb]
      clear hbb hw2
      have mf := F0.out.c0
      refine hK.out _ _ (by (try dsimp only); first | exact mf | go_keep) (fun hHeld => ?_)
      clear hK K
      try simp only [Act.put, List.getElem_toArray, List.getElem_cons_succ, List.getElem_cons_zero, List.setIfInBounds_toArray, List.set_cons_zero, List.set_cons_succ]
      refine wpAnyH_ready (rs := [10]) (by kernel_rfl) (by simp) ?_
      refine (AllReadyH.cons rfl (fun K hK => ?_) AllReadyH.nil)
      go_simp
      refine (l1Pick_t sb B lb9 [(x : Int), (x : Int), (x : Int), (x : Int), (x : Int), (x : Int), (-1), h.fl] (fun _ => True) (fun _ _ => trivial) a len cap _ _ FS.out (by omega) FL9.out (by simp) (by omega)).mono ?_
      rintro e v_35 ⟨p, rfl, -, hs, hk⟩
      have F0 : Hid (HAt v_35 w.heap.size h) := F0.out.keeps hk (by omega)
      have FS : Hid (SrcT v_35 sb B a len cap ((T + 1 + 1 + 1) + 1)) := hs
      have FK : Hid (Keeps sb w v_35) := FK.out.trans hk
      have FL20 : Hid (LstAt v_35 lb20 [(x : Int), (x : Int), (x : Int), (x : Int), (x : Int), (x : Int), (-1), h.fl]) := FL20.out.keeps hk (by omega)
      have FL9 : Hid (LstAt v_35 lb9 [(x : Int), (x : Int), (x : Int), (x : Int), (x : Int), (x : Int), (-1), h.fl]) := FL9.out.keeps hk (by omega)
      clear hs hk
      have mf := F0.out.c0
      try dsimp only
      refine hK.out _ _ (by (try dsimp only); first | exact mf | go_keep) (fun hHeld => ?_)
      clear hK K
      try simp only [Act.put, List.getElem_toArray, List.getElem_cons_succ, List.getElem_cons_zero, List.setIfInBounds_toArray, List.set_cons_zero, List.set_cons_succ]
      refine wpAnyH_ready (rs := [21]) (by kernel_rfl) (by simp) ?_
      refine (AllReadyH.cons rfl (fun K hK => ?_) AllReadyH.nil)
      go_simp
      refine (l1Pick_t sb B lb20 [(x : Int), (x : Int), (x : Int), (x : Int), (x : Int), (x : Int), (-1), h.fl] (fun _ => True) (fun _ _ => trivial) a len cap _ _ FS.out (by omega) FL20.out (by simp) (by omega)).mono ?_
      rintro e v_36 ⟨q, rfl, -, hs, hk⟩
      have F0 : Hid (HAt v_36 w.heap.size h) := F0.out.keeps hk (by omega)
      have FS : Hid (SrcT v_36 sb B a len cap (((T + 1 + 1 + 1) + 1) + 1)) := hs
      have FK : Hid (Keeps sb w v_36) := FK.out.trans hk
      have FL20 : Hid (LstAt v_36 lb20 [(x : Int), (x : Int), (x : Int), (x : Int), (x : Int), (x : Int), (-1), h.fl]) := FL20.out.keeps hk (by omega)
      have FL9 : Hid (LstAt v_36 lb9 [(x : Int), (x : Int), (x : Int), (x : Int), (x : Int), (x : Int), (-1), h.fl]) := FL9.out.keeps hk (by omega)
      clear hs hk
      have mf := F0.out.c0
      try dsimp only
      refine hK.out _ _ (by (try dsimp only); first | exact mf | go_keep) (fun hHeld => ?_)
      clear hK K
      try simp only [Act.put, List.getElem_toArray, List.getElem_cons_succ, List.getElem_cons_zero, List.setIfInBounds_toArray, List.set_cons_zero, List.set_cons_succ]
      refine tkz 22 rfl ?_
      refine tkz 23 rfl ?_
      refine wpAnyH_done (by kernel_rfl) ?_ _
      go_wp2_with fail
      go_ret2
      exact ⟨_, _, rfl, FS.out.more (by omega), FK.out⟩
end Go.Proofs.YtoacnglcneliiaaGreatDoor
