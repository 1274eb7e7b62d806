/-
  The car that the bytes draw: some car, and nothing that was there has turned.
-/
import Derived.Test.YtgdhbkgpjeedhaaDrawT
import Derived.Test.YtgdhbkgpjeedhaaCarS
namespace Go.Proofs.Ytgdhbkgpjeedhaa
open Go.RowKit Pl
set_option linter.unusedSimpArgs false
set_option linter.unusedVariables false

set_option maxRecDepth 20000 in
set_option maxHeartbeats 16000000 in
theorem l3DrawCar_t (h : Hs) (o : h.Ok) (sb B : Nat) (a : Option Addr) (len cap T : Nat) (w : World) (hS : SrcT w sb B a len cap T) (hT : T ≤ 800000) :
    Calls Try.prog 38 #[.pointer (some ⟨sb, 0, none⟩), .agg #[.int .i64 h.fl, .int .i64 h.gp, .int .i64 h.ln, .int .i64 h.rf, .int .i64 h.sp, .int .i64 h.pu, .int .i64 h.br, .int .i64 h.dr, .int .i64 h.lv, .int .i64 h.dO, .int .i64 h.ld, .int .i64 h.qu]] w fun e w' => ∃ g : Cs, e = .returned (.agg #[.int .i64 g.pos, .int .i64 g.vel, .int .i64 g.door]) ∧ SrcT w' sb B a len cap (T + 40) ∧ Keeps sb w w' := by
  have s1 := o.sp1; have s2 := o.sp2; have d1 := o.do1; have d2 := o.do2
  have en := o.ends
  have hlt := hS.lt
  have hB := hS.hB
  have e1 : IntKind.i64.wrap (h.sp + 1) = h.sp + 1 := IntWalk.i64_in _ (by omega)
  have el1 : IntKind.i64.wrap (h.low - 1) = h.low - 1 := IntWalk.i64_in _ (by omega)
  have el2 : IntKind.i64.wrap (h.high + 1) = h.high + 1 := IntWalk.i64_in _ (by omega)
  have HO : Hid h.Ok := o
  clear o
  obtain ⟨W0, hW0⟩ : ∃ W0, W0 = ((w.alloc (.cells #[.int .i64 h.fl, .int .i64 h.gp, .int .i64 h.ln, .int .i64 h.rf, .int .i64 h.sp, .int .i64 h.pu, .int .i64 h.br, .int .i64 h.dr, .int .i64 h.lv, .int .i64 h.dO, .int .i64 h.ld, .int .i64 h.qu] 25)).alloc (.cells #[.int .i64 0, .int .i64 0, .int .i64 0] 27)) := ⟨_, rfl⟩
  have F0 : Hid (HAt W0 w.heap.size h) := by rw [hW0]; exact (HAt.at_ w h _ _ (by simp)).alloc _
  have F1 : Hid (R3 W0 (w.heap.size + 1)) := by rw [hW0]; exact R3.at_ _ _ _ (by simp)
  have FS : Hid (SrcT W0 sb B a len cap T) := by rw [hW0]; exact (hS.alloc _).alloc _
  have FK : Hid (Keeps sb w W0) := by rw [hW0]; exact ((Keeps.refl _ _).alloc _).alloc _
  have HW0 : Hid (W0 = ((w.alloc (.cells #[.int .i64 h.fl, .int .i64 h.gp, .int .i64 h.ln, .int .i64 h.rf, .int .i64 h.sp, .int .i64 h.pu, .int .i64 h.br, .int .i64 h.dr, .int .i64 h.lv, .int .i64 h.dO, .int .i64 h.ld, .int .i64 h.qu] 25)).alloc (.cells #[.int .i64 0, .int .i64 0, .int .i64 0] 27))) := hW0
  clear hW0 hS
  go_enter Try.func38, Try.ntmps38
  go_wp2_with fail
  rw [← HW0.out]
  clear HW0
  go_cut [5] (fun p wx => ∃ b g, p = .pointer (some ⟨b, 0, none⟩) ∧ w.heap.size + 1 < b ∧ CW wx b g ∧ HAt wx w.heap.size h ∧ R3 wx (w.heap.size + 1) ∧ SrcT wx sb B a len cap (T + 24) ∧ Keeps sb w wx)
  case first =>
    have F0 : Hid (HAt W0.drew w.heap.size h) := F0.out.below (Below.refl _ _).drew F0.out.lt
    have F1 : Hid (R3 W0.drew (w.heap.size + 1)) := F1.out.below (Below.refl _ _).drew F1.out.lt
    have FS : Hid (SrcT W0.drew sb B a len cap T) := FS.out.drew
    have FK : Hid (Keeps sb w W0.drew) := FK.out.of_below (Below.refl _ _).drew
    obtain ⟨x0_0, x0_1, x0_2, x0_3, x0_4, x0_5, x0_6, x0_7, x0_8, x0_9, x0_10, x0_11⟩ := F0.out
    refine wp_region_held_drew (S := (fun w'' => w''.cell? ⟨w.heap.size, 0, none⟩ = some (.int .i64 h.fl) ∧ w''.cell? ⟨w.heap.size, 1, none⟩ = some (.int .i64 h.gp) ∧ w''.cell? ⟨w.heap.size, 2, none⟩ = some (.int .i64 h.ln) ∧ w''.cell? ⟨w.heap.size, 3, none⟩ = some (.int .i64 h.rf) ∧ w''.cell? ⟨w.heap.size, 4, none⟩ = some (.int .i64 h.sp) ∧ w''.cell? ⟨w.heap.size, 5, none⟩ = some (.int .i64 h.pu) ∧ w''.cell? ⟨w.heap.size, 6, none⟩ = some (.int .i64 h.br) ∧ w''.cell? ⟨w.heap.size, 7, none⟩ = some (.int .i64 h.dr) ∧ w''.cell? ⟨w.heap.size, 8, none⟩ = some (.int .i64 h.lv) ∧ w''.cell? ⟨w.heap.size, 9, none⟩ = some (.int .i64 h.dO) ∧ w''.cell? ⟨w.heap.size, 10, none⟩ = some (.int .i64 h.ld) ∧ w''.cell? ⟨w.heap.size, 11, none⟩ = some (.int .i64 h.qu))) (by kernel_rfl) (by (try dsimp only); first | exact ⟨x0_0, x0_1, x0_2, x0_3, x0_4, x0_5, x0_6, x0_7, x0_8, x0_9, x0_10, x0_11⟩ | go_keep) (fun hHeld => ?_)
    obtain ⟨v_1, hw1⟩ : ∃ v_1, v_1 = W0.drew := ⟨_, rfl⟩
    have F0 : Hid (HAt v_1 w.heap.size h) := by rw [hw1]; exact F0.out
    have F1 : Hid (R3 v_1 (w.heap.size + 1)) := by rw [hw1]; exact F1.out
    have FS : Hid (SrcT v_1 sb B a len cap T) := by rw [hw1]; exact FS.out
    have FK : Hid (Keeps sb w v_1) := by rw [hw1]; exact FK.out
    rw [← hw1] at hHeld ⊢
    clear hw1
    obtain ⟨x0_0, x0_1, x0_2, x0_3, x0_4, x0_5, x0_6, x0_7, x0_8, x0_9, x0_10, x0_11⟩ := F0.out
    refine tkz 0 rfl ?_
    refine tkz 1 rfl ?_
    refine tkz 3 rfl ?_
    refine tkz 4 rfl ?_
    refine tkz 5 rfl ?_
    refine tkz 6 rfl ?_
    refine tkz 7 rfl ?_
    refine tkz 9 rfl ?_
    refine tkz 10 rfl ?_
    refine tkz 11 rfl ?_
    refine tkz 12 rfl ?_
    refine wpAnyH_ready (rs := [2, 18]) (by kernel_rfl) (by simp) ?_
    refine (AllReadyH.cons rfl (fun K hK => ?_) (AllReadyH.cons rfl (fun K hK => ?_) AllReadyH.nil))
    · go_simp
      refine (l2Pos_t h HO.out sb B a len cap _ _ FS.out (by omega)).mono ?_
      rintro e v_2 ⟨p_, rfl, hs, hk⟩
      have F0 : Hid (HAt v_2 w.heap.size h) := F0.out.keeps hk (by omega)
      have F1 : Hid (R3 v_2 (w.heap.size + 1)) := F1.out.keeps hk (by omega)
      have FS : Hid (SrcT v_2 sb B a len cap (T + 20)) := hs
      have FK : Hid (Keeps sb w v_2) := FK.out.trans hk
      clear hs hk
      obtain ⟨x0_0, x0_1, x0_2, x0_3, x0_4, x0_5, x0_6, x0_7, x0_8, x0_9, x0_10, x0_11⟩ := F0.out
      try dsimp only
      refine hK.out _ _ (by (try dsimp only); first | exact ⟨x0_0, x0_1, x0_2, x0_3, x0_4, x0_5, x0_6, x0_7, x0_8, x0_9, x0_10, x0_11⟩ | go_keep) (fun hHeld => ?_)
      clear hK K
      try simp only [Act.put, List.getElem_toArray, List.getElem_cons_succ, List.getElem_cons_zero, List.setIfInBounds_toArray, List.set_cons_zero, List.set_cons_succ]
      refine wpAnyH_ready (rs := [8, 18]) (by kernel_rfl) (by simp) ?_
      refine (AllReadyH.cons rfl (fun K hK => ?_) (AllReadyH.cons rfl (fun K hK => ?_) AllReadyH.nil))
      · go_simp
        refine (l1Next_t sb B a len cap _ _ _ FS.out (by omega) (by omega) (by omega)).mono ?_
        rintro e v_3 ⟨v1, rfl, hv1, hs, hk⟩
        have F0 : Hid (HAt v_3 w.heap.size h) := F0.out.keeps hk (by omega)
        have F1 : Hid (R3 v_3 (w.heap.size + 1)) := F1.out.keeps hk (by omega)
        have FS : Hid (SrcT v_3 sb B a len cap ((T + 20) + 1)) := hs
        have FK : Hid (Keeps sb w v_3) := FK.out.trans hk
        clear hs hk
        obtain ⟨x0_0, x0_1, x0_2, x0_3, x0_4, x0_5, x0_6, x0_7, x0_8, x0_9, x0_10, x0_11⟩ := F0.out
        try dsimp only
        refine hK.out _ _ (by (try dsimp only); first | exact ⟨x0_0, x0_1, x0_2, x0_3, x0_4, x0_5, x0_6, x0_7, x0_8, x0_9, x0_10, x0_11⟩ | go_keep) (fun hHeld => ?_)
        clear hK K
        try simp only [Act.put, List.getElem_toArray, List.getElem_cons_succ, List.getElem_cons_zero, List.setIfInBounds_toArray, List.set_cons_zero, List.set_cons_succ]
        refine wpAnyH_ready (rs := [13, 18]) (by kernel_rfl) (by simp) ?_
        refine (AllReadyH.cons rfl (fun K hK => ?_) (AllReadyH.cons rfl (fun K hK => ?_) AllReadyH.nil))
        · go_simp
          refine (l1Next_t sb B a len cap _ _ _ FS.out (by omega) (by omega) (by omega)).mono ?_
          rintro e v_4 ⟨v2, rfl, hv2, hs, hk⟩
          have F0 : Hid (HAt v_4 w.heap.size h) := F0.out.keeps hk (by omega)
          have F1 : Hid (R3 v_4 (w.heap.size + 1)) := F1.out.keeps hk (by omega)
          have FS : Hid (SrcT v_4 sb B a len cap (((T + 20) + 1) + 1)) := hs
          have FK : Hid (Keeps sb w v_4) := FK.out.trans hk
          clear hs hk
          obtain ⟨x0_0, x0_1, x0_2, x0_3, x0_4, x0_5, x0_6, x0_7, x0_8, x0_9, x0_10, x0_11⟩ := F0.out
          have en2 : IntKind.i64.wrap (-(v2 : Int)) = -(v2 : Int) := IntWalk.i64_in _ (by omega)
          try dsimp only
          refine hK.out _ _ (by (try dsimp only); first | exact ⟨x0_0, x0_1, x0_2, x0_3, x0_4, x0_5, x0_6, x0_7, x0_8, x0_9, x0_10, x0_11⟩ | go_keep) (fun hHeld => ?_)
          clear hK K
          try simp only [Act.put, List.getElem_toArray, List.getElem_cons_succ, List.getElem_cons_zero, List.setIfInBounds_toArray, List.set_cons_zero, List.set_cons_succ]
          refine tkz 14 rfl ?_
          refine wpAnyH_ready (rs := [15, 18]) (by kernel_rfl) (by simp) ?_
          refine (AllReadyH.cons rfl (fun K hK => ?_) (AllReadyH.cons rfl (fun K hK => ?_) AllReadyH.nil))
          · go_simp
            obtain ⟨lb0, hbb⟩ : ∃ lb0, lb0 = v_4.heap.size := ⟨_, rfl⟩
            obtain ⟨v_5, hw2⟩ : ∃ v_5, v_5 = v_4.alloc (.cells #[.int .i64 0, .int .i64 (v1 : Int), .int .i64 (-(v2 : Int))] 2) := ⟨_, rfl⟩
            have nlb0_0 := F0.out.lt
            rw [← hbb] at nlb0_0
            have nlb0_1 := F1.out.lt
            rw [← hbb] at nlb0_1
            have nlb0_s := FS.out.lt
            rw [← hbb] at nlb0_s
            have FL0 : Hid (LstAt v_5 lb0 [0, (v1 : Int), (-(v2 : Int))]) := by rw [hw2]; exact LstAt.new v_4 [0, (v1 : Int), (-(v2 : Int))] 2 lb0 hbb (by simp)
            have F0 : Hid (HAt v_5 w.heap.size h) := by rw [hw2]; exact F0.out.alloc _
            have F1 : Hid (R3 v_5 (w.heap.size + 1)) := by rw [hw2]; exact F1.out.alloc _
            have FS : Hid (SrcT v_5 sb B a len cap (((T + 20) + 1) + 1)) := by rw [hw2]; exact FS.out.alloc _
            have FK : Hid (Keeps sb w v_5) := by rw [hw2]; exact FK.out.alloc _
            rw [← hw2, ← hbb]
            clear hbb hw2
            obtain ⟨x0_0, x0_1, x0_2, x0_3, x0_4, x0_5, x0_6, x0_7, x0_8, x0_9, x0_10, x0_11⟩ := F0.out
            refine hK.out _ _ (by (try dsimp only); first | exact ⟨x0_0, x0_1, x0_2, x0_3, x0_4, x0_5, x0_6, x0_7, x0_8, x0_9, x0_10, x0_11⟩ | go_keep) (fun hHeld => ?_)
            clear hK K
            try simp only [Act.put, List.getElem_toArray, List.getElem_cons_succ, List.getElem_cons_zero, List.setIfInBounds_toArray, List.set_cons_zero, List.set_cons_succ]
            refine wpAnyH_ready (rs := [16, 18]) (by kernel_rfl) (by simp) ?_
            refine (AllReadyH.cons rfl (fun K hK => ?_) (AllReadyH.cons rfl (fun K hK => ?_) AllReadyH.nil))
            · go_simp
              refine (l1Pick_t sb B lb0 [0, (v1 : Int), -(v2 : Int)] (fun _ => True) (fun _ _ => trivial) a len cap _ _ FS.out (by omega) FL0.out (by simp) (by omega)).mono ?_
              rintro e v_6 ⟨vv, rfl, -, hs, hk⟩
              have F0 : Hid (HAt v_6 w.heap.size h) := F0.out.keeps hk (by omega)
              have F1 : Hid (R3 v_6 (w.heap.size + 1)) := F1.out.keeps hk (by omega)
              have FS : Hid (SrcT v_6 sb B a len cap ((((T + 20) + 1) + 1) + 1)) := hs
              have FK : Hid (Keeps sb w v_6) := FK.out.trans hk
              have FL0 : Hid (LstAt v_6 lb0 [0, (v1 : Int), (-(v2 : Int))]) := FL0.out.keeps hk (by omega)
              clear hs hk
              obtain ⟨x0_0, x0_1, x0_2, x0_3, x0_4, x0_5, x0_6, x0_7, x0_8, x0_9, x0_10, x0_11⟩ := F0.out
              try dsimp only
              refine hK.out _ _ (by (try dsimp only); first | exact ⟨x0_0, x0_1, x0_2, x0_3, x0_4, x0_5, x0_6, x0_7, x0_8, x0_9, x0_10, x0_11⟩ | go_keep) (fun hHeld => ?_)
              clear hK K
              try simp only [Act.put, List.getElem_toArray, List.getElem_cons_succ, List.getElem_cons_zero, List.setIfInBounds_toArray, List.set_cons_zero, List.set_cons_succ]
              refine tkz 17 rfl ?_
              refine wpAnyH_ready (rs := [18]) (by kernel_rfl) (by simp) ?_
              refine (AllReadyH.cons rfl (fun K hK => ?_) AllReadyH.nil)
              go_simp
              obtain ⟨b, hbb⟩ : ∃ b, b = v_6.heap.size := ⟨_, rfl⟩
              obtain ⟨v_7, hw2⟩ : ∃ v_7, v_7 = v_6.alloc (.cells #[.int .i64 0, .int .i64 0, .int .i64 0] 27) := ⟨_, rfl⟩
              have nb_0 := F0.out.lt
              rw [← hbb] at nb_0
              have nb_1 := F1.out.lt
              rw [← hbb] at nb_1
              have nb_s := FS.out.lt
              rw [← hbb] at nb_s
              have nb_4 := FL0.out.lt
              rw [← hbb] at nb_4
              have FA : Hid (R3 v_7 b) := by rw [hw2]; exact R3.at_ _ _ _ hbb
              have F0 : Hid (HAt v_7 w.heap.size h) := by rw [hw2]; exact F0.out.alloc _
              have F1 : Hid (R3 v_7 (w.heap.size + 1)) := by rw [hw2]; exact F1.out.alloc _
              have FS : Hid (SrcT v_7 sb B a len cap ((((T + 20) + 1) + 1) + 1)) := by rw [hw2]; exact FS.out.alloc _
              have FK : Hid (Keeps sb w v_7) := by rw [hw2]; exact FK.out.alloc _
              have FL0 : Hid (LstAt v_7 lb0 [0, (v1 : Int), (-(v2 : Int))]) := by rw [hw2]; exact FL0.out.alloc _
              rw [← hw2, ← hbb]
              clear hbb hw2
              obtain ⟨x0_0, x0_1, x0_2, x0_3, x0_4, x0_5, x0_6, x0_7, x0_8, x0_9, x0_10, x0_11⟩ := F0.out
              refine hK.out _ _ (by (try dsimp only); first | exact ⟨x0_0, x0_1, x0_2, x0_3, x0_4, x0_5, x0_6, x0_7, x0_8, x0_9, x0_10, x0_11⟩ | go_keep) (fun hHeld => ?_)
              clear hK K
              try simp only [Act.put, List.getElem_toArray, List.getElem_cons_succ, List.getElem_cons_zero, List.setIfInBounds_toArray, List.set_cons_zero, List.set_cons_succ]
              refine wpAnyH_ready (rs := [19]) (by kernel_rfl) (by simp) ?_
              refine (AllReadyH.cons rfl (fun K hK => ?_) AllReadyH.nil)
              have r0_ := FA.out.c0
              have r1_ := FA.out.c1
              have r2_ := FA.out.c2
              have q0_ := FA.out.f0
              have q1_ := FA.out.f1
              have q2_ := FA.out.f2
              go_simp
              refine hK.out _ _ (by (try dsimp only); first | ((repeat' apply And.intro) <;> ((repeat rw [cellS (by omega)]); assumption)) | go_keep) (fun hHeld => ?_)
              clear hK K
              try simp only [Act.put, List.getElem_toArray, List.getElem_cons_succ, List.getElem_cons_zero, List.setIfInBounds_toArray, List.set_cons_zero, List.set_cons_succ]
              refine wpAnyH_done (by kernel_rfl) ?_ _
              go_wp2_with fail
              go_meet
              case rel => exact ⟨b, ⟨p_, vv, 0⟩, rfl, by omega, FA.out.cw.put ⟨p_, vv, 0⟩, F0.out.put3_other (by omega) ⟨p_, vv, 0⟩, F1.out.put_other (by omega) ⟨p_, vv, 0⟩, (FS.out.put3 b ⟨p_, vv, 0⟩ (by omega) (by omega)).more (by omega), FK.out.put3 (by omega) ⟨p_, vv, 0⟩⟩
            · go_simp
              obtain ⟨b, hbb⟩ : ∃ b, b = v_5.heap.size := ⟨_, rfl⟩
              obtain ⟨v_8, hw2⟩ : ∃ v_8, v_8 = v_5.alloc (.cells #[.int .i64 0, .int .i64 0, .int .i64 0] 27) := ⟨_, rfl⟩
              have nb_0 := F0.out.lt
              rw [← hbb] at nb_0
              have nb_1 := F1.out.lt
              rw [← hbb] at nb_1
              have nb_s := FS.out.lt
              rw [← hbb] at nb_s
              have nb_4 := FL0.out.lt
              rw [← hbb] at nb_4
              have FA : Hid (R3 v_8 b) := by rw [hw2]; exact R3.at_ _ _ _ hbb
              have F0 : Hid (HAt v_8 w.heap.size h) := by rw [hw2]; exact F0.out.alloc _
              have F1 : Hid (R3 v_8 (w.heap.size + 1)) := by rw [hw2]; exact F1.out.alloc _
              have FS : Hid (SrcT v_8 sb B a len cap (((T + 20) + 1) + 1)) := by rw [hw2]; exact FS.out.alloc _
              have FK : Hid (Keeps sb w v_8) := by rw [hw2]; exact FK.out.alloc _
              have FL0 : Hid (LstAt v_8 lb0 [0, (v1 : Int), (-(v2 : Int))]) := by rw [hw2]; exact FL0.out.alloc _
              rw [← hw2, ← hbb]
              clear hbb hw2
              obtain ⟨x0_0, x0_1, x0_2, x0_3, x0_4, x0_5, x0_6, x0_7, x0_8, x0_9, x0_10, x0_11⟩ := F0.out
              refine hK.out _ _ (by (try dsimp only); first | exact ⟨x0_0, x0_1, x0_2, x0_3, x0_4, x0_5, x0_6, x0_7, x0_8, x0_9, x0_10, x0_11⟩ | go_keep) (fun hHeld => ?_)
              clear hK K
              try simp only [Act.put, List.getElem_toArray, List.getElem_cons_succ, List.getElem_cons_zero, List.setIfInBounds_toArray, List.set_cons_zero, List.set_cons_succ]
              refine wpAnyH_ready (rs := [16]) (by kernel_rfl) (by simp) ?_
              refine (AllReadyH.cons rfl (fun K hK => ?_) AllReadyH.nil)
              go_simp
              refine (l1Pick_t sb B lb0 [0, (v1 : Int), -(v2 : Int)] (fun _ => True) (fun _ _ => trivial) a len cap _ _ FS.out (by omega) FL0.out (by simp) (by omega)).mono ?_
              rintro e v_9 ⟨vv, rfl, -, hs, hk⟩
              have F0 : Hid (HAt v_9 w.heap.size h) := F0.out.keeps hk (by omega)
              have F1 : Hid (R3 v_9 (w.heap.size + 1)) := F1.out.keeps hk (by omega)
              have FS : Hid (SrcT v_9 sb B a len cap ((((T + 20) + 1) + 1) + 1)) := hs
              have FK : Hid (Keeps sb w v_9) := FK.out.trans hk
              have FL0 : Hid (LstAt v_9 lb0 [0, (v1 : Int), (-(v2 : Int))]) := FL0.out.keeps hk (by omega)
              have FA : Hid (R3 v_9 b) := FA.out.keeps hk (by omega)
              clear hs hk
              obtain ⟨x0_0, x0_1, x0_2, x0_3, x0_4, x0_5, x0_6, x0_7, x0_8, x0_9, x0_10, x0_11⟩ := F0.out
              try dsimp only
              refine hK.out _ _ (by (try dsimp only); first | exact ⟨x0_0, x0_1, x0_2, x0_3, x0_4, x0_5, x0_6, x0_7, x0_8, x0_9, x0_10, x0_11⟩ | go_keep) (fun hHeld => ?_)
              clear hK K
              try simp only [Act.put, List.getElem_toArray, List.getElem_cons_succ, List.getElem_cons_zero, List.setIfInBounds_toArray, List.set_cons_zero, List.set_cons_succ]
              refine tkz 17 rfl ?_
              refine wpAnyH_ready (rs := [19]) (by kernel_rfl) (by simp) ?_
              refine (AllReadyH.cons rfl (fun K hK => ?_) AllReadyH.nil)
              have r0_ := FA.out.c0
              have r1_ := FA.out.c1
              have r2_ := FA.out.c2
              have q0_ := FA.out.f0
              have q1_ := FA.out.f1
              have q2_ := FA.out.f2
              go_simp
              refine hK.out _ _ (by (try dsimp only); first | ((repeat' apply And.intro) <;> ((repeat rw [cellS (by omega)]); assumption)) | go_keep) (fun hHeld => ?_)
              clear hK K
              try simp only [Act.put, List.getElem_toArray, List.getElem_cons_succ, List.getElem_cons_zero, List.setIfInBounds_toArray, List.set_cons_zero, List.set_cons_succ]
              refine wpAnyH_done (by kernel_rfl) ?_ _
              go_wp2_with fail
              go_meet
              case rel => exact ⟨b, ⟨p_, vv, 0⟩, rfl, by omega, FA.out.cw.put ⟨p_, vv, 0⟩, F0.out.put3_other (by omega) ⟨p_, vv, 0⟩, F1.out.put_other (by omega) ⟨p_, vv, 0⟩, (FS.out.put3 b ⟨p_, vv, 0⟩ (by omega) (by omega)).more (by omega), FK.out.put3 (by omega) ⟨p_, vv, 0⟩⟩
          · go_simp
            obtain ⟨b, hbb⟩ : ∃ b, b = v_4.heap.size := ⟨_, rfl⟩
            obtain ⟨v_10, hw2⟩ : ∃ v_10, v_10 = v_4.alloc (.cells #[.int .i64 0, .int .i64 0, .int .i64 0] 27) := ⟨_, rfl⟩
            have nb_0 := F0.out.lt
            rw [← hbb] at nb_0
            have nb_1 := F1.out.lt
            rw [← hbb] at nb_1
            have nb_s := FS.out.lt
            rw [← hbb] at nb_s
            have FA : Hid (R3 v_10 b) := by rw [hw2]; exact R3.at_ _ _ _ hbb
            have F0 : Hid (HAt v_10 w.heap.size h) := by rw [hw2]; exact F0.out.alloc _
            have F1 : Hid (R3 v_10 (w.heap.size + 1)) := by rw [hw2]; exact F1.out.alloc _
            have FS : Hid (SrcT v_10 sb B a len cap (((T + 20) + 1) + 1)) := by rw [hw2]; exact FS.out.alloc _
            have FK : Hid (Keeps sb w v_10) := by rw [hw2]; exact FK.out.alloc _
            rw [← hw2, ← hbb]
            clear hbb hw2
            obtain ⟨x0_0, x0_1, x0_2, x0_3, x0_4, x0_5, x0_6, x0_7, x0_8, x0_9, x0_10, x0_11⟩ := F0.out
            refine hK.out _ _ (by (try dsimp only); first | exact ⟨x0_0, x0_1, x0_2, x0_3, x0_4, x0_5, x0_6, x0_7, x0_8, x0_9, x0_10, x0_11⟩ | go_keep) (fun hHeld => ?_)
            clear hK K
            try simp only [Act.put, List.getElem_toArray, List.getElem_cons_succ, List.getElem_cons_zero, List.setIfInBounds_toArray, List.set_cons_zero, List.set_cons_succ]
            refine wpAnyH_ready (rs := [15]) (by kernel_rfl) (by simp) ?_
            refine (AllReadyH.cons rfl (fun K hK => ?_) AllReadyH.nil)
            go_simp
            obtain ⟨lb0, hbb⟩ : ∃ lb0, lb0 = v_10.heap.size := ⟨_, rfl⟩
            obtain ⟨v_11, hw2⟩ : ∃ v_11, v_11 = v_10.alloc (.cells #[.int .i64 0, .int .i64 (v1 : Int), .int .i64 (-(v2 : Int))] 2) := ⟨_, rfl⟩
            have nlb0_0 := F0.out.lt
            rw [← hbb] at nlb0_0
            have nlb0_1 := F1.out.lt
            rw [← hbb] at nlb0_1
            have nlb0_s := FS.out.lt
            rw [← hbb] at nlb0_s
            have nlb0_4 := FA.out.lt
            rw [← hbb] at nlb0_4
            have FL0 : Hid (LstAt v_11 lb0 [0, (v1 : Int), (-(v2 : Int))]) := by rw [hw2]; exact LstAt.new v_10 [0, (v1 : Int), (-(v2 : Int))] 2 lb0 hbb (by simp)
            have F0 : Hid (HAt v_11 w.heap.size h) := by rw [hw2]; exact F0.out.alloc _
            have F1 : Hid (R3 v_11 (w.heap.size + 1)) := by rw [hw2]; exact F1.out.alloc _
            have FS : Hid (SrcT v_11 sb B a len cap (((T + 20) + 1) + 1)) := by rw [hw2]; exact FS.out.alloc _
            have FK : Hid (Keeps sb w v_11) := by rw [hw2]; exact FK.out.alloc _
            have FA : Hid (R3 v_11 b) := by rw [hw2]; exact FA.out.alloc _
            rw [← hw2, ← hbb]
            clear hbb hw2
            obtain ⟨x0_0, x0_1, x0_2, x0_3, x0_4, x0_5, x0_6, x0_7, x0_8, x0_9, x0_10, x0_11⟩ := F0.out
            refine hK.out _ _ (by (try dsimp only); first | exact ⟨x0_0, x0_1, x0_2, x0_3, x0_4, x0_5, x0_6, x0_7, x0_8, x0_9, x0_10, x0_11⟩ | go_keep) (fun hHeld => ?_)
            clear hK K
            try simp only [Act.put, List.getElem_toArray, List.getElem_cons_succ, List.getElem_cons_zero, List.setIfInBounds_toArray, List.set_cons_zero, List.set_cons_succ]
            refine wpAnyH_ready (rs := [16]) (by kernel_rfl) (by simp) ?_
            refine (AllReadyH.cons rfl (fun K hK => ?_) AllReadyH.nil)
            go_simp
            refine (l1Pick_t sb B lb0 [0, (v1 : Int), -(v2 : Int)] (fun _ => True) (fun _ _ => trivial) a len cap _ _ FS.out (by omega) FL0.out (by simp) (by omega)).mono ?_
            rintro e v_12 ⟨vv, rfl, -, hs, hk⟩
            have F0 : Hid (HAt v_12 w.heap.size h) := F0.out.keeps hk (by omega)
            have F1 : Hid (R3 v_12 (w.heap.size + 1)) := F1.out.keeps hk (by omega)
            have FS : Hid (SrcT v_12 sb B a len cap ((((T + 20) + 1) + 1) + 1)) := hs
            have FK : Hid (Keeps sb w v_12) := FK.out.trans hk
            have FA : Hid (R3 v_12 b) := FA.out.keeps hk (by omega)
            have FL0 : Hid (LstAt v_12 lb0 [0, (v1 : Int), (-(v2 : Int))]) := FL0.out.keeps hk (by omega)
            clear hs hk
            obtain ⟨x0_0, x0_1, x0_2, x0_3, x0_4, x0_5, x0_6, x0_7, x0_8, x0_9, x0_10, x0_11⟩ := F0.out
            try dsimp only
            refine hK.out _ _ (by (try dsimp only); first | exact ⟨x0_0, x0_1, x0_2, x0_3, x0_4, x0_5, x0_6, x0_7, x0_8, x0_9, x0_10, x0_11⟩ | go_keep) (fun hHeld => ?_)
            clear hK K
            try simp only [Act.put, List.getElem_toArray, List.getElem_cons_succ, List.getElem_cons_zero, List.setIfInBounds_toArray, List.set_cons_zero, List.set_cons_succ]
            refine tkz 17 rfl ?_
            refine wpAnyH_ready (rs := [19]) (by kernel_rfl) (by simp) ?_
            refine (AllReadyH.cons rfl (fun K hK => ?_) AllReadyH.nil)
            have r0_ := FA.out.c0
            have r1_ := FA.out.c1
            have r2_ := FA.out.c2
            have q0_ := FA.out.f0
            have q1_ := FA.out.f1
            have q2_ := FA.out.f2
            go_simp
            refine hK.out _ _ (by (try dsimp only); first | ((repeat' apply And.intro) <;> ((repeat rw [cellS (by omega)]); assumption)) | go_keep) (fun hHeld => ?_)
            clear hK K
            try simp only [Act.put, List.getElem_toArray, List.getElem_cons_succ, List.getElem_cons_zero, List.setIfInBounds_toArray, List.set_cons_zero, List.set_cons_succ]
            refine wpAnyH_done (by kernel_rfl) ?_ _
            go_wp2_with fail
            go_meet
            case rel => exact ⟨b, ⟨p_, vv, 0⟩, rfl, by omega, FA.out.cw.put ⟨p_, vv, 0⟩, F0.out.put3_other (by omega) ⟨p_, vv, 0⟩, F1.out.put_other (by omega) ⟨p_, vv, 0⟩, (FS.out.put3 b ⟨p_, vv, 0⟩ (by omega) (by omega)).more (by omega), FK.out.put3 (by omega) ⟨p_, vv, 0⟩⟩
        · go_simp
          obtain ⟨b, hbb⟩ : ∃ b, b = v_3.heap.size := ⟨_, rfl⟩
          obtain ⟨v_13, hw2⟩ : ∃ v_13, v_13 = v_3.alloc (.cells #[.int .i64 0, .int .i64 0, .int .i64 0] 27) := ⟨_, rfl⟩
          have nb_0 := F0.out.lt
          rw [← hbb] at nb_0
          have nb_1 := F1.out.lt
          rw [← hbb] at nb_1
          have nb_s := FS.out.lt
          rw [← hbb] at nb_s
          have FA : Hid (R3 v_13 b) := by rw [hw2]; exact R3.at_ _ _ _ hbb
          have F0 : Hid (HAt v_13 w.heap.size h) := by rw [hw2]; exact F0.out.alloc _
          have F1 : Hid (R3 v_13 (w.heap.size + 1)) := by rw [hw2]; exact F1.out.alloc _
          have FS : Hid (SrcT v_13 sb B a len cap ((T + 20) + 1)) := by rw [hw2]; exact FS.out.alloc _
          have FK : Hid (Keeps sb w v_13) := by rw [hw2]; exact FK.out.alloc _
          rw [← hw2, ← hbb]
          clear hbb hw2
          obtain ⟨x0_0, x0_1, x0_2, x0_3, x0_4, x0_5, x0_6, x0_7, x0_8, x0_9, x0_10, x0_11⟩ := F0.out
          refine hK.out _ _ (by (try dsimp only); first | exact ⟨x0_0, x0_1, x0_2, x0_3, x0_4, x0_5, x0_6, x0_7, x0_8, x0_9, x0_10, x0_11⟩ | go_keep) (fun hHeld => ?_)
          clear hK K
          try simp only [Act.put, List.getElem_toArray, List.getElem_cons_succ, List.getElem_cons_zero, List.setIfInBounds_toArray, List.set_cons_zero, List.set_cons_succ]
          refine wpAnyH_ready (rs := [13]) (by kernel_rfl) (by simp) ?_
          refine (AllReadyH.cons rfl (fun K hK => ?_) AllReadyH.nil)
          go_simp
          refine (l1Next_t sb B a len cap _ _ _ FS.out (by omega) (by omega) (by omega)).mono ?_
          rintro e v_14 ⟨v2, rfl, hv2, hs, hk⟩
          have F0 : Hid (HAt v_14 w.heap.size h) := F0.out.keeps hk (by omega)
          have F1 : Hid (R3 v_14 (w.heap.size + 1)) := F1.out.keeps hk (by omega)
          have FS : Hid (SrcT v_14 sb B a len cap (((T + 20) + 1) + 1)) := hs
          have FK : Hid (Keeps sb w v_14) := FK.out.trans hk
          have FA : Hid (R3 v_14 b) := FA.out.keeps hk (by omega)
          clear hs hk
          obtain ⟨x0_0, x0_1, x0_2, x0_3, x0_4, x0_5, x0_6, x0_7, x0_8, x0_9, x0_10, x0_11⟩ := F0.out
          have en2 : IntKind.i64.wrap (-(v2 : Int)) = -(v2 : Int) := IntWalk.i64_in _ (by omega)
          try dsimp only
          refine hK.out _ _ (by (try dsimp only); first | exact ⟨x0_0, x0_1, x0_2, x0_3, x0_4, x0_5, x0_6, x0_7, x0_8, x0_9, x0_10, x0_11⟩ | go_keep) (fun hHeld => ?_)
          clear hK K
          try simp only [Act.put, List.getElem_toArray, List.getElem_cons_succ, List.getElem_cons_zero, List.setIfInBounds_toArray, List.set_cons_zero, List.set_cons_succ]
          refine tkz 14 rfl ?_
          refine wpAnyH_ready (rs := [15]) (by kernel_rfl) (by simp) ?_
          refine (AllReadyH.cons rfl (fun K hK => ?_) AllReadyH.nil)
          go_simp
          obtain ⟨lb0, hbb⟩ : ∃ lb0, lb0 = v_14.heap.size := ⟨_, rfl⟩
          obtain ⟨v_15, hw2⟩ : ∃ v_15, v_15 = v_14.alloc (.cells #[.int .i64 0, .int .i64 (v1 : Int), .int .i64 (-(v2 : Int))] 2) := ⟨_, rfl⟩
          have nlb0_0 := F0.out.lt
          rw [← hbb] at nlb0_0
          have nlb0_1 := F1.out.lt
          rw [← hbb] at nlb0_1
          have nlb0_s := FS.out.lt
          rw [← hbb] at nlb0_s
          have nlb0_4 := FA.out.lt
          rw [← hbb] at nlb0_4
          have FL0 : Hid (LstAt v_15 lb0 [0, (v1 : Int), (-(v2 : Int))]) := by rw [hw2]; exact LstAt.new v_14 [0, (v1 : Int), (-(v2 : Int))] 2 lb0 hbb (by simp)
          have F0 : Hid (HAt v_15 w.heap.size h) := by rw [hw2]; exact F0.out.alloc _
          have F1 : Hid (R3 v_15 (w.heap.size + 1)) := by rw [hw2]; exact F1.out.alloc _
          have FS : Hid (SrcT v_15 sb B a len cap (((T + 20) + 1) + 1)) := by rw [hw2]; exact FS.out.alloc _
          have FK : Hid (Keeps sb w v_15) := by rw [hw2]; exact FK.out.alloc _
          have FA : Hid (R3 v_15 b) := by rw [hw2]; exact FA.out.alloc _
          rw [← hw2, ← hbb]
          clear hbb hw2
          obtain ⟨x0_0, x0_1, x0_2, x0_3, x0_4, x0_5, x0_6, x0_7, x0_8, x0_9, x0_10, x0_11⟩ := F0.out
          refine hK.out _ _ (by (try dsimp only); first | exact ⟨x0_0, x0_1, x0_2, x0_3, x0_4, x0_5, x0_6, x0_7, x0_8, x0_9, x0_10, x0_11⟩ | go_keep) (fun hHeld => ?_)
          clear hK K
          try simp only [Act.put, List.getElem_toArray, List.getElem_cons_succ, List.getElem_cons_zero, List.setIfInBounds_toArray, List.set_cons_zero, List.set_cons_succ]
          refine wpAnyH_ready (rs := [16]) (by kernel_rfl) (by simp) ?_
          refine (AllReadyH.cons rfl (fun K hK => ?_) AllReadyH.nil)
          go_simp
          refine (l1Pick_t sb B lb0 [0, (v1 : Int), -(v2 : Int)] (fun _ => True) (fun _ _ => trivial) a len cap _ _ FS.out (by omega) FL0.out (by simp) (by omega)).mono ?_
          rintro e v_16 ⟨vv, rfl, -, hs, hk⟩
          have F0 : Hid (HAt v_16 w.heap.size h) := F0.out.keeps hk (by omega)
          have F1 : Hid (R3 v_16 (w.heap.size + 1)) := F1.out.keeps hk (by omega)
          have FS : Hid (SrcT v_16 sb B a len cap ((((T + 20) + 1) + 1) + 1)) := hs
          have FK : Hid (Keeps sb w v_16) := FK.out.trans hk
          have FA : Hid (R3 v_16 b) := FA.out.keeps hk (by omega)
          have FL0 : Hid (LstAt v_16 lb0 [0, (v1 : Int), (-(v2 : Int))]) := FL0.out.keeps hk (by omega)
          clear hs hk
          obtain ⟨x0_0, x0_1, x0_2, x0_3, x0_4, x0_5, x0_6, x0_7, x0_8, x0_9, x0_10, x0_11⟩ := F0.out
          try dsimp only
          refine hK.out _ _ (by (try dsimp only); first | exact ⟨x0_0, x0_1, x0_2, x0_3, x0_4, x0_5, x0_6, x0_7, x0_8, x0_9, x0_10, x0_11⟩ | go_keep) (fun hHeld => ?_)
          clear hK K
          try simp only [Act.put, List.getElem_toArray, List.getElem_cons_succ, List.getElem_cons_zero, List.setIfInBounds_toArray, List.set_cons_zero, List.set_cons_succ]
          refine tkz 17 rfl ?_
          refine wpAnyH_ready (rs := [19]) (by kernel_rfl) (by simp) ?_
          refine (AllReadyH.cons rfl (fun K hK => ?_) AllReadyH.nil)
          have r0_ := FA.out.c0
          have r1_ := FA.out.c1
          have r2_ := FA.out.c2
          have q0_ := FA.out.f0
          have q1_ := FA.out.f1
          have q2_ := FA.out.f2
          go_simp
          refine hK.out _ _ (by (try dsimp only); first | ((repeat' apply And.intro) <;> ((repeat rw [cellS (by omega)]); assumption)) | go_keep) (fun hHeld => ?_)
          clear hK K
          try simp only [Act.put, List.getElem_toArray, List.getElem_cons_succ, List.getElem_cons_zero, List.setIfInBounds_toArray, List.set_cons_zero, List.set_cons_succ]
          refine wpAnyH_done (by kernel_rfl) ?_ _
          go_wp2_with fail
          go_meet
          case rel => exact ⟨b, ⟨p_, vv, 0⟩, rfl, by omega, FA.out.cw.put ⟨p_, vv, 0⟩, F0.out.put3_other (by omega) ⟨p_, vv, 0⟩, F1.out.put_other (by omega) ⟨p_, vv, 0⟩, (FS.out.put3 b ⟨p_, vv, 0⟩ (by omega) (by omega)).more (by omega), FK.out.put3 (by omega) ⟨p_, vv, 0⟩⟩
      · go_simp
        obtain ⟨b, hbb⟩ : ∃ b, b = v_2.heap.size := ⟨_, rfl⟩
        obtain ⟨v_17, hw2⟩ : ∃ v_17, v_17 = v_2.alloc (.cells #[.int .i64 0, .int .i64 0, .int .i64 0] 27) := ⟨_, rfl⟩
        have nb_0 := F0.out.lt
        rw [← hbb] at nb_0
        have nb_1 := F1.out.lt
        rw [← hbb] at nb_1
        have nb_s := FS.out.lt
        rw [← hbb] at nb_s
        have FA : Hid (R3 v_17 b) := by rw [hw2]; exact R3.at_ _ _ _ hbb
        have F0 : Hid (HAt v_17 w.heap.size h) := by rw [hw2]; exact F0.out.alloc _
        have F1 : Hid (R3 v_17 (w.heap.size + 1)) := by rw [hw2]; exact F1.out.alloc _
        have FS : Hid (SrcT v_17 sb B a len cap (T + 20)) := by rw [hw2]; exact FS.out.alloc _
        have FK : Hid (Keeps sb w v_17) := by rw [hw2]; exact FK.out.alloc _
        rw [← hw2, ← hbb]
        clear hbb hw2
        obtain ⟨x0_0, x0_1, x0_2, x0_3, x0_4, x0_5, x0_6, x0_7, x0_8, x0_9, x0_10, x0_11⟩ := F0.out
        refine hK.out _ _ (by (try dsimp only); first | exact ⟨x0_0, x0_1, x0_2, x0_3, x0_4, x0_5, x0_6, x0_7, x0_8, x0_9, x0_10, x0_11⟩ | go_keep) (fun hHeld => ?_)
        clear hK K
        try simp only [Act.put, List.getElem_toArray, List.getElem_cons_succ, List.getElem_cons_zero, List.setIfInBounds_toArray, List.set_cons_zero, List.set_cons_succ]
        refine wpAnyH_ready (rs := [8]) (by kernel_rfl) (by simp) ?_
        refine (AllReadyH.cons rfl (fun K hK => ?_) AllReadyH.nil)
        go_simp
        refine (l1Next_t sb B a len cap _ _ _ FS.out (by omega) (by omega) (by omega)).mono ?_
        rintro e v_18 ⟨v1, rfl, hv1, hs, hk⟩
        have F0 : Hid (HAt v_18 w.heap.size h) := F0.out.keeps hk (by omega)
        have F1 : Hid (R3 v_18 (w.heap.size + 1)) := F1.out.keeps hk (by omega)
        have FS : Hid (SrcT v_18 sb B a len cap ((T + 20) + 1)) := hs
        have FK : Hid (Keeps sb w v_18) := FK.out.trans hk
        have FA : Hid (R3 v_18 b) := FA.out.keeps hk (by omega)
        clear hs hk
        obtain ⟨x0_0, x0_1, x0_2, x0_3, x0_4, x0_5, x0_6, x0_7, x0_8, x0_9, x0_10, x0_11⟩ := F0.out
        try dsimp only
        refine hK.out _ _ (by (try dsimp only); first | exact ⟨x0_0, x0_1, x0_2, x0_3, x0_4, x0_5, x0_6, x0_7, x0_8, x0_9, x0_10, x0_11⟩ | go_keep) (fun hHeld => ?_)
        clear hK K
        try simp only [Act.put, List.getElem_toArray, List.getElem_cons_succ, List.getElem_cons_zero, List.setIfInBounds_toArray, List.set_cons_zero, List.set_cons_succ]
        refine wpAnyH_ready (rs := [13]) (by kernel_rfl) (by simp) ?_
        refine (AllReadyH.cons rfl (fun K hK => ?_) AllReadyH.nil)
        go_simp
        refine (l1Next_t sb B a len cap _ _ _ FS.out (by omega) (by omega) (by omega)).mono ?_
        rintro e v_19 ⟨v2, rfl, hv2, hs, hk⟩
        have F0 : Hid (HAt v_19 w.heap.size h) := F0.out.keeps hk (by omega)
        have F1 : Hid (R3 v_19 (w.heap.size + 1)) := F1.out.keeps hk (by omega)
        have FS : Hid (SrcT v_19 sb B a len cap (((T + 20) + 1) + 1)) := hs
        have FK : Hid (Keeps sb w v_19) := FK.out.trans hk
        have FA : Hid (R3 v_19 b) := FA.out.keeps hk (by omega)
        clear hs hk
        obtain ⟨x0_0, x0_1, x0_2, x0_3, x0_4, x0_5, x0_6, x0_7, x0_8, x0_9, x0_10, x0_11⟩ := F0.out
        have en2 : IntKind.i64.wrap (-(v2 : Int)) = -(v2 : Int) := IntWalk.i64_in _ (by omega)
        try dsimp only
        refine hK.out _ _ (by (try dsimp only); first | exact ⟨x0_0, x0_1, x0_2, x0_3, x0_4, x0_5, x0_6, x0_7, x0_8, x0_9, x0_10, x0_11⟩ | go_keep) (fun hHeld => ?_)
        clear hK K
        try simp only [Act.put, List.getElem_toArray, List.getElem_cons_succ, List.getElem_cons_zero, List.setIfInBounds_toArray, List.set_cons_zero, List.set_cons_succ]
        refine tkz 14 rfl ?_
        refine wpAnyH_ready (rs := [15]) (by kernel_rfl) (by simp) ?_
        refine (AllReadyH.cons rfl (fun K hK => ?_) AllReadyH.nil)
        go_simp
        obtain ⟨lb0, hbb⟩ : ∃ lb0, lb0 = v_19.heap.size := ⟨_, rfl⟩
        obtain ⟨v_20, hw2⟩ : ∃ v_20, v_20 = v_19.alloc (.cells #[.int .i64 0, .int .i64 (v1 : Int), .int .i64 (-(v2 : Int))] 2) := ⟨_, rfl⟩
        have nlb0_0 := F0.out.lt
        rw [← hbb] at nlb0_0
        have nlb0_1 := F1.out.lt
        rw [← hbb] at nlb0_1
        have nlb0_s := FS.out.lt
        rw [← hbb] at nlb0_s
        have nlb0_4 := FA.out.lt
        rw [← hbb] at nlb0_4
        have FL0 : Hid (LstAt v_20 lb0 [0, (v1 : Int), (-(v2 : Int))]) := by rw [hw2]; exact LstAt.new v_19 [0, (v1 : Int), (-(v2 : Int))] 2 lb0 hbb (by simp)
        have F0 : Hid (HAt v_20 w.heap.size h) := by rw [hw2]; exact F0.out.alloc _
        have F1 : Hid (R3 v_20 (w.heap.size + 1)) := by rw [hw2]; exact F1.out.alloc _
        have FS : Hid (SrcT v_20 sb B a len cap (((T + 20) + 1) + 1)) := by rw [hw2]; exact FS.out.alloc _
        have FK : Hid (Keeps sb w v_20) := by rw [hw2]; exact FK.out.alloc _
        have FA : Hid (R3 v_20 b) := by rw [hw2]; exact FA.out.alloc _
        rw [← hw2, ← hbb]
        clear hbb hw2
        obtain ⟨x0_0, x0_1, x0_2, x0_3, x0_4, x0_5, x0_6, x0_7, x0_8, x0_9, x0_10, x0_11⟩ := F0.out
        refine hK.out _ _ (by (try dsimp only); first | exact ⟨x0_0, x0_1, x0_2, x0_3, x0_4, x0_5, x0_6, x0_7, x0_8, x0_9, x0_10, x0_11⟩ | go_keep) (fun hHeld => ?_)
        clear hK K
        try simp only [Act.put, List.getElem_toArray, List.getElem_cons_succ, List.getElem_cons_zero, List.setIfInBounds_toArray, List.set_cons_zero, List.set_cons_succ]
        refine wpAnyH_ready (rs := [16]) (by kernel_rfl) (by simp) ?_
        refine (AllReadyH.cons rfl (fun K hK => ?_) AllReadyH.nil)
        go_simp
        refine (l1Pick_t sb B lb0 [0, (v1 : Int), -(v2 : Int)] (fun _ => True) (fun _ _ => trivial) a len cap _ _ FS.out (by omega) FL0.out (by simp) (by omega)).mono ?_
        rintro e v_21 ⟨vv, rfl, -, hs, hk⟩
        have F0 : Hid (HAt v_21 w.heap.size h) := F0.out.keeps hk (by omega)
        have F1 : Hid (R3 v_21 (w.heap.size + 1)) := F1.out.keeps hk (by omega)
        have FS : Hid (SrcT v_21 sb B a len cap ((((T + 20) + 1) + 1) + 1)) := hs
        have FK : Hid (Keeps sb w v_21) := FK.out.trans hk
        have FA : Hid (R3 v_21 b) := FA.out.keeps hk (by omega)
        have FL0 : Hid (LstAt v_21 lb0 [0, (v1 : Int), (-(v2 : Int))]) := FL0.out.keeps hk (by omega)
        clear hs hk
        obtain ⟨x0_0, x0_1, x0_2, x0_3, x0_4, x0_5, x0_6, x0_7, x0_8, x0_9, x0_10, x0_11⟩ := F0.out
        try dsimp only
        refine hK.out _ _ (by (try dsimp only); first | exact ⟨x0_0, x0_1, x0_2, x0_3, x0_4, x0_5, x0_6, x0_7, x0_8, x0_9, x0_10, x0_11⟩ | go_keep) (fun hHeld => ?_)
        clear hK K
        try simp only [Act.put, List.getElem_toArray, List.getElem_cons_succ, List.getElem_cons_zero, List.setIfInBounds_toArray, List.set_cons_zero, List.set_cons_succ]
        refine tkz 17 rfl ?_
        refine wpAnyH_ready (rs := [19]) (by kernel_rfl) (by simp) ?_
        refine (AllReadyH.cons rfl (fun K hK => ?_) AllReadyH.nil)
        have r0_ := FA.out.c0
        have r1_ := FA.out.c1
        have r2_ := FA.out.c2
        have q0_ := FA.out.f0
        have q1_ := FA.out.f1
        have q2_ := FA.out.f2
        go_simp
        refine hK.out _ _ (by (try dsimp only); first | ((repeat' apply And.intro) <;> ((repeat rw [cellS (by omega)]); assumption)) | go_keep) (fun hHeld => ?_)
        clear hK K
        try simp only [Act.put, List.getElem_toArray, List.getElem_cons_succ, List.getElem_cons_zero, List.setIfInBounds_toArray, List.set_cons_zero, List.set_cons_succ]
        refine wpAnyH_done (by kernel_rfl) ?_ _
        go_wp2_with fail
        go_meet
        case rel => exact ⟨b, ⟨p_, vv, 0⟩, rfl, by omega, FA.out.cw.put ⟨p_, vv, 0⟩, F0.out.put3_other (by omega) ⟨p_, vv, 0⟩, F1.out.put_other (by omega) ⟨p_, vv, 0⟩, (FS.out.put3 b ⟨p_, vv, 0⟩ (by omega) (by omega)).more (by omega), FK.out.put3 (by omega) ⟨p_, vv, 0⟩⟩
    · go_simp
      obtain ⟨b, hbb⟩ : ∃ b, b = v_1.heap.size := ⟨_, rfl⟩
      obtain ⟨v_22, hw2⟩ : ∃ v_22, v_22 = v_1.alloc (.cells #[.int .i64 0, .int .i64 0, .int .i64 0] 27) := ⟨_, rfl⟩
      have nb_0 := F0.out.lt
      rw [← hbb] at nb_0
      have nb_1 := F1.out.lt
      rw [← hbb] at nb_1
      have nb_s := FS.out.lt
      rw [← hbb] at nb_s
      have FA : Hid (R3 v_22 b) := by rw [hw2]; exact R3.at_ _ _ _ hbb
      have F0 : Hid (HAt v_22 w.heap.size h) := by rw [hw2]; exact F0.out.alloc _
      have F1 : Hid (R3 v_22 (w.heap.size + 1)) := by rw [hw2]; exact F1.out.alloc _
      have FS : Hid (SrcT v_22 sb B a len cap T) := by rw [hw2]; exact FS.out.alloc _
      have FK : Hid (Keeps sb w v_22) := by rw [hw2]; exact FK.out.alloc _
      rw [← hw2, ← hbb]
      clear hbb hw2
      obtain ⟨x0_0, x0_1, x0_2, x0_3, x0_4, x0_5, x0_6, x0_7, x0_8, x0_9, x0_10, x0_11⟩ := F0.out
      refine hK.out _ _ (by (try dsimp only); first | exact ⟨x0_0, x0_1, x0_2, x0_3, x0_4, x0_5, x0_6, x0_7, x0_8, x0_9, x0_10, x0_11⟩ | go_keep) (fun hHeld => ?_)
      clear hK K
      try simp only [Act.put, List.getElem_toArray, List.getElem_cons_succ, List.getElem_cons_zero, List.setIfInBounds_toArray, List.set_cons_zero, List.set_cons_succ]
      refine wpAnyH_ready (rs := [2]) (by kernel_rfl) (by simp) ?_
      refine (AllReadyH.cons rfl (fun K hK => ?_) AllReadyH.nil)
      go_simp
      refine (l2Pos_t h HO.out sb B a len cap _ _ FS.out (by omega)).mono ?_
      rintro e v_23 ⟨p_, rfl, hs, hk⟩
      have F0 : Hid (HAt v_23 w.heap.size h) := F0.out.keeps hk (by omega)
      have F1 : Hid (R3 v_23 (w.heap.size + 1)) := F1.out.keeps hk (by omega)
      have FS : Hid (SrcT v_23 sb B a len cap (T + 20)) := hs
      have FK : Hid (Keeps sb w v_23) := FK.out.trans hk
      have FA : Hid (R3 v_23 b) := FA.out.keeps hk (by omega)
      clear hs hk
      obtain ⟨x0_0, x0_1, x0_2, x0_3, x0_4, x0_5, x0_6, x0_7, x0_8, x0_9, x0_10, x0_11⟩ := F0.out
      try dsimp only
      refine hK.out _ _ (by (try dsimp only); first | exact ⟨x0_0, x0_1, x0_2, x0_3, x0_4, x0_5, x0_6, x0_7, x0_8, x0_9, x0_10, x0_11⟩ | go_keep) (fun hHeld => ?_)
      clear hK K
      try simp only [Act.put, List.getElem_toArray, List.getElem_cons_succ, List.getElem_cons_zero, List.setIfInBounds_toArray, List.set_cons_zero, List.set_cons_succ]
      refine wpAnyH_ready (rs := [8]) (by kernel_rfl) (by simp) ?_
      refine (AllReadyH.cons rfl (fun K hK => ?_) AllReadyH.nil)
      go_simp
      refine (l1Next_t sb B a len cap _ _ _ FS.out (by omega) (by omega) (by omega)).mono ?_
      rintro e v_24 ⟨v1, rfl, hv1, hs, hk⟩
      have F0 : Hid (HAt v_24 w.heap.size h) := F0.out.keeps hk (by omega)
      have F1 : Hid (R3 v_24 (w.heap.size + 1)) := F1.out.keeps hk (by omega)
      have FS : Hid (SrcT v_24 sb B a len cap ((T + 20) + 1)) := hs
      have FK : Hid (Keeps sb w v_24) := FK.out.trans hk
      have FA : Hid (R3 v_24 b) := FA.out.keeps hk (by omega)
      clear hs hk
      obtain ⟨x0_0, x0_1, x0_2, x0_3, x0_4, x0_5, x0_6, x0_7, x0_8, x0_9, x0_10, x0_11⟩ := F0.out
      try dsimp only
      refine hK.out _ _ (by (try dsimp only); first | exact ⟨x0_0, x0_1, x0_2, x0_3, x0_4, x0_5, x0_6, x0_7, x0_8, x0_9, x0_10, x0_11⟩ | go_keep) (fun hHeld => ?_)
      clear hK K
      try simp only [Act.put, List.getElem_toArray, List.getElem_cons_succ, List.getElem_cons_zero, List.setIfInBounds_toArray, List.set_cons_zero, List.set_cons_succ]
      refine wpAnyH_ready (rs := [13]) (by kernel_rfl) (by simp) ?_
      refine (AllReadyH.cons rfl (fun K hK => ?_) AllReadyH.nil)
      go_simp
      refine (l1Next_t sb B a len cap _ _ _ FS.out (by omega) (by omega) (by omega)).mono ?_
      rintro e v_25 ⟨v2, rfl, hv2, hs, hk⟩
      have F0 : Hid (HAt v_25 w.heap.size h) := F0.out.keeps hk (by omega)
      have F1 : Hid (R3 v_25 (w.heap.size + 1)) := F1.out.keeps hk (by omega)
      have FS : Hid (SrcT v_25 sb B a len cap (((T + 20) + 1) + 1)) := hs
      have FK : Hid (Keeps sb w v_25) := FK.out.trans hk
      have FA : Hid (R3 v_25 b) := FA.out.keeps hk (by omega)
      clear hs hk
      obtain ⟨x0_0, x0_1, x0_2, x0_3, x0_4, x0_5, x0_6, x0_7, x0_8, x0_9, x0_10, x0_11⟩ := F0.out
      have en2 : IntKind.i64.wrap (-(v2 : Int)) = -(v2 : Int) := IntWalk.i64_in _ (by omega)
      try dsimp only
      refine hK.out _ _ (by (try dsimp only); first | exact ⟨x0_0, x0_1, x0_2, x0_3, x0_4, x0_5, x0_6, x0_7, x0_8, x0_9, x0_10, x0_11⟩ | go_keep) (fun hHeld => ?_)
      clear hK K
      try simp only [Act.put, List.getElem_toArray, List.getElem_cons_succ, List.getElem_cons_zero, List.setIfInBounds_toArray, List.set_cons_zero, List.set_cons_succ]
      refine tkz 14 rfl ?_
      refine wpAnyH_ready (rs := [15]) (by kernel_rfl) (by simp) ?_
      refine (AllReadyH.cons rfl (fun K hK => ?_) AllReadyH.nil)
      go_simp
      obtain ⟨lb0, hbb⟩ : ∃ lb0, lb0 = v_25.heap.size := ⟨_, rfl⟩
      obtain ⟨v_26, hw2⟩ : ∃ v_26, v_26 = v_25.alloc (.cells #[.int .i64 0, .int .i64 (v1 : Int), .int .i64 (-(v2 : Int))] 2) := ⟨_, rfl⟩
      have nlb0_0 := F0.out.lt
      rw [← hbb] at nlb0_0
      have nlb0_1 := F1.out.lt
      rw [← hbb] at nlb0_1
      have nlb0_s := FS.out.lt
      rw [← hbb] at nlb0_s
      have nlb0_4 := FA.out.lt
      rw [← hbb] at nlb0_4
      have FL0 : Hid (LstAt v_26 lb0 [0, (v1 : Int), (-(v2 : Int))]) := by rw [hw2]; exact LstAt.new v_25 [0, (v1 : Int), (-(v2 : Int))] 2 lb0 hbb (by simp)
      have F0 : Hid (HAt v_26 w.heap.size h) := by rw [hw2]; exact F0.out.alloc _
      have F1 : Hid (R3 v_26 (w.heap.size + 1)) := by rw [hw2]; exact F1.out.alloc _
      have FS : Hid (SrcT v_26 sb B a len cap (((T + 20) + 1) + 1)) := by rw [hw2]; exact FS.out.alloc _
      have FK : Hid (Keeps sb w v_26) := by rw [hw2]; exact FK.out.alloc _
      have FA : Hid (R3 v_26 b) := by rw [hw2]; exact FA.out.alloc _
      rw [← hw2, ← hbb]
      clear hbb hw2
      obtain ⟨x0_0, x0_1, x0_2, x0_3, x0_4, x0_5, x0_6, x0_7, x0_8, x0_9, x0_10, x0_11⟩ := F0.out
      refine hK.out _ _ (by (try dsimp only); first | exact ⟨x0_0, x0_1, x0_2, x0_3, x0_4, x0_5, x0_6, x0_7, x0_8, x0_9, x0_10, x0_11⟩ | go_keep) (fun hHeld => ?_)
      clear hK K
      try simp only [Act.put, List.getElem_toArray, List.getElem_cons_succ, List.getElem_cons_zero, List.setIfInBounds_toArray, List.set_cons_zero, List.set_cons_succ]
      refine wpAnyH_ready (rs := [16]) (by kernel_rfl) (by simp) ?_
      refine (AllReadyH.cons rfl (fun K hK => ?_) AllReadyH.nil)
      go_simp
      refine (l1Pick_t sb B lb0 [0, (v1 : Int), -(v2 : Int)] (fun _ => True) (fun _ _ => trivial) a len cap _ _ FS.out (by omega) FL0.out (by simp) (by omega)).mono ?_
      rintro e v_27 ⟨vv, rfl, -, hs, hk⟩
      have F0 : Hid (HAt v_27 w.heap.size h) := F0.out.keeps hk (by omega)
      have F1 : Hid (R3 v_27 (w.heap.size + 1)) := F1.out.keeps hk (by omega)
      have FS : Hid (SrcT v_27 sb B a len cap ((((T + 20) + 1) + 1) + 1)) := hs
      have FK : Hid (Keeps sb w v_27) := FK.out.trans hk
      have FA : Hid (R3 v_27 b) := FA.out.keeps hk (by omega)
      have FL0 : Hid (LstAt v_27 lb0 [0, (v1 : Int), (-(v2 : Int))]) := FL0.out.keeps hk (by omega)
      clear hs hk
      obtain ⟨x0_0, x0_1, x0_2, x0_3, x0_4, x0_5, x0_6, x0_7, x0_8, x0_9, x0_10, x0_11⟩ := F0.out
      try dsimp only
      refine hK.out _ _ (by (try dsimp only); first | exact ⟨x0_0, x0_1, x0_2, x0_3, x0_4, x0_5, x0_6, x0_7, x0_8, x0_9, x0_10, x0_11⟩ | go_keep) (fun hHeld => ?_)
      clear hK K
      try simp only [Act.put, List.getElem_toArray, List.getElem_cons_succ, List.getElem_cons_zero, List.setIfInBounds_toArray, List.set_cons_zero, List.set_cons_succ]
      refine tkz 17 rfl ?_
      refine wpAnyH_ready (rs := [19]) (by kernel_rfl) (by simp) ?_
      refine (AllReadyH.cons rfl (fun K hK => ?_) AllReadyH.nil)
      have r0_ := FA.out.c0
      have r1_ := FA.out.c1
      have r2_ := FA.out.c2
      have q0_ := FA.out.f0
      have q1_ := FA.out.f1
      have q2_ := FA.out.f2
      go_simp
      refine hK.out _ _ (by (try dsimp only); first | ((repeat' apply And.intro) <;> ((repeat rw [cellS (by omega)]); assumption)) | go_keep) (fun hHeld => ?_)
      clear hK K
      try simp only [Act.put, List.getElem_toArray, List.getElem_cons_succ, List.getElem_cons_zero, List.setIfInBounds_toArray, List.set_cons_zero, List.set_cons_succ]
      refine wpAnyH_done (by kernel_rfl) ?_ _
      go_wp2_with fail
      go_meet
      case rel => exact ⟨b, ⟨p_, vv, 0⟩, rfl, by omega, FA.out.cw.put ⟨p_, vv, 0⟩, F0.out.put3_other (by omega) ⟨p_, vv, 0⟩, F1.out.put_other (by omega) ⟨p_, vv, 0⟩, (FS.out.put3 b ⟨p_, vv, 0⟩ (by omega) (by omega)).more (by omega), FK.out.put3 (by omega) ⟨p_, vv, 0⟩⟩
  case rest =>
    obtain ⟨b, g, rfl, hb1, hc, hh, hr, hs, hk⟩ := hcut
    have F2 : Hid (CW wc b g) := hc
    have F0 : Hid (HAt wc w.heap.size h) := hh
    have F1 : Hid (R3 wc (w.heap.size + 1)) := hr
    have FS : Hid (SrcT wc sb B a len cap (T + 24)) := hs
    have FK : Hid (Keeps sb w wc) := hk
    clear hc hh hr hs hk
    go_upto_region 2 with fail
    go_cut [5, 30] (fun p s wx => p = .pointer (some ⟨b, 0, none⟩) ∧ ∃ vb : Bool, s = .bool vb ∧ CW wx b g ∧ HAt wx w.heap.size h ∧ R3 wx (w.heap.size + 1) ∧ SrcT wx sb B a len cap (T + 25) ∧ Keeps sb w wx)
    case first =>
      obtain ⟨c0_, c1_, c2_, q0_, q1_, q2_⟩ := F2.out
      by_cases vz : g.vel = 0
      · have b0 : (g.vel == 0) = true := by simpa using vz
        clear vz
        go_wp2_with (go_at_call 40; refine (l1Chance_t sb B a len cap _ _ _ FS.out (by omega) (by omega) (by omega)).mono ?_; rintro e w2 ⟨vb, rfl, hs, hk⟩; have F2 : Hid (CW w2 b g) := F2.out.keeps hk (by omega); have F0 : Hid (HAt w2 w.heap.size h) := F0.out.keeps hk (by omega); have F1 : Hid (R3 w2 (w.heap.size + 1)) := F1.out.keeps hk (by omega); have FS : Hid (SrcT w2 sb B a len cap (T + 24 + 1)) := hs; have FK : Hid (Keeps sb w w2) := FK.out.trans hk; clear hs hk)
        go_meet
        case rel => exact ⟨rfl, vb, rfl, F2.out, F0.out, F1.out, FS.out.more (by omega), FK.out⟩
      · have b0 : (g.vel == 0) = false := by simpa using vz
        clear vz
        go_wp2
        go_meet
        case rel => exact ⟨rfl, false, rfl, F2.out, F0.out, F1.out, FS.out.more (by omega), FK.out⟩
    case rest =>
      obtain ⟨rfl, vb, rfl, hc, hh, hr, hs, hk⟩ := hcut
      have F2 : Hid (CW wc b g) := hc
      have F0 : Hid (HAt wc w.heap.size h) := hh
      have F1 : Hid (R3 wc (w.heap.size + 1)) := hr
      have FS : Hid (SrcT wc sb B a len cap (T + 25)) := hs
      have FK : Hid (Keeps sb w wc) := hk
      clear hc hh hr hs hk
      go_upto_if 30 with fail
      go_cut [5] (fun p wx => p = .pointer (some ⟨b, 0, none⟩) ∧ ∃ g : Cs, CW wx b g ∧ HAt wx w.heap.size h ∧ R3 wx (w.heap.size + 1) ∧ SrcT wx sb B a len cap (T + 26) ∧ Keeps sb w wx)
      case first =>
        cases vb
        · go_wp2
          go_meet
          case rel => exact ⟨rfl, g, F2.out, F0.out, F1.out, FS.out.more (by omega), FK.out⟩
        · obtain ⟨x0_0, x0_1, x0_2, x0_3, x0_4, x0_5, x0_6, x0_7, x0_8, x0_9, x0_10, x0_11⟩ := F0.out
          go_wp2_with (go_at_call 39; refine (l1Next_t sb B a len cap _ _ _ FS.out (by omega) (by omega) (by omega)).mono ?_; rintro e w2 ⟨v, rfl, hv, hs, hk⟩; have F2 : Hid (CW w2 b g) := F2.out.keeps hk (by omega); have F0 : Hid (HAt w2 w.heap.size h) := F0.out.keeps hk (by omega); have F1 : Hid (R3 w2 (w.heap.size + 1)) := F1.out.keeps hk (by omega); have FS : Hid (SrcT w2 sb B a len cap (T + 25 + 1)) := hs; have FK : Hid (Keeps sb w w2) := FK.out.trans hk; clear hs hk; obtain ⟨c0_, c1_, c2_, q0_, q1_, q2_⟩ := F2.out)
          go_meet
          case rel => exact ⟨rfl, _, F2.out.set_door _, F0.out.other (by omega), F1.out.other (by omega), (FS.out.other b _ _ (by omega) (by omega)).more (by omega), FK.out.own (by omega) _ _⟩
      case rest =>
        obtain ⟨rfl, g2, hc, hh, hr, hs, hk⟩ := hcut
        have F2 : Hid (CW wc b g2) := hc
        have F0 : Hid (HAt wc w.heap.size h) := hh
        have F1 : Hid (R3 wc (w.heap.size + 1)) := hr
        have FS : Hid (SrcT wc sb B a len cap (T + 26)) := hs
        have FK : Hid (Keeps sb w wc) := hk
        clear hc hh hr hs hk
        obtain ⟨wd, hwd⟩ : ∃ wd, wd = wc := ⟨_, rfl⟩
        subst hwd
        go_upto_region 4 with fail
        go_cut [5] (fun p wx => p = .pointer (some ⟨b, 0, none⟩) ∧ ∃ g : Cs, CW wx b g ∧ HAt wx w.heap.size h ∧ R3 wx (w.heap.size + 1) ∧ SrcT wx sb B a len cap (T + 26) ∧ Keeps sb w wx)
        case first =>
          have F0 : Hid (HAt wd.drew w.heap.size h) := F0.out.below (Below.refl _ _).drew F0.out.lt
          have F1 : Hid (R3 wd.drew (w.heap.size + 1)) := F1.out.below (Below.refl _ _).drew F1.out.lt
          have F2 : Hid (CW wd.drew b g2) := F2.out.below (Below.refl _ _).drew F2.out.lt
          have FS : Hid (SrcT wd.drew sb B a len cap (T + 26)) := FS.out.drew
          have FK : Hid (Keeps sb w wd.drew) := FK.out.of_below (Below.refl _ _).drew
          obtain ⟨x0_0, x0_1, x0_2, x0_3, x0_4, x0_5, x0_6, x0_7, x0_8, x0_9, x0_10, x0_11⟩ := F0.out
          refine wp_region_held_drew (S := (fun w'' => w''.cell? ⟨w.heap.size, 0, none⟩ = some (.int .i64 h.fl) ∧ w''.cell? ⟨w.heap.size, 1, none⟩ = some (.int .i64 h.gp) ∧ w''.cell? ⟨w.heap.size, 2, none⟩ = some (.int .i64 h.ln) ∧ w''.cell? ⟨w.heap.size, 3, none⟩ = some (.int .i64 h.rf) ∧ w''.cell? ⟨w.heap.size, 4, none⟩ = some (.int .i64 h.sp) ∧ w''.cell? ⟨w.heap.size, 5, none⟩ = some (.int .i64 h.pu) ∧ w''.cell? ⟨w.heap.size, 6, none⟩ = some (.int .i64 h.br) ∧ w''.cell? ⟨w.heap.size, 7, none⟩ = some (.int .i64 h.dr) ∧ w''.cell? ⟨w.heap.size, 8, none⟩ = some (.int .i64 h.lv) ∧ w''.cell? ⟨w.heap.size, 9, none⟩ = some (.int .i64 h.dO) ∧ w''.cell? ⟨w.heap.size, 10, none⟩ = some (.int .i64 h.ld) ∧ w''.cell? ⟨w.heap.size, 11, none⟩ = some (.int .i64 h.qu))) (by kernel_rfl) (by (try dsimp only); first | exact ⟨x0_0, x0_1, x0_2, x0_3, x0_4, x0_5, x0_6, x0_7, x0_8, x0_9, x0_10, x0_11⟩ | go_keep) (fun hHeld => ?_)
          obtain ⟨v_28, hw1⟩ : ∃ v_28, v_28 = wd.drew := ⟨_, rfl⟩
          have F0 : Hid (HAt v_28 w.heap.size h) := by rw [hw1]; exact F0.out
          have F1 : Hid (R3 v_28 (w.heap.size + 1)) := by rw [hw1]; exact F1.out
          have F2 : Hid (CW v_28 b g2) := by rw [hw1]; exact F2.out
          have FS : Hid (SrcT v_28 sb B a len cap (T + 26)) := by rw [hw1]; exact FS.out
          have FK : Hid (Keeps sb w v_28) := by rw [hw1]; exact FK.out
          rw [← hw1] at hHeld ⊢
          clear hw1
          obtain ⟨x0_0, x0_1, x0_2, x0_3, x0_4, x0_5, x0_6, x0_7, x0_8, x0_9, x0_10, x0_11⟩ := F0.out
          refine tkz 0 rfl ?_
          refine tkz 2 rfl ?_
          refine tkz 4 rfl ?_
          refine wpAnyH_ready (rs := [1, 5]) (by kernel_rfl) (by simp) ?_
          refine (AllReadyH.cons rfl (fun K hK => ?_) (AllReadyH.cons rfl (fun K hK => ?_) AllReadyH.nil))
          · go_simp
            refine (specLow_below h HO.out _).mono ?_
            rintro e v_29 ⟨rfl, hb⟩
            have F0 : Hid (HAt v_29 w.heap.size h) := F0.out.below hb F0.out.lt
            have F1 : Hid (R3 v_29 (w.heap.size + 1)) := F1.out.below hb F1.out.lt
            have F2 : Hid (CW v_29 b g2) := F2.out.below hb F2.out.lt
            have FS : Hid (SrcT v_29 sb B a len cap (T + 26)) := FS.out.below hb
            have FK : Hid (Keeps sb w v_29) := FK.out.of_below hb
            clear hb
            obtain ⟨x0_0, x0_1, x0_2, x0_3, x0_4, x0_5, x0_6, x0_7, x0_8, x0_9, x0_10, x0_11⟩ := F0.out
            try dsimp only
            refine hK.out _ _ (by (try dsimp only); first | exact ⟨x0_0, x0_1, x0_2, x0_3, x0_4, x0_5, x0_6, x0_7, x0_8, x0_9, x0_10, x0_11⟩ | go_keep) (fun hHeld => ?_)
            clear hK K
            try simp only [Act.put, List.getElem_toArray, List.getElem_cons_succ, List.getElem_cons_zero, List.setIfInBounds_toArray, List.set_cons_zero, List.set_cons_succ]
            refine wpAnyH_ready (rs := [3, 5]) (by kernel_rfl) (by simp) ?_
            refine (AllReadyH.cons rfl (fun K hK => ?_) (AllReadyH.cons rfl (fun K hK => ?_) AllReadyH.nil))
            · go_simp
              refine (specHigh_below h HO.out _).mono ?_
              rintro e v_30 ⟨rfl, hb⟩
              have F0 : Hid (HAt v_30 w.heap.size h) := F0.out.below hb F0.out.lt
              have F1 : Hid (R3 v_30 (w.heap.size + 1)) := F1.out.below hb F1.out.lt
              have F2 : Hid (CW v_30 b g2) := F2.out.below hb F2.out.lt
              have FS : Hid (SrcT v_30 sb B a len cap (T + 26)) := FS.out.below hb
              have FK : Hid (Keeps sb w v_30) := FK.out.of_below hb
              clear hb
              obtain ⟨x0_0, x0_1, x0_2, x0_3, x0_4, x0_5, x0_6, x0_7, x0_8, x0_9, x0_10, x0_11⟩ := F0.out
              try dsimp only
              refine hK.out _ _ (by (try dsimp only); first | exact ⟨x0_0, x0_1, x0_2, x0_3, x0_4, x0_5, x0_6, x0_7, x0_8, x0_9, x0_10, x0_11⟩ | go_keep) (fun hHeld => ?_)
              clear hK K
              try simp only [Act.put, List.getElem_toArray, List.getElem_cons_succ, List.getElem_cons_zero, List.setIfInBounds_toArray, List.set_cons_zero, List.set_cons_succ]
              refine wpAnyH_ready (rs := [5]) (by kernel_rfl) (by simp) ?_
              refine (AllReadyH.cons rfl (fun K hK => ?_) AllReadyH.nil)
              have c0_ := F2.out.c0
              go_simp
              refine hK.out _ _ (by (try dsimp only); first | exact ⟨x0_0, x0_1, x0_2, x0_3, x0_4, x0_5, x0_6, x0_7, x0_8, x0_9, x0_10, x0_11⟩ | go_keep) (fun hHeld => ?_)
              clear hK K
              try simp only [Act.put, List.getElem_toArray, List.getElem_cons_succ, List.getElem_cons_zero, List.setIfInBounds_toArray, List.set_cons_zero, List.set_cons_succ]
              refine wpAnyH_ready (rs := [6]) (by kernel_rfl) (by simp) ?_
              refine (AllReadyH.cons rfl (fun K hK => ?_) AllReadyH.nil)
              go_simp
              refine (l1Min_any _ _ _).mono ?_
              rintro e w_ ⟨rfl, hw⟩
              obtain rfl := hw.symm
              clear hw
              try dsimp only
              refine hK.out _ _ (by (try dsimp only); first | exact ⟨x0_0, x0_1, x0_2, x0_3, x0_4, x0_5, x0_6, x0_7, x0_8, x0_9, x0_10, x0_11⟩ | go_keep) (fun hHeld => ?_)
              clear hK K
              try simp only [Act.put, List.getElem_toArray, List.getElem_cons_succ, List.getElem_cons_zero, List.setIfInBounds_toArray, List.set_cons_zero, List.set_cons_succ]
              refine wpAnyH_ready (rs := [7]) (by kernel_rfl) (by simp) ?_
              refine (AllReadyH.cons rfl (fun K hK => ?_) AllReadyH.nil)
              go_simp
              refine (l1Max_any _ _ _).mono ?_
              rintro e w_ ⟨rfl, hw⟩
              obtain rfl := hw.symm
              clear hw
              try dsimp only
              refine hK.out _ _ (by (try dsimp only); first | exact ⟨x0_0, x0_1, x0_2, x0_3, x0_4, x0_5, x0_6, x0_7, x0_8, x0_9, x0_10, x0_11⟩ | go_keep) (fun hHeld => ?_)
              clear hK K
              try simp only [Act.put, List.getElem_toArray, List.getElem_cons_succ, List.getElem_cons_zero, List.setIfInBounds_toArray, List.set_cons_zero, List.set_cons_succ]
              refine tkz 8 rfl ?_
              refine wpAnyH_ready (rs := [9]) (by kernel_rfl) (by simp) ?_
              refine (AllReadyH.cons rfl (fun K hK => ?_) AllReadyH.nil)
              have c0_ := F2.out.c0
              have q0_ := F2.out.f0
              go_simp
              refine hK.out _ _ (by (try dsimp only); first | ((repeat' apply And.intro) <;> ((repeat rw [cellS (by omega)]); assumption)) | go_keep) (fun hHeld => ?_)
              clear hK K
              try simp only [Act.put, List.getElem_toArray, List.getElem_cons_succ, List.getElem_cons_zero, List.setIfInBounds_toArray, List.set_cons_zero, List.set_cons_succ]
              refine wpAnyH_done (by kernel_rfl) ?_ _
              go_wp2_with fail
              go_meet
              case rel => exact ⟨rfl, _, F2.out.set_pos _, F0.out.other (by omega), F1.out.other (by omega), FS.out.other b _ _ (by omega) (by omega), FK.out.own (by omega) _ _⟩
            · have c0_ := F2.out.c0
              go_simp
              refine hK.out _ _ (by (try dsimp only); first | exact ⟨x0_0, x0_1, x0_2, x0_3, x0_4, x0_5, x0_6, x0_7, x0_8, x0_9, x0_10, x0_11⟩ | go_keep) (fun hHeld => ?_)
              clear hK K
              try simp only [Act.put, List.getElem_toArray, List.getElem_cons_succ, List.getElem_cons_zero, List.setIfInBounds_toArray, List.set_cons_zero, List.set_cons_succ]
              refine wpAnyH_ready (rs := [3]) (by kernel_rfl) (by simp) ?_
              refine (AllReadyH.cons rfl (fun K hK => ?_) AllReadyH.nil)
              go_simp
              refine (specHigh_below h HO.out _).mono ?_
              rintro e v_31 ⟨rfl, hb⟩
              have F0 : Hid (HAt v_31 w.heap.size h) := F0.out.below hb F0.out.lt
              have F1 : Hid (R3 v_31 (w.heap.size + 1)) := F1.out.below hb F1.out.lt
              have F2 : Hid (CW v_31 b g2) := F2.out.below hb F2.out.lt
              have FS : Hid (SrcT v_31 sb B a len cap (T + 26)) := FS.out.below hb
              have FK : Hid (Keeps sb w v_31) := FK.out.of_below hb
              clear hb
              obtain ⟨x0_0, x0_1, x0_2, x0_3, x0_4, x0_5, x0_6, x0_7, x0_8, x0_9, x0_10, x0_11⟩ := F0.out
              try dsimp only
              refine hK.out _ _ (by (try dsimp only); first | exact ⟨x0_0, x0_1, x0_2, x0_3, x0_4, x0_5, x0_6, x0_7, x0_8, x0_9, x0_10, x0_11⟩ | go_keep) (fun hHeld => ?_)
              clear hK K
              try simp only [Act.put, List.getElem_toArray, List.getElem_cons_succ, List.getElem_cons_zero, List.setIfInBounds_toArray, List.set_cons_zero, List.set_cons_succ]
              refine wpAnyH_ready (rs := [6]) (by kernel_rfl) (by simp) ?_
              refine (AllReadyH.cons rfl (fun K hK => ?_) AllReadyH.nil)
              go_simp
              refine (l1Min_any _ _ _).mono ?_
              rintro e w_ ⟨rfl, hw⟩
              obtain rfl := hw.symm
              clear hw
              try dsimp only
              refine hK.out _ _ (by (try dsimp only); first | exact ⟨x0_0, x0_1, x0_2, x0_3, x0_4, x0_5, x0_6, x0_7, x0_8, x0_9, x0_10, x0_11⟩ | go_keep) (fun hHeld => ?_)
              clear hK K
              try simp only [Act.put, List.getElem_toArray, List.getElem_cons_succ, List.getElem_cons_zero, List.setIfInBounds_toArray, List.set_cons_zero, List.set_cons_succ]
              refine wpAnyH_ready (rs := [7]) (by kernel_rfl) (by simp) ?_
              refine (AllReadyH.cons rfl (fun K hK => ?_) AllReadyH.nil)
              go_simp
              refine (l1Max_any _ _ _).mono ?_
              rintro e w_ ⟨rfl, hw⟩
              obtain rfl := hw.symm
              clear hw
              try dsimp only
              refine hK.out _ _ (by (try dsimp only); first | exact ⟨x0_0, x0_1, x0_2, x0_3, x0_4, x0_5, x0_6, x0_7, x0_8, x0_9, x0_10, x0_11⟩ | go_keep) (fun hHeld => ?_)
              clear hK K
              try simp only [Act.put, List.getElem_toArray, List.getElem_cons_succ, List.getElem_cons_zero, List.setIfInBounds_toArray, List.set_cons_zero, List.set_cons_succ]
              refine tkz 8 rfl ?_
              refine wpAnyH_ready (rs := [9]) (by kernel_rfl) (by simp) ?_
              refine (AllReadyH.cons rfl (fun K hK => ?_) AllReadyH.nil)
              have c0_ := F2.out.c0
              have q0_ := F2.out.f0
              go_simp
              refine hK.out _ _ (by (try dsimp only); first | ((repeat' apply And.intro) <;> ((repeat rw [cellS (by omega)]); assumption)) | go_keep) (fun hHeld => ?_)
              clear hK K
              try simp only [Act.put, List.getElem_toArray, List.getElem_cons_succ, List.getElem_cons_zero, List.setIfInBounds_toArray, List.set_cons_zero, List.set_cons_succ]
              refine wpAnyH_done (by kernel_rfl) ?_ _
              go_wp2_with fail
              go_meet
              case rel => exact ⟨rfl, _, F2.out.set_pos _, F0.out.other (by omega), F1.out.other (by omega), FS.out.other b _ _ (by omega) (by omega), FK.out.own (by omega) _ _⟩
          · have c0_ := F2.out.c0
            go_simp
            refine hK.out _ _ (by (try dsimp only); first | exact ⟨x0_0, x0_1, x0_2, x0_3, x0_4, x0_5, x0_6, x0_7, x0_8, x0_9, x0_10, x0_11⟩ | go_keep) (fun hHeld => ?_)
            clear hK K
            try simp only [Act.put, List.getElem_toArray, List.getElem_cons_succ, List.getElem_cons_zero, List.setIfInBounds_toArray, List.set_cons_zero, List.set_cons_succ]
            refine wpAnyH_ready (rs := [1]) (by kernel_rfl) (by simp) ?_
            refine (AllReadyH.cons rfl (fun K hK => ?_) AllReadyH.nil)
            go_simp
            refine (specLow_below h HO.out _).mono ?_
            rintro e v_32 ⟨rfl, hb⟩
            have F0 : Hid (HAt v_32 w.heap.size h) := F0.out.below hb F0.out.lt
            have F1 : Hid (R3 v_32 (w.heap.size + 1)) := F1.out.below hb F1.out.lt
            have F2 : Hid (CW v_32 b g2) := F2.out.below hb F2.out.lt
            have FS : Hid (SrcT v_32 sb B a len cap (T + 26)) := FS.out.below hb
            have FK : Hid (Keeps sb w v_32) := FK.out.of_below hb
            clear hb
            obtain ⟨x0_0, x0_1, x0_2, x0_3, x0_4, x0_5, x0_6, x0_7, x0_8, x0_9, x0_10, x0_11⟩ := F0.out
            try dsimp only
            refine hK.out _ _ (by (try dsimp only); first | exact ⟨x0_0, x0_1, x0_2, x0_3, x0_4, x0_5, x0_6, x0_7, x0_8, x0_9, x0_10, x0_11⟩ | go_keep) (fun hHeld => ?_)
            clear hK K
            try simp only [Act.put, List.getElem_toArray, List.getElem_cons_succ, List.getElem_cons_zero, List.setIfInBounds_toArray, List.set_cons_zero, List.set_cons_succ]
            refine wpAnyH_ready (rs := [3]) (by kernel_rfl) (by simp) ?_
            refine (AllReadyH.cons rfl (fun K hK => ?_) AllReadyH.nil)
            go_simp
            refine (specHigh_below h HO.out _).mono ?_
            rintro e v_33 ⟨rfl, hb⟩
            have F0 : Hid (HAt v_33 w.heap.size h) := F0.out.below hb F0.out.lt
            have F1 : Hid (R3 v_33 (w.heap.size + 1)) := F1.out.below hb F1.out.lt
            have F2 : Hid (CW v_33 b g2) := F2.out.below hb F2.out.lt
            have FS : Hid (SrcT v_33 sb B a len cap (T + 26)) := FS.out.below hb
            have FK : Hid (Keeps sb w v_33) := FK.out.of_below hb
            clear hb
            obtain ⟨x0_0, x0_1, x0_2, x0_3, x0_4, x0_5, x0_6, x0_7, x0_8, x0_9, x0_10, x0_11⟩ := F0.out
            try dsimp only
            refine hK.out _ _ (by (try dsimp only); first | exact ⟨x0_0, x0_1, x0_2, x0_3, x0_4, x0_5, x0_6, x0_7, x0_8, x0_9, x0_10, x0_11⟩ | go_keep) (fun hHeld => ?_)
            clear hK K
            try simp only [Act.put, List.getElem_toArray, List.getElem_cons_succ, List.getElem_cons_zero, List.setIfInBounds_toArray, List.set_cons_zero, List.set_cons_succ]
            refine wpAnyH_ready (rs := [6]) (by kernel_rfl) (by simp) ?_
            refine (AllReadyH.cons rfl (fun K hK => ?_) AllReadyH.nil)
            go_simp
            refine (l1Min_any _ _ _).mono ?_
            rintro e w_ ⟨rfl, hw⟩
            obtain rfl := hw.symm
            clear hw
            try dsimp only
            refine hK.out _ _ (by (try dsimp only); first | exact ⟨x0_0, x0_1, x0_2, x0_3, x0_4, x0_5, x0_6, x0_7, x0_8, x0_9, x0_10, x0_11⟩ | go_keep) (fun hHeld => ?_)
            clear hK K
            try simp only [Act.put, List.getElem_toArray, List.getElem_cons_succ, List.getElem_cons_zero, List.setIfInBounds_toArray, List.set_cons_zero, List.set_cons_succ]
            refine wpAnyH_ready (rs := [7]) (by kernel_rfl) (by simp) ?_
            refine (AllReadyH.cons rfl (fun K hK => ?_) AllReadyH.nil)
            go_simp
            refine (l1Max_any _ _ _).mono ?_
            rintro e w_ ⟨rfl, hw⟩
            obtain rfl := hw.symm
            clear hw
            try dsimp only
            refine hK.out _ _ (by (try dsimp only); first | exact ⟨x0_0, x0_1, x0_2, x0_3, x0_4, x0_5, x0_6, x0_7, x0_8, x0_9, x0_10, x0_11⟩ | go_keep) (fun hHeld => ?_)
            clear hK K
            try simp only [Act.put, List.getElem_toArray, List.getElem_cons_succ, List.getElem_cons_zero, List.setIfInBounds_toArray, List.set_cons_zero, List.set_cons_succ]
            refine tkz 8 rfl ?_
            refine wpAnyH_ready (rs := [9]) (by kernel_rfl) (by simp) ?_
            refine (AllReadyH.cons rfl (fun K hK => ?_) AllReadyH.nil)
            have c0_ := F2.out.c0
            have q0_ := F2.out.f0
            go_simp
            refine hK.out _ _ (by (try dsimp only); first | ((repeat' apply And.intro) <;> ((repeat rw [cellS (by omega)]); assumption)) | go_keep) (fun hHeld => ?_)
            clear hK K
            try simp only [Act.put, List.getElem_toArray, List.getElem_cons_succ, List.getElem_cons_zero, List.setIfInBounds_toArray, List.set_cons_zero, List.set_cons_succ]
            refine wpAnyH_done (by kernel_rfl) ?_ _
            go_wp2_with fail
            go_meet
            case rel => exact ⟨rfl, _, F2.out.set_pos _, F0.out.other (by omega), F1.out.other (by omega), FS.out.other b _ _ (by omega) (by omega), FK.out.own (by omega) _ _⟩
        case rest =>
          obtain ⟨rfl, g3, hc, hh, hr, hs, hk⟩ := hcut
          have F2 : Hid (CW wc b g3) := hc
          have F0 : Hid (HAt wc w.heap.size h) := hh
          have F1 : Hid (R3 wc (w.heap.size + 1)) := hr
          have FS : Hid (SrcT wc sb B a len cap (T + 26)) := hs
          have FK : Hid (Keeps sb w wc) := hk
          clear hc hh hr hs hk
          go_wp2_with fail
          refine (l1Next_t sb B a len cap _ _ _ FS.out (by omega) (by omega) (by omega)).mono ?_
          rintro e w3 ⟨v, rfl, hv, hs, hk⟩
          have F2 : Hid (CW w3 b g3) := F2.out.keeps hk (by omega)
          have F0 : Hid (HAt w3 w.heap.size h) := F0.out.keeps hk (by omega)
          have F1 : Hid (R3 w3 (w.heap.size + 1)) := F1.out.keeps hk (by omega)
          have FS : Hid (SrcT w3 sb B a len cap (T + 26 + 1)) := hs
          have FK : Hid (Keeps sb w w3) := FK.out.trans hk
          clear hs hk
          by_cases h3 : 3 ≤ v
          · have b0 : ((v : Int) == 0) = false := by simp; omega
            have b1 : ((v : Int) == 1) = false := by simp; omega
            have b2 : ((v : Int) == 2) = false := by simp; omega
            obtain ⟨c0_, c1_, c2_, q0_, q1_, q2_⟩ := F2.out
            obtain ⟨r0_, r1_, r2_, s0_, s1_, s2_⟩ := F1.out
            have hne : b ≠ w.heap.size + 1 := by omega
            go_wp2_with fail
            clear c0_ c1_ c2_ q0_ q1_ q2_ r0_ r1_ r2_ s0_ s1_ s2_
            have G1 := F1.out
            have GS := FS.out
            have GK := FK.out
            change bodyPost _ _ _ _ _ (put3 w3 (w.heap.size + 1) (⟨g3.pos, g3.vel, g3.door⟩ : Cs))
            obtain ⟨Wf, hWf⟩ : ∃ Wf, put3 w3 (w.heap.size + 1) (⟨g3.pos, g3.vel, g3.door⟩ : Cs) = Wf := ⟨_, rfl⟩
            have HRf : CW Wf (w.heap.size + 1) (⟨g3.pos, g3.vel, g3.door⟩ : Cs) := hWf ▸ G1.cw.put _
            have HSf : SrcT Wf sb B a len cap (T + 26 + 1) := hWf ▸ GS.put3 _ _ (by omega) (by omega)
            have HKf : Keeps sb w Wf := hWf ▸ GK.put3 (by omega) _
            rw [hWf]
            clear hWf
            obtain ⟨d0, d1, d2, e0, e1, e2⟩ := HRf
            try dsimp only at d0 d1 d2
            exact bodyPost_ret (v := .agg #[.int .i64 g3.pos, .int .i64 g3.vel, .int .i64 g3.door]) (by simp [results, Try.results38, go_sem, d0, d1, d2]) rfl ⟨(⟨g3.pos, g3.vel, g3.door⟩ : Cs), rfl, HSf.more (by omega), HKf⟩
          · have hvs : v = 0 ∨ v = 1 ∨ v = 2 := by omega
            clear hv h3
            rcases hvs with rfl | rfl | rfl
            · obtain ⟨wd, hwd⟩ : ∃ wd, wd = w3 := ⟨_, rfl⟩
              subst hwd
              go_wp2_with fail
              have F0 : Hid (HAt wd.drew w.heap.size h) := F0.out.below (Below.refl _ _).drew F0.out.lt
              have F1 : Hid (R3 wd.drew (w.heap.size + 1)) := F1.out.below (Below.refl _ _).drew F1.out.lt
              have F2 : Hid (CW wd.drew b g3) := F2.out.below (Below.refl _ _).drew F2.out.lt
              have FS : Hid (SrcT wd.drew sb B a len cap (T + 26 + 1)) := FS.out.drew
              have FK : Hid (Keeps sb w wd.drew) := FK.out.of_below (Below.refl _ _).drew
              obtain ⟨x0_0, x0_1, x0_2, x0_3, x0_4, x0_5, x0_6, x0_7, x0_8, x0_9, x0_10, x0_11⟩ := F0.out
              refine wp_region_held_drew (S := (fun w'' => w''.cell? ⟨w.heap.size, 0, none⟩ = some (.int .i64 h.fl) ∧ w''.cell? ⟨w.heap.size, 1, none⟩ = some (.int .i64 h.gp) ∧ w''.cell? ⟨w.heap.size, 2, none⟩ = some (.int .i64 h.ln) ∧ w''.cell? ⟨w.heap.size, 3, none⟩ = some (.int .i64 h.rf) ∧ w''.cell? ⟨w.heap.size, 4, none⟩ = some (.int .i64 h.sp) ∧ w''.cell? ⟨w.heap.size, 5, none⟩ = some (.int .i64 h.pu) ∧ w''.cell? ⟨w.heap.size, 6, none⟩ = some (.int .i64 h.br) ∧ w''.cell? ⟨w.heap.size, 7, none⟩ = some (.int .i64 h.dr) ∧ w''.cell? ⟨w.heap.size, 8, none⟩ = some (.int .i64 h.lv) ∧ w''.cell? ⟨w.heap.size, 9, none⟩ = some (.int .i64 h.dO) ∧ w''.cell? ⟨w.heap.size, 10, none⟩ = some (.int .i64 h.ld) ∧ w''.cell? ⟨w.heap.size, 11, none⟩ = some (.int .i64 h.qu))) (by kernel_rfl) (by (try dsimp only); first | exact ⟨x0_0, x0_1, x0_2, x0_3, x0_4, x0_5, x0_6, x0_7, x0_8, x0_9, x0_10, x0_11⟩ | go_keep) (fun hHeld => ?_)
              obtain ⟨v_34, hw1⟩ : ∃ v_34, v_34 = wd.drew := ⟨_, rfl⟩
              have F0 : Hid (HAt v_34 w.heap.size h) := by rw [hw1]; exact F0.out
              have F1 : Hid (R3 v_34 (w.heap.size + 1)) := by rw [hw1]; exact F1.out
              have F2 : Hid (CW v_34 b g3) := by rw [hw1]; exact F2.out
              have FS : Hid (SrcT v_34 sb B a len cap (T + 26 + 1)) := by rw [hw1]; exact FS.out
              have FK : Hid (Keeps sb w v_34) := by rw [hw1]; exact FK.out
              rw [← hw1] at hHeld ⊢
              clear hw1
              obtain ⟨x0_0, x0_1, x0_2, x0_3, x0_4, x0_5, x0_6, x0_7, x0_8, x0_9, x0_10, x0_11⟩ := F0.out
              refine tkz 0 rfl ?_
              refine tkz 1 rfl ?_
              refine tkz 4 rfl ?_
              refine tkz 7 rfl ?_
              refine tkz 9 rfl ?_
              refine wpAnyH_ready (rs := [2]) (by kernel_rfl) (by simp) ?_
              refine (AllReadyH.cons rfl (fun K hK => ?_) AllReadyH.nil)
              go_simp
              refine (specLow_below h HO.out _).mono ?_
              rintro e v_35 ⟨rfl, hb⟩
              have F0 : Hid (HAt v_35 w.heap.size h) := F0.out.below hb F0.out.lt
              have F1 : Hid (R3 v_35 (w.heap.size + 1)) := F1.out.below hb F1.out.lt
              have F2 : Hid (CW v_35 b g3) := F2.out.below hb F2.out.lt
              have FS : Hid (SrcT v_35 sb B a len cap (T + 26 + 1)) := FS.out.below hb
              have FK : Hid (Keeps sb w v_35) := FK.out.of_below hb
              clear hb
              obtain ⟨x0_0, x0_1, x0_2, x0_3, x0_4, x0_5, x0_6, x0_7, x0_8, x0_9, x0_10, x0_11⟩ := F0.out
              try dsimp only
              refine hK.out _ _ (by (try dsimp only); first | exact ⟨x0_0, x0_1, x0_2, x0_3, x0_4, x0_5, x0_6, x0_7, x0_8, x0_9, x0_10, x0_11⟩ | go_keep) (fun hHeld => ?_)
              clear hK K
              try simp only [Act.put, List.getElem_toArray, List.getElem_cons_succ, List.getElem_cons_zero, List.setIfInBounds_toArray, List.set_cons_zero, List.set_cons_succ]
              refine tkz 3 rfl ?_
              refine wpAnyH_ready (rs := [5]) (by kernel_rfl) (by simp) ?_
              refine (AllReadyH.cons rfl (fun K hK => ?_) AllReadyH.nil)
              go_simp
              refine (specHigh_below h HO.out _).mono ?_
              rintro e v_36 ⟨rfl, hb⟩
              have F0 : Hid (HAt v_36 w.heap.size h) := F0.out.below hb F0.out.lt
              have F1 : Hid (R3 v_36 (w.heap.size + 1)) := F1.out.below hb F1.out.lt
              have F2 : Hid (CW v_36 b g3) := F2.out.below hb F2.out.lt
              have FS : Hid (SrcT v_36 sb B a len cap (T + 26 + 1)) := FS.out.below hb
              have FK : Hid (Keeps sb w v_36) := FK.out.of_below hb
              clear hb
              obtain ⟨x0_0, x0_1, x0_2, x0_3, x0_4, x0_5, x0_6, x0_7, x0_8, x0_9, x0_10, x0_11⟩ := F0.out
              try dsimp only
              refine hK.out _ _ (by (try dsimp only); first | exact ⟨x0_0, x0_1, x0_2, x0_3, x0_4, x0_5, x0_6, x0_7, x0_8, x0_9, x0_10, x0_11⟩ | go_keep) (fun hHeld => ?_)
              clear hK K
              try simp only [Act.put, List.getElem_toArray, List.getElem_cons_succ, List.getElem_cons_zero, List.setIfInBounds_toArray, List.set_cons_zero, List.set_cons_succ]
              refine tkz 6 rfl ?_
              refine wpAnyH_ready (rs := [8]) (by kernel_rfl) (by simp) ?_
              refine (AllReadyH.cons rfl (fun K hK => ?_) AllReadyH.nil)
              go_simp
              refine (specLow_below h HO.out _).mono ?_
              rintro e v_37 ⟨rfl, hb⟩
              have F0 : Hid (HAt v_37 w.heap.size h) := F0.out.below hb F0.out.lt
              have F1 : Hid (R3 v_37 (w.heap.size + 1)) := F1.out.below hb F1.out.lt
              have F2 : Hid (CW v_37 b g3) := F2.out.below hb F2.out.lt
              have FS : Hid (SrcT v_37 sb B a len cap (T + 26 + 1)) := FS.out.below hb
              have FK : Hid (Keeps sb w v_37) := FK.out.of_below hb
              clear hb
              obtain ⟨x0_0, x0_1, x0_2, x0_3, x0_4, x0_5, x0_6, x0_7, x0_8, x0_9, x0_10, x0_11⟩ := F0.out
              try dsimp only
              refine hK.out _ _ (by (try dsimp only); first | exact ⟨x0_0, x0_1, x0_2, x0_3, x0_4, x0_5, x0_6, x0_7, x0_8, x0_9, x0_10, x0_11⟩ | go_keep) (fun hHeld => ?_)
              clear hK K
              try simp only [Act.put, List.getElem_toArray, List.getElem_cons_succ, List.getElem_cons_zero, List.setIfInBounds_toArray, List.set_cons_zero, List.set_cons_succ]
              refine wpAnyH_ready (rs := [10]) (by kernel_rfl) (by simp) ?_
              refine (AllReadyH.cons rfl (fun K hK => ?_) AllReadyH.nil)
              go_simp
              refine (specHigh_below h HO.out _).mono ?_
              rintro e v_38 ⟨rfl, hb⟩
              have F0 : Hid (HAt v_38 w.heap.size h) := F0.out.below hb F0.out.lt
              have F1 : Hid (R3 v_38 (w.heap.size + 1)) := F1.out.below hb F1.out.lt
              have F2 : Hid (CW v_38 b g3) := F2.out.below hb F2.out.lt
              have FS : Hid (SrcT v_38 sb B a len cap (T + 26 + 1)) := FS.out.below hb
              have FK : Hid (Keeps sb w v_38) := FK.out.of_below hb
              clear hb
              obtain ⟨x0_0, x0_1, x0_2, x0_3, x0_4, x0_5, x0_6, x0_7, x0_8, x0_9, x0_10, x0_11⟩ := F0.out
              try dsimp only
              refine hK.out _ _ (by (try dsimp only); first | exact ⟨x0_0, x0_1, x0_2, x0_3, x0_4, x0_5, x0_6, x0_7, x0_8, x0_9, x0_10, x0_11⟩ | go_keep) (fun hHeld => ?_)
              clear hK K
              try simp only [Act.put, List.getElem_toArray, List.getElem_cons_succ, List.getElem_cons_zero, List.setIfInBounds_toArray, List.set_cons_zero, List.set_cons_succ]
              refine wpAnyH_ready (rs := [11]) (by kernel_rfl) (by simp) ?_
              refine (AllReadyH.cons rfl (fun K hK => ?_) AllReadyH.nil)
              go_simp
              obtain ⟨lb0, hbb⟩ : ∃ lb0, lb0 = v_38.heap.size := ⟨_, rfl⟩
              obtain ⟨v_39, hw2⟩ : ∃ v_39, v_39 = v_38.alloc (.cells #[.int .i64 (h.low - 1), .int .i64 (h.high + 1), .int .i64 h.low, .int .i64 h.high, .int .i64 4611686018427387904] 2) := ⟨_, rfl⟩
              have nlb0_0 := F0.out.lt
              rw [← hbb] at nlb0_0
              have nlb0_1 := F1.out.lt
              rw [← hbb] at nlb0_1
              have nlb0_2 := F2.out.lt
              rw [← hbb] at nlb0_2
              have nlb0_s := FS.out.lt
              rw [← hbb] at nlb0_s
              have FL0 : Hid (LstAt v_39 lb0 [(h.low - 1), (h.high + 1), h.low, h.high, 4611686018427387904]) := by rw [hw2]; exact LstAt.new v_38 [(h.low - 1), (h.high + 1), h.low, h.high, 4611686018427387904] 2 lb0 hbb (by simp)
              have F0 : Hid (HAt v_39 w.heap.size h) := by rw [hw2]; exact F0.out.alloc _
              have F1 : Hid (R3 v_39 (w.heap.size + 1)) := by rw [hw2]; exact F1.out.alloc _
              have F2 : Hid (CW v_39 b g3) := by rw [hw2]; exact F2.out.alloc _
              have FS : Hid (SrcT v_39 sb B a len cap (T + 26 + 1)) := by rw [hw2]; exact FS.out.alloc _
              have FK : Hid (Keeps sb w v_39) := by rw [hw2]; exact FK.out.alloc _
              rw [← hw2, ← hbb]
              clear hbb hw2
              obtain ⟨x0_0, x0_1, x0_2, x0_3, x0_4, x0_5, x0_6, x0_7, x0_8, x0_9, x0_10, x0_11⟩ := F0.out
              refine hK.out _ _ (by (try dsimp only); first | exact ⟨x0_0, x0_1, x0_2, x0_3, x0_4, x0_5, x0_6, x0_7, x0_8, x0_9, x0_10, x0_11⟩ | go_keep) (fun hHeld => ?_)
              clear hK K
              try simp only [Act.put, List.getElem_toArray, List.getElem_cons_succ, List.getElem_cons_zero, List.setIfInBounds_toArray, List.set_cons_zero, List.set_cons_succ]
              refine wpAnyH_ready (rs := [12]) (by kernel_rfl) (by simp) ?_
              refine (AllReadyH.cons rfl (fun K hK => ?_) AllReadyH.nil)
              go_simp
              refine (l1Pick_t sb B lb0 [h.low - 1, h.high + 1, h.low, h.high, 4611686018427387904] (fun _ => True) (fun _ _ => trivial) a len cap _ _ FS.out (by omega) FL0.out (by simp) (by omega)).mono ?_
              rintro e v_40 ⟨x, rfl, -, hs, hk⟩
              have F0 : Hid (HAt v_40 w.heap.size h) := F0.out.keeps hk (by omega)
              have F1 : Hid (R3 v_40 (w.heap.size + 1)) := F1.out.keeps hk (by omega)
              have F2 : Hid (CW v_40 b g3) := F2.out.keeps hk (by omega)
              have FS : Hid (SrcT v_40 sb B a len cap ((T + 26 + 1) + 1)) := hs
              have FK : Hid (Keeps sb w v_40) := FK.out.trans hk
              have FL0 : Hid (LstAt v_40 lb0 [(h.low - 1), (h.high + 1), h.low, h.high, 4611686018427387904]) := FL0.out.keeps hk (by omega)
              clear hs hk
              obtain ⟨x0_0, x0_1, x0_2, x0_3, x0_4, x0_5, x0_6, x0_7, x0_8, x0_9, x0_10, x0_11⟩ := F0.out
              try dsimp only
              refine hK.out _ _ (by (try dsimp only); first | exact ⟨x0_0, x0_1, x0_2, x0_3, x0_4, x0_5, x0_6, x0_7, x0_8, x0_9, x0_10, x0_11⟩ | go_keep) (fun hHeld => ?_)
              clear hK K
              try simp only [Act.put, List.getElem_toArray, List.getElem_cons_succ, List.getElem_cons_zero, List.setIfInBounds_toArray, List.set_cons_zero, List.set_cons_succ]
              refine tkz 13 rfl ?_
              refine wpAnyH_ready (rs := [14]) (by kernel_rfl) (by simp) ?_
              refine (AllReadyH.cons rfl (fun K hK => ?_) AllReadyH.nil)
              have c0_ := F2.out.c0
              have q0_ := F2.out.f0
              go_simp
              refine hK.out _ _ (by (try dsimp only); first | ((repeat' apply And.intro) <;> ((repeat rw [cellS (by omega)]); assumption)) | go_keep) (fun hHeld => ?_)
              clear hK K
              try simp only [Act.put, List.getElem_toArray, List.getElem_cons_succ, List.getElem_cons_zero, List.setIfInBounds_toArray, List.set_cons_zero, List.set_cons_succ]
              refine wpAnyH_done (by kernel_rfl) ?_ _
              obtain ⟨c0_, c1_, c2_, q0_, q1_, q2_⟩ := F2.out
              obtain ⟨r0_, r1_, r2_, s0_, s1_, s2_⟩ := F1.out
              have hne : b ≠ w.heap.size + 1 := by omega
              go_wp2_with fail
              clear c0_ c1_ c2_ q0_ q1_ q2_ r0_ r1_ r2_ s0_ s1_ s2_
              obtain ⟨Wz, hWz⟩ : ∃ Wz, Wz = v_40.setCell ⟨b, 0, none⟩ (.int .i64 x) := ⟨_, rfl⟩
              rw [← hWz]
              have G1 : R3 Wz (w.heap.size + 1) := by rw [hWz]; exact F1.out.other (by omega)
              have GS : SrcT Wz sb B a len cap (T + 26 + 1 + 1) := by rw [hWz]; exact FS.out.other b _ _ (by omega) (by omega)
              have GK : Keeps sb w Wz := by rw [hWz]; exact FK.out.own (by omega) _ _
              clear hWz
              change bodyPost _ _ _ _ _ (put3 Wz (w.heap.size + 1) (⟨x, g3.vel, g3.door⟩ : Cs))
              obtain ⟨Wf, hWf⟩ : ∃ Wf, put3 Wz (w.heap.size + 1) (⟨x, g3.vel, g3.door⟩ : Cs) = Wf := ⟨_, rfl⟩
              have HRf : CW Wf (w.heap.size + 1) (⟨x, g3.vel, g3.door⟩ : Cs) := hWf ▸ G1.cw.put _
              have HSf : SrcT Wf sb B a len cap (T + 26 + 1 + 1) := hWf ▸ GS.put3 _ _ (by omega) (by omega)
              have HKf : Keeps sb w Wf := hWf ▸ GK.put3 (by omega) _
              rw [hWf]
              clear hWf
              obtain ⟨d0, d1, d2, e0, e1, e2⟩ := HRf
              try dsimp only at d0 d1 d2
              exact bodyPost_ret (v := .agg #[.int .i64 x, .int .i64 g3.vel, .int .i64 g3.door]) (by simp [results, Try.results38, go_sem, d0, d1, d2]) rfl ⟨(⟨x, g3.vel, g3.door⟩ : Cs), rfl, HSf.more (by omega), HKf⟩
            · obtain ⟨x0_0, x0_1, x0_2, x0_3, x0_4, x0_5, x0_6, x0_7, x0_8, x0_9, x0_10, x0_11⟩ := F0.out
              go_wp2_with fail
              refine (l1Pick_at_t sb B 2 [_, _, _, _] a len cap _ _ _ (by simp) FS.out (by omega) (by simp) (by simp)).mono ?_
              rintro e w4 ⟨x, rfl, hs, hk⟩
              have F2 : Hid (CW w4 b g3) := F2.out.keeps hk (by omega)
              have F0 : Hid (HAt w4 w.heap.size h) := F0.out.keeps hk (by omega)
              have F1 : Hid (R3 w4 (w.heap.size + 1)) := F1.out.keeps hk (by omega)
              have FS : Hid (SrcT w4 sb B a len cap (T + 26 + 1 + 1)) := hs
              have FK : Hid (Keeps sb w w4) := FK.out.trans hk
              clear hs hk
              clear x0_0 x0_1 x0_2 x0_3 x0_4 x0_5 x0_6 x0_7 x0_8 x0_9 x0_10 x0_11
              obtain ⟨c0_, c1_, c2_, q0_, q1_, q2_⟩ := F2.out
              obtain ⟨r0_, r1_, r2_, s0_, s1_, s2_⟩ := F1.out
              have hne : b ≠ w.heap.size + 1 := by omega
              go_wp2_with fail
              clear c0_ c1_ c2_ q0_ q1_ q2_ r0_ r1_ r2_ s0_ s1_ s2_
              obtain ⟨Wz, hWz⟩ : ∃ Wz, Wz = w4.setCell ⟨b, 1, none⟩ (.int .i64 x) := ⟨_, rfl⟩
              rw [← hWz]
              have G1 : R3 Wz (w.heap.size + 1) := by rw [hWz]; exact F1.out.other (by omega)
              have GS : SrcT Wz sb B a len cap (T + 26 + 1 + 1) := by rw [hWz]; exact FS.out.other b _ _ (by omega) (by omega)
              have GK : Keeps sb w Wz := by rw [hWz]; exact FK.out.own (by omega) _ _
              clear hWz
              change bodyPost _ _ _ _ _ (put3 Wz (w.heap.size + 1) (⟨g3.pos, x, g3.door⟩ : Cs))
              obtain ⟨Wf, hWf⟩ : ∃ Wf, put3 Wz (w.heap.size + 1) (⟨g3.pos, x, g3.door⟩ : Cs) = Wf := ⟨_, rfl⟩
              have HRf : CW Wf (w.heap.size + 1) (⟨g3.pos, x, g3.door⟩ : Cs) := hWf ▸ G1.cw.put _
              have HSf : SrcT Wf sb B a len cap (T + 26 + 1 + 1) := hWf ▸ GS.put3 _ _ (by omega) (by omega)
              have HKf : Keeps sb w Wf := hWf ▸ GK.put3 (by omega) _
              rw [hWf]
              clear hWf
              obtain ⟨d0, d1, d2, e0, e1, e2⟩ := HRf
              try dsimp only at d0 d1 d2
              exact bodyPost_ret (v := .agg #[.int .i64 g3.pos, .int .i64 x, .int .i64 g3.door]) (by simp [results, Try.results38, go_sem, d0, d1, d2]) rfl ⟨(⟨g3.pos, x, g3.door⟩ : Cs), rfl, HSf.more (by omega), HKf⟩
            · obtain ⟨x0_0, x0_1, x0_2, x0_3, x0_4, x0_5, x0_6, x0_7, x0_8, x0_9, x0_10, x0_11⟩ := F0.out
              go_wp2_with fail
              refine (l1Pick_at_t sb B 2 [_, _, _] a len cap _ _ _ (by simp) FS.out (by omega) (by simp) (by simp)).mono ?_
              rintro e w4 ⟨x, rfl, hs, hk⟩
              have F2 : Hid (CW w4 b g3) := F2.out.keeps hk (by omega)
              have F0 : Hid (HAt w4 w.heap.size h) := F0.out.keeps hk (by omega)
              have F1 : Hid (R3 w4 (w.heap.size + 1)) := F1.out.keeps hk (by omega)
              have FS : Hid (SrcT w4 sb B a len cap (T + 26 + 1 + 1)) := hs
              have FK : Hid (Keeps sb w w4) := FK.out.trans hk
              clear hs hk
              clear x0_0 x0_1 x0_2 x0_3 x0_4 x0_5 x0_6 x0_7 x0_8 x0_9 x0_10 x0_11
              obtain ⟨c0_, c1_, c2_, q0_, q1_, q2_⟩ := F2.out
              obtain ⟨r0_, r1_, r2_, s0_, s1_, s2_⟩ := F1.out
              have hne : b ≠ w.heap.size + 1 := by omega
              go_wp2_with fail
              clear c0_ c1_ c2_ q0_ q1_ q2_ r0_ r1_ r2_ s0_ s1_ s2_
              obtain ⟨Wz, hWz⟩ : ∃ Wz, Wz = w4.setCell ⟨b, 2, none⟩ (.int .i64 x) := ⟨_, rfl⟩
              rw [← hWz]
              have G1 : R3 Wz (w.heap.size + 1) := by rw [hWz]; exact F1.out.other (by omega)
              have GS : SrcT Wz sb B a len cap (T + 26 + 1 + 1) := by rw [hWz]; exact FS.out.other b _ _ (by omega) (by omega)
              have GK : Keeps sb w Wz := by rw [hWz]; exact FK.out.own (by omega) _ _
              clear hWz
              change bodyPost _ _ _ _ _ (put3 Wz (w.heap.size + 1) (⟨g3.pos, g3.vel, x⟩ : Cs))
              obtain ⟨Wf, hWf⟩ : ∃ Wf, put3 Wz (w.heap.size + 1) (⟨g3.pos, g3.vel, x⟩ : Cs) = Wf := ⟨_, rfl⟩
              have HRf : CW Wf (w.heap.size + 1) (⟨g3.pos, g3.vel, x⟩ : Cs) := hWf ▸ G1.cw.put _
              have HSf : SrcT Wf sb B a len cap (T + 26 + 1 + 1) := hWf ▸ GS.put3 _ _ (by omega) (by omega)
              have HKf : Keeps sb w Wf := hWf ▸ GK.put3 (by omega) _
              rw [hWf]
              clear hWf
              obtain ⟨d0, d1, d2, e0, e1, e2⟩ := HRf
              try dsimp only at d0 d1 d2
              exact bodyPost_ret (v := .agg #[.int .i64 g3.pos, .int .i64 g3.vel, .int .i64 x]) (by simp [results, Try.results38, go_sem, d0, d1, d2]) rfl ⟨(⟨g3.pos, g3.vel, x⟩ : Cs), rfl, HSf.more (by omega), HKf⟩
end Go.Proofs.Ytgdhbkgpjeedhaa
