/-
  BookRun answers as the model at every argument, with no condition: its code, its book and its car; nothing that came in is changed, and the answer is new memory.
-/
import Derived.Test.YtngdfckknkgdgaaRows
import Derived.WalkKit
import Derived.ProofKit
import Derived.OpenShut
import Derived.ChangeOld
import Derived.Below
import Derived.Test.YtngdfckknkgdgaaEnJ
import Derived.Test.YtngdfckknkgdgaaEnR
import Derived.Test.YtngdfckknkgdgaaEnK
import Derived.Test.YtngdfckknkgdgaaCarT
import Derived.Test.YtngdfckknkgdgaaFnd
namespace Go.Proofs.Ytngdfckknkgdgaa.fnExactBookRun
open Go.ChangeShapes Go.WideShapes Go.ChangeAt Go.RowKit
set_option linter.unusedVariables false
set_option linter.unusedSimpArgs false

theorem own : ownKnob Try.prog.godebug = none := by kernel_rfl
theorem laidOut : laidOutB Try.prog = true := by kernel_rfl

set_option maxRecDepth 20000 in
set_option maxHeartbeats 32000000 in
theorem walk (a0 : Pl.Hs) (a1 : Pl.Cs) (a2 : Int) (a3 : Int) (a4 : Int) (w0 : ∀ x ∈ [a0.fl, a0.gp, a0.ln, a0.rf, a0.sp, a0.pu, a0.br, a0.dr, a0.lv, a0.dO, a0.ld, a0.qu], (Lit.int .i64 x).wf = true) (w1 : ∀ x ∈ [a1.pos, a1.vel, a1.door], (Lit.int .i64 x).wf = true) (w2 : (Lit.int .i64 a2).wf = true) (w3 : (Lit.int .i64 a3).wf = true) (w4 : (Lit.int .i64 a4).wf = true) (w : World) :
    Calls Try.prog 8 #[.agg #[.int .i64 a0.fl, .int .i64 a0.gp, .int .i64 a0.ln, .int .i64 a0.rf, .int .i64 a0.sp, .int .i64 a0.pu, .int .i64 a0.br, .int .i64 a0.dr, .int .i64 a0.lv, .int .i64 a0.dO, .int .i64 a0.ld, .int .i64 a0.qu], .agg #[.int .i64 a1.pos, .int .i64 a1.vel, .int .i64 a1.door], .int .i64 a2, .int .i64 a3, .int .i64 a4] w fun e w' => e = .returned (.bool true) ∧ Below w.heap.size w w' := by
  obtain ⟨W0, hW0⟩ : ∃ W0, W0 = ((w.alloc (.cells #[.int .i64 a0.fl, .int .i64 a0.gp, .int .i64 a0.ln, .int .i64 a0.rf, .int .i64 a0.sp, .int .i64 a0.pu, .int .i64 a0.br, .int .i64 a0.dr, .int .i64 a0.lv, .int .i64 a0.dO, .int .i64 a0.ld, .int .i64 a0.qu] 23)).alloc (.cells #[.int .i64 a1.pos, .int .i64 a1.vel, .int .i64 a1.door] 32)) := ⟨_, rfl⟩
  have F0 : Hid (HAt W0 w.heap.size a0) := by rw [hW0]; exact (HAt.at_ w a0 _ _ (by simp)).alloc _
  have F1 : Hid (CW W0 (w.heap.size + 1) a1) := by rw [hW0]; exact CW.at_ (w.alloc (.cells #[.int .i64 a0.fl, .int .i64 a0.gp, .int .i64 a0.ln, .int .i64 a0.rf, .int .i64 a0.sp, .int .i64 a0.pu, .int .i64 a0.br, .int .i64 a0.dr, .int .i64 a0.lv, .int .i64 a0.dO, .int .i64 a0.ld, .int .i64 a0.qu] 23)) a1 _ _ (by simp)
  have FB : Hid (Below w.heap.size w W0) := by rw [hW0]; exact (((Below.refl _ _).alloc (Nat.le_refl _) _).alloc (by simp <;> omega) _)
  have HW0 : Hid (W0 = ((w.alloc (.cells #[.int .i64 a0.fl, .int .i64 a0.gp, .int .i64 a0.ln, .int .i64 a0.rf, .int .i64 a0.sp, .int .i64 a0.pu, .int .i64 a0.br, .int .i64 a0.dr, .int .i64 a0.lv, .int .i64 a0.dO, .int .i64 a0.ld, .int .i64 a0.qu] 23)).alloc (.cells #[.int .i64 a1.pos, .int .i64 a1.vel, .int .i64 a1.door] 32))) := hW0
  clear hW0
  go_enter Try.func8, Try.ntmps8
  go_wp2_with fail
  rw [← HW0.out]
  clear HW0
  go_cut [11] (fun p wx => ∃ b, p = .pointer (some ⟨b, 0, none⟩) ∧ VBk wx b (Hs.bkV a0 a1 a2 a3 a4)  ∧ HAt wx w.heap.size a0 ∧ CW wx (w.heap.size + 1) a1 ∧ Below w.heap.size w wx)
  case first =>
    have F0 : Hid (HAt W0.drew w.heap.size a0) := F0.out.below (Below.refl _ _).drew F0.out.lt
    have F1 : Hid (CW W0.drew (w.heap.size + 1) a1) := F1.out.below (Below.refl _ _).drew F1.out.lt
    have FB : Hid (Below w.heap.size w W0.drew) := FB.out.drew
    obtain ⟨x0_0, x0_1, x0_2, x0_3, x0_4, x0_5, x0_6, x0_7, x0_8, x0_9, x0_10, x0_11⟩ := F0.out
    obtain ⟨x1_0, x1_1, x1_2, y1_0, y1_1, y1_2⟩ := F1.out
    refine wp_region_held_drew (S := (fun w'' => w''.cell? ⟨w.heap.size, 0, none⟩ = some (.int .i64 a0.fl) ∧ w''.cell? ⟨w.heap.size, 1, none⟩ = some (.int .i64 a0.gp) ∧ w''.cell? ⟨w.heap.size, 2, none⟩ = some (.int .i64 a0.ln) ∧ w''.cell? ⟨w.heap.size, 3, none⟩ = some (.int .i64 a0.rf) ∧ w''.cell? ⟨w.heap.size, 4, none⟩ = some (.int .i64 a0.sp) ∧ w''.cell? ⟨w.heap.size, 5, none⟩ = some (.int .i64 a0.pu) ∧ w''.cell? ⟨w.heap.size, 6, none⟩ = some (.int .i64 a0.br) ∧ w''.cell? ⟨w.heap.size, 7, none⟩ = some (.int .i64 a0.dr) ∧ w''.cell? ⟨w.heap.size, 8, none⟩ = some (.int .i64 a0.lv) ∧ w''.cell? ⟨w.heap.size, 9, none⟩ = some (.int .i64 a0.dO) ∧ w''.cell? ⟨w.heap.size, 10, none⟩ = some (.int .i64 a0.ld) ∧ w''.cell? ⟨w.heap.size, 11, none⟩ = some (.int .i64 a0.qu) ∧ w''.cell? ⟨(w.heap.size + 1), 0, none⟩ = some (.int .i64 a1.pos) ∧ w''.cell? ⟨(w.heap.size + 1), 1, none⟩ = some (.int .i64 a1.vel) ∧ w''.cell? ⟨(w.heap.size + 1), 2, none⟩ = some (.int .i64 a1.door))) (by kernel_rfl) (by (try dsimp only); first | exact ⟨x0_0, x0_1, x0_2, x0_3, x0_4, x0_5, x0_6, x0_7, x0_8, x0_9, x0_10, x0_11, x1_0, x1_1, x1_2⟩ | go_keep) (fun hHeld => ?_)
    obtain ⟨v1, hw1⟩ : ∃ v1, v1 = W0.drew := ⟨_, rfl⟩
    have F0 : Hid (HAt v1 w.heap.size a0) := by rw [hw1]; exact F0.out
    have F1 : Hid (CW v1 (w.heap.size + 1) a1) := by rw [hw1]; exact F1.out
    have FB : Hid (Below w.heap.size w v1) := by rw [hw1]; exact FB.out
    rw [← hw1] at hHeld ⊢
    clear hw1
    obtain ⟨x0_0, x0_1, x0_2, x0_3, x0_4, x0_5, x0_6, x0_7, x0_8, x0_9, x0_10, x0_11⟩ := F0.out
    obtain ⟨x1_0, x1_1, x1_2, y1_0, y1_1, y1_2⟩ := F1.out
    refine wpAnyH_take (i := 0) (v := _) rfl (by kernel_rfl) (by kernel_rfl) (by kernel_rfl) (fun _ _ _ h => h) (Or.inl ⟨by kernel_rfl, by (intro wx hSw; (try dsimp only at hSw); go_simp <;> with_reducible rfl)⟩) (by assumption) ?_
    try simp only [Act.put, List.getElem_toArray, List.getElem_cons_succ, List.getElem_cons_zero, List.setIfInBounds_toArray, List.set_cons_zero, List.set_cons_succ]
    refine wpAnyH_take (i := 2) (v := _) rfl (by kernel_rfl) (by kernel_rfl) (by kernel_rfl) (fun _ _ _ h => h) (Or.inl ⟨by kernel_rfl, by (intro wx hSw; (try dsimp only at hSw); go_simp <;> with_reducible rfl)⟩) (by assumption) ?_
    try simp only [Act.put, List.getElem_toArray, List.getElem_cons_succ, List.getElem_cons_zero, List.setIfInBounds_toArray, List.set_cons_zero, List.set_cons_succ]
    refine wpAnyH_take (i := 4) (v := _) rfl (by kernel_rfl) (by kernel_rfl) (by kernel_rfl) (fun _ _ _ h => h) (Or.inl ⟨by kernel_rfl, by (intro wx hSw; (try dsimp only at hSw); go_simp <;> with_reducible rfl)⟩) (by assumption) ?_
    try simp only [Act.put, List.getElem_toArray, List.getElem_cons_succ, List.getElem_cons_zero, List.setIfInBounds_toArray, List.set_cons_zero, List.set_cons_succ]
    refine wpAnyH_take (i := 5) (v := _) rfl (by kernel_rfl) (by kernel_rfl) (by kernel_rfl) (fun _ _ _ h => h) (Or.inl ⟨by kernel_rfl, by (intro wx hSw; (try dsimp only at hSw); go_simp <;> with_reducible rfl)⟩) (by assumption) ?_
    try simp only [Act.put, List.getElem_toArray, List.getElem_cons_succ, List.getElem_cons_zero, List.setIfInBounds_toArray, List.set_cons_zero, List.set_cons_succ]
    refine wpAnyH_take (i := 6) (v := _) rfl (by kernel_rfl) (by kernel_rfl) (by kernel_rfl) (fun _ _ _ h => h) (Or.inl ⟨by kernel_rfl, by (intro wx hSw; (try dsimp only at hSw); go_simp <;> with_reducible rfl)⟩) (by assumption) ?_
    try simp only [Act.put, List.getElem_toArray, List.getElem_cons_succ, List.getElem_cons_zero, List.setIfInBounds_toArray, List.set_cons_zero, List.set_cons_succ]
    refine wpAnyH_ready (rs := [1, 8]) (by kernel_rfl) (by simp) ?_
    refine (AllReadyH.cons rfl (fun K hK => ?_) (AllReadyH.cons rfl (fun K hK => ?_) AllReadyH.nil))
    · go_simp
      refine (toHouse_any a0 _).mono ?_
      rintro e v2 ⟨rfl, hb⟩
      have F0 : Hid (HAt v2 w.heap.size a0) := F0.out.below hb F0.out.lt
      have F1 : Hid (CW v2 (w.heap.size + 1) a1) := F1.out.below hb F1.out.lt
      have FB : Hid (Below w.heap.size w v2) := FB.out.trans (hb.mono FB.out.size)
      clear hb
      obtain ⟨x0_0, x0_1, x0_2, x0_3, x0_4, x0_5, x0_6, x0_7, x0_8, x0_9, x0_10, x0_11⟩ := F0.out
      obtain ⟨x1_0, x1_1, x1_2, y1_0, y1_1, y1_2⟩ := F1.out
      try go_wp2_with fail
      refine hK.out _ _ (by (try dsimp only); first | exact ⟨x0_0, x0_1, x0_2, x0_3, x0_4, x0_5, x0_6, x0_7, x0_8, x0_9, x0_10, x0_11, x1_0, x1_1, x1_2⟩ | go_keep) (fun hHeld => ?_)
      clear hK K
      try simp only [Act.put, List.getElem_toArray, List.getElem_cons_succ, List.getElem_cons_zero, List.setIfInBounds_toArray, List.set_cons_zero, List.set_cons_succ]
      refine wpAnyH_ready (rs := [3, 8]) (by kernel_rfl) (by simp) ?_
      refine (AllReadyH.cons rfl (fun K hK => ?_) (AllReadyH.cons rfl (fun K hK => ?_) AllReadyH.nil))
      · go_simp
        refine (toCar_any a1 _).mono ?_
        rintro e v3 ⟨rfl, hb⟩
        have F0 : Hid (HAt v3 w.heap.size a0) := F0.out.below hb F0.out.lt
        have F1 : Hid (CW v3 (w.heap.size + 1) a1) := F1.out.below hb F1.out.lt
        have FB : Hid (Below w.heap.size w v3) := FB.out.trans (hb.mono FB.out.size)
        clear hb
        obtain ⟨x0_0, x0_1, x0_2, x0_3, x0_4, x0_5, x0_6, x0_7, x0_8, x0_9, x0_10, x0_11⟩ := F0.out
        obtain ⟨x1_0, x1_1, x1_2, y1_0, y1_1, y1_2⟩ := F1.out
        try go_wp2_with fail
        refine hK.out _ _ (by (try dsimp only); first | exact ⟨x0_0, x0_1, x0_2, x0_3, x0_4, x0_5, x0_6, x0_7, x0_8, x0_9, x0_10, x0_11, x1_0, x1_1, x1_2⟩ | go_keep) (fun hHeld => ?_)
        clear hK K
        try simp only [Act.put, List.getElem_toArray, List.getElem_cons_succ, List.getElem_cons_zero, List.setIfInBounds_toArray, List.set_cons_zero, List.set_cons_succ]
        refine wpAnyH_ready (rs := [7, 8]) (by kernel_rfl) (by simp) ?_
        refine (AllReadyH.cons rfl (fun K hK => ?_) (AllReadyH.cons rfl (fun K hK => ?_) AllReadyH.nil))
        · go_simp
          refine (specBookRun_any a0 a1 a2 a3 a4 _).mono ?_
          rintro e v4 ⟨rfl, hb⟩
          have F0 : Hid (HAt v4 w.heap.size a0) := F0.out.below hb F0.out.lt
          have F1 : Hid (CW v4 (w.heap.size + 1) a1) := F1.out.below hb F1.out.lt
          have FB : Hid (Below w.heap.size w v4) := FB.out.trans (hb.mono FB.out.size)
          clear hb
          obtain ⟨x0_0, x0_1, x0_2, x0_3, x0_4, x0_5, x0_6, x0_7, x0_8, x0_9, x0_10, x0_11⟩ := F0.out
          obtain ⟨x1_0, x1_1, x1_2, y1_0, y1_1, y1_2⟩ := F1.out
          try go_wp2_with fail
          refine hK.out _ _ (by (try dsimp only); first | exact ⟨x0_0, x0_1, x0_2, x0_3, x0_4, x0_5, x0_6, x0_7, x0_8, x0_9, x0_10, x0_11, x1_0, x1_1, x1_2⟩ | go_keep) (fun hHeld => ?_)
          clear hK K
          try simp only [Act.put, List.getElem_toArray, List.getElem_cons_succ, List.getElem_cons_zero, List.setIfInBounds_toArray, List.set_cons_zero, List.set_cons_succ]
          refine wpAnyH_ready (rs := [8]) (by kernel_rfl) (by simp) ?_
          refine (AllReadyH.cons rfl (fun K hK => ?_) AllReadyH.nil)
          go_simp
          obtain ⟨b, hbb⟩ : ∃ b, b = v4.heap.size := ⟨_, rfl⟩
          obtain ⟨v5, hw2⟩ : ∃ v5, v5 = v4.alloc (.cells #[.int .i64 0, .int .i64 0, .int .i64 0, .int .i64 0, .int .i64 0, .int .i64 0, .int .i64 0] 40) := ⟨_, rfl⟩
          have n0 : w.heap.size < b := by rw [hbb]; exact F0.out.lt
          have n1 : (w.heap.size + 1) < b := by rw [hbb]; exact F1.out.lt
          have FA : Hid (RBk v5 b) := by rw [hw2]; exact RBk.at_ _ _ _ hbb
          have F0 : Hid (HAt v5 w.heap.size a0) := by rw [hw2]; exact F0.out.alloc _
          have F1 : Hid (CW v5 (w.heap.size + 1) a1) := by rw [hw2]; exact F1.out.alloc _
          have FB : Hid (Below w.heap.size w v5) := by rw [hw2]; exact FB.out.alloc FB.out.size _
          rw [← hw2, ← hbb]
          clear hbb hw2
          obtain ⟨x0_0, x0_1, x0_2, x0_3, x0_4, x0_5, x0_6, x0_7, x0_8, x0_9, x0_10, x0_11⟩ := F0.out
          obtain ⟨x1_0, x1_1, x1_2, y1_0, y1_1, y1_2⟩ := F1.out
          refine hK.out _ _ (by (try dsimp only); first | exact ⟨x0_0, x0_1, x0_2, x0_3, x0_4, x0_5, x0_6, x0_7, x0_8, x0_9, x0_10, x0_11, x1_0, x1_1, x1_2⟩ | go_keep) (fun hHeld => ?_)
          clear hK K
          try simp only [Act.put, List.getElem_toArray, List.getElem_cons_succ, List.getElem_cons_zero, List.setIfInBounds_toArray, List.set_cons_zero, List.set_cons_succ]
          refine wpAnyH_ready (rs := [9]) (by kernel_rfl) (by simp) ?_
          refine (AllReadyH.cons rfl (fun K hK => ?_) AllReadyH.nil)
          have r0_ := FA.out.c0
          have s0_ := FA.out.f0
          have r1_ := FA.out.c1
          have s1_ := FA.out.f1
          have r2_ := FA.out.c2
          have s2_ := FA.out.f2
          have r3_ := FA.out.c3
          have s3_ := FA.out.f3
          have r4_ := FA.out.c4
          have s4_ := FA.out.f4
          have r5_ := FA.out.c5
          have s5_ := FA.out.f5
          have r6_ := FA.out.c6
          have s6_ := FA.out.f6
          go_simp
          refine hK.out _ _ (by (try dsimp only); first | ((repeat' apply And.intro) <;> ((repeat rw [cellS (by omega)]); assumption)) | go_keep) (fun hHeld => ?_)
          clear hK K
          try simp only [Act.put, List.getElem_toArray, List.getElem_cons_succ, List.getElem_cons_zero, List.setIfInBounds_toArray, List.set_cons_zero, List.set_cons_succ]
          refine wpAnyH_done (by kernel_rfl) ?_ _
          go_wp2_with fail
          go_meet
          case rel => exact ⟨b, rfl, FA.out.put (Hs.bkV a0 a1 a2 a3 a4) , F0.out.below (below_putBk (Below.refl _ _) (Nat.le_refl _) (Hs.bkV a0 a1 a2 a3 a4) ) n0, F1.out.below (below_putBk (Below.refl _ _) (Nat.le_refl _) (Hs.bkV a0 a1 a2 a3 a4) ) n1, below_putBk FB.out (by omega) (Hs.bkV a0 a1 a2 a3 a4) ⟩
        · go_simp
          obtain ⟨b, hbb⟩ : ∃ b, b = v3.heap.size := ⟨_, rfl⟩
          obtain ⟨v6, hw2⟩ : ∃ v6, v6 = v3.alloc (.cells #[.int .i64 0, .int .i64 0, .int .i64 0, .int .i64 0, .int .i64 0, .int .i64 0, .int .i64 0] 40) := ⟨_, rfl⟩
          have n0 : w.heap.size < b := by rw [hbb]; exact F0.out.lt
          have n1 : (w.heap.size + 1) < b := by rw [hbb]; exact F1.out.lt
          have FA : Hid (RBk v6 b) := by rw [hw2]; exact RBk.at_ _ _ _ hbb
          have F0 : Hid (HAt v6 w.heap.size a0) := by rw [hw2]; exact F0.out.alloc _
          have F1 : Hid (CW v6 (w.heap.size + 1) a1) := by rw [hw2]; exact F1.out.alloc _
          have FB : Hid (Below w.heap.size w v6) := by rw [hw2]; exact FB.out.alloc FB.out.size _
          rw [← hw2, ← hbb]
          clear hbb hw2
          obtain ⟨x0_0, x0_1, x0_2, x0_3, x0_4, x0_5, x0_6, x0_7, x0_8, x0_9, x0_10, x0_11⟩ := F0.out
          obtain ⟨x1_0, x1_1, x1_2, y1_0, y1_1, y1_2⟩ := F1.out
          refine hK.out _ _ (by (try dsimp only); first | exact ⟨x0_0, x0_1, x0_2, x0_3, x0_4, x0_5, x0_6, x0_7, x0_8, x0_9, x0_10, x0_11, x1_0, x1_1, x1_2⟩ | go_keep) (fun hHeld => ?_)
          clear hK K
          try simp only [Act.put, List.getElem_toArray, List.getElem_cons_succ, List.getElem_cons_zero, List.setIfInBounds_toArray, List.set_cons_zero, List.set_cons_succ]
          refine wpAnyH_ready (rs := [7]) (by kernel_rfl) (by simp) ?_
          refine (AllReadyH.cons rfl (fun K hK => ?_) AllReadyH.nil)
          go_simp
          refine (specBookRun_any a0 a1 a2 a3 a4 _).mono ?_
          rintro e v7 ⟨rfl, hb⟩
          have F0 : Hid (HAt v7 w.heap.size a0) := F0.out.below hb F0.out.lt
          have F1 : Hid (CW v7 (w.heap.size + 1) a1) := F1.out.below hb F1.out.lt
          have FA : Hid (RBk v7 b) := FA.out.below hb FA.out.lt
          have FB : Hid (Below w.heap.size w v7) := FB.out.trans (hb.mono FB.out.size)
          clear hb
          obtain ⟨x0_0, x0_1, x0_2, x0_3, x0_4, x0_5, x0_6, x0_7, x0_8, x0_9, x0_10, x0_11⟩ := F0.out
          obtain ⟨x1_0, x1_1, x1_2, y1_0, y1_1, y1_2⟩ := F1.out
          try go_wp2_with fail
          refine hK.out _ _ (by (try dsimp only); first | exact ⟨x0_0, x0_1, x0_2, x0_3, x0_4, x0_5, x0_6, x0_7, x0_8, x0_9, x0_10, x0_11, x1_0, x1_1, x1_2⟩ | go_keep) (fun hHeld => ?_)
          clear hK K
          try simp only [Act.put, List.getElem_toArray, List.getElem_cons_succ, List.getElem_cons_zero, List.setIfInBounds_toArray, List.set_cons_zero, List.set_cons_succ]
          refine wpAnyH_ready (rs := [9]) (by kernel_rfl) (by simp) ?_
          refine (AllReadyH.cons rfl (fun K hK => ?_) AllReadyH.nil)
          have r0_ := FA.out.c0
          have s0_ := FA.out.f0
          have r1_ := FA.out.c1
          have s1_ := FA.out.f1
          have r2_ := FA.out.c2
          have s2_ := FA.out.f2
          have r3_ := FA.out.c3
          have s3_ := FA.out.f3
          have r4_ := FA.out.c4
          have s4_ := FA.out.f4
          have r5_ := FA.out.c5
          have s5_ := FA.out.f5
          have r6_ := FA.out.c6
          have s6_ := FA.out.f6
          go_simp
          refine hK.out _ _ (by (try dsimp only); first | ((repeat' apply And.intro) <;> ((repeat rw [cellS (by omega)]); assumption)) | go_keep) (fun hHeld => ?_)
          clear hK K
          try simp only [Act.put, List.getElem_toArray, List.getElem_cons_succ, List.getElem_cons_zero, List.setIfInBounds_toArray, List.set_cons_zero, List.set_cons_succ]
          refine wpAnyH_done (by kernel_rfl) ?_ _
          go_wp2_with fail
          go_meet
          case rel => exact ⟨b, rfl, FA.out.put (Hs.bkV a0 a1 a2 a3 a4) , F0.out.below (below_putBk (Below.refl _ _) (Nat.le_refl _) (Hs.bkV a0 a1 a2 a3 a4) ) n0, F1.out.below (below_putBk (Below.refl _ _) (Nat.le_refl _) (Hs.bkV a0 a1 a2 a3 a4) ) n1, below_putBk FB.out (by omega) (Hs.bkV a0 a1 a2 a3 a4) ⟩
      · go_simp
        obtain ⟨b, hbb⟩ : ∃ b, b = v2.heap.size := ⟨_, rfl⟩
        obtain ⟨v8, hw2⟩ : ∃ v8, v8 = v2.alloc (.cells #[.int .i64 0, .int .i64 0, .int .i64 0, .int .i64 0, .int .i64 0, .int .i64 0, .int .i64 0] 40) := ⟨_, rfl⟩
        have n0 : w.heap.size < b := by rw [hbb]; exact F0.out.lt
        have n1 : (w.heap.size + 1) < b := by rw [hbb]; exact F1.out.lt
        have FA : Hid (RBk v8 b) := by rw [hw2]; exact RBk.at_ _ _ _ hbb
        have F0 : Hid (HAt v8 w.heap.size a0) := by rw [hw2]; exact F0.out.alloc _
        have F1 : Hid (CW v8 (w.heap.size + 1) a1) := by rw [hw2]; exact F1.out.alloc _
        have FB : Hid (Below w.heap.size w v8) := by rw [hw2]; exact FB.out.alloc FB.out.size _
        rw [← hw2, ← hbb]
        clear hbb hw2
        obtain ⟨x0_0, x0_1, x0_2, x0_3, x0_4, x0_5, x0_6, x0_7, x0_8, x0_9, x0_10, x0_11⟩ := F0.out
        obtain ⟨x1_0, x1_1, x1_2, y1_0, y1_1, y1_2⟩ := F1.out
        refine hK.out _ _ (by (try dsimp only); first | exact ⟨x0_0, x0_1, x0_2, x0_3, x0_4, x0_5, x0_6, x0_7, x0_8, x0_9, x0_10, x0_11, x1_0, x1_1, x1_2⟩ | go_keep) (fun hHeld => ?_)
        clear hK K
        try simp only [Act.put, List.getElem_toArray, List.getElem_cons_succ, List.getElem_cons_zero, List.setIfInBounds_toArray, List.set_cons_zero, List.set_cons_succ]
        refine wpAnyH_ready (rs := [3]) (by kernel_rfl) (by simp) ?_
        refine (AllReadyH.cons rfl (fun K hK => ?_) AllReadyH.nil)
        go_simp
        refine (toCar_any a1 _).mono ?_
        rintro e v9 ⟨rfl, hb⟩
        have F0 : Hid (HAt v9 w.heap.size a0) := F0.out.below hb F0.out.lt
        have F1 : Hid (CW v9 (w.heap.size + 1) a1) := F1.out.below hb F1.out.lt
        have FA : Hid (RBk v9 b) := FA.out.below hb FA.out.lt
        have FB : Hid (Below w.heap.size w v9) := FB.out.trans (hb.mono FB.out.size)
        clear hb
        obtain ⟨x0_0, x0_1, x0_2, x0_3, x0_4, x0_5, x0_6, x0_7, x0_8, x0_9, x0_10, x0_11⟩ := F0.out
        obtain ⟨x1_0, x1_1, x1_2, y1_0, y1_1, y1_2⟩ := F1.out
        try go_wp2_with fail
        refine hK.out _ _ (by (try dsimp only); first | exact ⟨x0_0, x0_1, x0_2, x0_3, x0_4, x0_5, x0_6, x0_7, x0_8, x0_9, x0_10, x0_11, x1_0, x1_1, x1_2⟩ | go_keep) (fun hHeld => ?_)
        clear hK K
        try simp only [Act.put, List.getElem_toArray, List.getElem_cons_succ, List.getElem_cons_zero, List.setIfInBounds_toArray, List.set_cons_zero, List.set_cons_succ]
        refine wpAnyH_ready (rs := [7]) (by kernel_rfl) (by simp) ?_
        refine (AllReadyH.cons rfl (fun K hK => ?_) AllReadyH.nil)
        go_simp
        refine (specBookRun_any a0 a1 a2 a3 a4 _).mono ?_
        rintro e v10 ⟨rfl, hb⟩
        have F0 : Hid (HAt v10 w.heap.size a0) := F0.out.below hb F0.out.lt
        have F1 : Hid (CW v10 (w.heap.size + 1) a1) := F1.out.below hb F1.out.lt
        have FA : Hid (RBk v10 b) := FA.out.below hb FA.out.lt
        have FB : Hid (Below w.heap.size w v10) := FB.out.trans (hb.mono FB.out.size)
        clear hb
        obtain ⟨x0_0, x0_1, x0_2, x0_3, x0_4, x0_5, x0_6, x0_7, x0_8, x0_9, x0_10, x0_11⟩ := F0.out
        obtain ⟨x1_0, x1_1, x1_2, y1_0, y1_1, y1_2⟩ := F1.out
        try go_wp2_with fail
        refine hK.out _ _ (by (try dsimp only); first | exact ⟨x0_0, x0_1, x0_2, x0_3, x0_4, x0_5, x0_6, x0_7, x0_8, x0_9, x0_10, x0_11, x1_0, x1_1, x1_2⟩ | go_keep) (fun hHeld => ?_)
        clear hK K
        try simp only [Act.put, List.getElem_toArray, List.getElem_cons_succ, List.getElem_cons_zero, List.setIfInBounds_toArray, List.set_cons_zero, List.set_cons_succ]
        refine wpAnyH_ready (rs := [9]) (by kernel_rfl) (by simp) ?_
        refine (AllReadyH.cons rfl (fun K hK => ?_) AllReadyH.nil)
        have r0_ := FA.out.c0
        have s0_ := FA.out.f0
        have r1_ := FA.out.c1
        have s1_ := FA.out.f1
        have r2_ := FA.out.c2
        have s2_ := FA.out.f2
        have r3_ := FA.out.c3
        have s3_ := FA.out.f3
        have r4_ := FA.out.c4
        have s4_ := FA.out.f4
        have r5_ := FA.out.c5
        have s5_ := FA.out.f5
        have r6_ := FA.out.c6
        have s6_ := FA.out.f6
        go_simp
        refine hK.out _ _ (by (try dsimp only); first | ((repeat' apply And.intro) <;> ((repeat rw [cellS (by omega)]); assumption)) | go_keep) (fun hHeld => ?_)
        clear hK K
        try simp only [Act.put, List.getElem_toArray, List.getElem_cons_succ, List.getElem_cons_zero, List.setIfInBounds_toArray, List.set_cons_zero, List.set_cons_succ]
        refine wpAnyH_done (by kernel_rfl) ?_ _
        go_wp2_with fail
        go_meet
        case rel => exact ⟨b, rfl, FA.out.put (Hs.bkV a0 a1 a2 a3 a4) , F0.out.below (below_putBk (Below.refl _ _) (Nat.le_refl _) (Hs.bkV a0 a1 a2 a3 a4) ) n0, F1.out.below (below_putBk (Below.refl _ _) (Nat.le_refl _) (Hs.bkV a0 a1 a2 a3 a4) ) n1, below_putBk FB.out (by omega) (Hs.bkV a0 a1 a2 a3 a4) ⟩
    · go_simp
      obtain ⟨b, hbb⟩ : ∃ b, b = v1.heap.size := ⟨_, rfl⟩
      obtain ⟨v11, hw2⟩ : ∃ v11, v11 = v1.alloc (.cells #[.int .i64 0, .int .i64 0, .int .i64 0, .int .i64 0, .int .i64 0, .int .i64 0, .int .i64 0] 40) := ⟨_, rfl⟩
      have n0 : w.heap.size < b := by rw [hbb]; exact F0.out.lt
      have n1 : (w.heap.size + 1) < b := by rw [hbb]; exact F1.out.lt
      have FA : Hid (RBk v11 b) := by rw [hw2]; exact RBk.at_ _ _ _ hbb
      have F0 : Hid (HAt v11 w.heap.size a0) := by rw [hw2]; exact F0.out.alloc _
      have F1 : Hid (CW v11 (w.heap.size + 1) a1) := by rw [hw2]; exact F1.out.alloc _
      have FB : Hid (Below w.heap.size w v11) := by rw [hw2]; exact FB.out.alloc FB.out.size _
      rw [← hw2, ← hbb]
      clear hbb hw2
      obtain ⟨x0_0, x0_1, x0_2, x0_3, x0_4, x0_5, x0_6, x0_7, x0_8, x0_9, x0_10, x0_11⟩ := F0.out
      obtain ⟨x1_0, x1_1, x1_2, y1_0, y1_1, y1_2⟩ := F1.out
      refine hK.out _ _ (by (try dsimp only); first | exact ⟨x0_0, x0_1, x0_2, x0_3, x0_4, x0_5, x0_6, x0_7, x0_8, x0_9, x0_10, x0_11, x1_0, x1_1, x1_2⟩ | go_keep) (fun hHeld => ?_)
      clear hK K
      try simp only [Act.put, List.getElem_toArray, List.getElem_cons_succ, List.getElem_cons_zero, List.setIfInBounds_toArray, List.set_cons_zero, List.set_cons_succ]
      refine wpAnyH_ready (rs := [1]) (by kernel_rfl) (by simp) ?_
      refine (AllReadyH.cons rfl (fun K hK => ?_) AllReadyH.nil)
      go_simp
      refine (toHouse_any a0 _).mono ?_
      rintro e v12 ⟨rfl, hb⟩
      have F0 : Hid (HAt v12 w.heap.size a0) := F0.out.below hb F0.out.lt
      have F1 : Hid (CW v12 (w.heap.size + 1) a1) := F1.out.below hb F1.out.lt
      have FA : Hid (RBk v12 b) := FA.out.below hb FA.out.lt
      have FB : Hid (Below w.heap.size w v12) := FB.out.trans (hb.mono FB.out.size)
      clear hb
      obtain ⟨x0_0, x0_1, x0_2, x0_3, x0_4, x0_5, x0_6, x0_7, x0_8, x0_9, x0_10, x0_11⟩ := F0.out
      obtain ⟨x1_0, x1_1, x1_2, y1_0, y1_1, y1_2⟩ := F1.out
      try go_wp2_with fail
      refine hK.out _ _ (by (try dsimp only); first | exact ⟨x0_0, x0_1, x0_2, x0_3, x0_4, x0_5, x0_6, x0_7, x0_8, x0_9, x0_10, x0_11, x1_0, x1_1, x1_2⟩ | go_keep) (fun hHeld => ?_)
      clear hK K
      try simp only [Act.put, List.getElem_toArray, List.getElem_cons_succ, List.getElem_cons_zero, List.setIfInBounds_toArray, List.set_cons_zero, List.set_cons_succ]
      refine wpAnyH_ready (rs := [3]) (by kernel_rfl) (by simp) ?_
      refine (AllReadyH.cons rfl (fun K hK => ?_) AllReadyH.nil)
      go_simp
      refine (toCar_any a1 _).mono ?_
      rintro e v13 ⟨rfl, hb⟩
      have F0 : Hid (HAt v13 w.heap.size a0) := F0.out.below hb F0.out.lt
      have F1 : Hid (CW v13 (w.heap.size + 1) a1) := F1.out.below hb F1.out.lt
      have FA : Hid (RBk v13 b) := FA.out.below hb FA.out.lt
      have FB : Hid (Below w.heap.size w v13) := FB.out.trans (hb.mono FB.out.size)
      clear hb
      obtain ⟨x0_0, x0_1, x0_2, x0_3, x0_4, x0_5, x0_6, x0_7, x0_8, x0_9, x0_10, x0_11⟩ := F0.out
      obtain ⟨x1_0, x1_1, x1_2, y1_0, y1_1, y1_2⟩ := F1.out
      try go_wp2_with fail
      refine hK.out _ _ (by (try dsimp only); first | exact ⟨x0_0, x0_1, x0_2, x0_3, x0_4, x0_5, x0_6, x0_7, x0_8, x0_9, x0_10, x0_11, x1_0, x1_1, x1_2⟩ | go_keep) (fun hHeld => ?_)
      clear hK K
      try simp only [Act.put, List.getElem_toArray, List.getElem_cons_succ, List.getElem_cons_zero, List.setIfInBounds_toArray, List.set_cons_zero, List.set_cons_succ]
      refine wpAnyH_ready (rs := [7]) (by kernel_rfl) (by simp) ?_
      refine (AllReadyH.cons rfl (fun K hK => ?_) AllReadyH.nil)
      go_simp
      refine (specBookRun_any a0 a1 a2 a3 a4 _).mono ?_
      rintro e v14 ⟨rfl, hb⟩
      have F0 : Hid (HAt v14 w.heap.size a0) := F0.out.below hb F0.out.lt
      have F1 : Hid (CW v14 (w.heap.size + 1) a1) := F1.out.below hb F1.out.lt
      have FA : Hid (RBk v14 b) := FA.out.below hb FA.out.lt
      have FB : Hid (Below w.heap.size w v14) := FB.out.trans (hb.mono FB.out.size)
      clear hb
      obtain ⟨x0_0, x0_1, x0_2, x0_3, x0_4, x0_5, x0_6, x0_7, x0_8, x0_9, x0_10, x0_11⟩ := F0.out
      obtain ⟨x1_0, x1_1, x1_2, y1_0, y1_1, y1_2⟩ := F1.out
      try go_wp2_with fail
      refine hK.out _ _ (by (try dsimp only); first | exact ⟨x0_0, x0_1, x0_2, x0_3, x0_4, x0_5, x0_6, x0_7, x0_8, x0_9, x0_10, x0_11, x1_0, x1_1, x1_2⟩ | go_keep) (fun hHeld => ?_)
      clear hK K
      try simp only [Act.put, List.getElem_toArray, List.getElem_cons_succ, List.getElem_cons_zero, List.setIfInBounds_toArray, List.set_cons_zero, List.set_cons_succ]
      refine wpAnyH_ready (rs := [9]) (by kernel_rfl) (by simp) ?_
      refine (AllReadyH.cons rfl (fun K hK => ?_) AllReadyH.nil)
      have r0_ := FA.out.c0
      have s0_ := FA.out.f0
      have r1_ := FA.out.c1
      have s1_ := FA.out.f1
      have r2_ := FA.out.c2
      have s2_ := FA.out.f2
      have r3_ := FA.out.c3
      have s3_ := FA.out.f3
      have r4_ := FA.out.c4
      have s4_ := FA.out.f4
      have r5_ := FA.out.c5
      have s5_ := FA.out.f5
      have r6_ := FA.out.c6
      have s6_ := FA.out.f6
      go_simp
      refine hK.out _ _ (by (try dsimp only); first | ((repeat' apply And.intro) <;> ((repeat rw [cellS (by omega)]); assumption)) | go_keep) (fun hHeld => ?_)
      clear hK K
      try simp only [Act.put, List.getElem_toArray, List.getElem_cons_succ, List.getElem_cons_zero, List.setIfInBounds_toArray, List.set_cons_zero, List.set_cons_succ]
      refine wpAnyH_done (by kernel_rfl) ?_ _
      go_wp2_with fail
      go_meet
      case rel => exact ⟨b, rfl, FA.out.put (Hs.bkV a0 a1 a2 a3 a4) , F0.out.below (below_putBk (Below.refl _ _) (Nat.le_refl _) (Hs.bkV a0 a1 a2 a3 a4) ) n0, F1.out.below (below_putBk (Below.refl _ _) (Nat.le_refl _) (Hs.bkV a0 a1 a2 a3 a4) ) n1, below_putBk FB.out (by omega) (Hs.bkV a0 a1 a2 a3 a4) ⟩
  case rest =>
    obtain ⟨b1, rfl, hv, h0, h1, hB⟩ := hcut
    have FV : Hid (VBk wc b1 (Hs.bkV a0 a1 a2 a3 a4) ) := hv
    have F0 : Hid (HAt wc w.heap.size a0) := h0
    have F1 : Hid (CW wc (w.heap.size + 1) a1) := h1
    have FB : Hid (Below w.heap.size w wc) := hB
    clear hv hB h0 h1
    obtain ⟨wd, hwd⟩ : ∃ wd, wd = wc := ⟨_, rfl⟩
    subst hwd
    go_wp2_with fail
    go_cut [12] (fun p wx => ∃ b, p = .pointer (some ⟨b, 0, none⟩) ∧ VBk wx b (Hs.bkV a0 a1 a2 a3 a4)  ∧ VBk wx b1 (Hs.bkV a0 a1 a2 a3 a4)  ∧ Below w.heap.size w wx)
    case first =>
      have F0 : Hid (HAt wd.drew w.heap.size a0) := F0.out.below (Below.refl _ _).drew F0.out.lt
      have F1 : Hid (CW wd.drew (w.heap.size + 1) a1) := F1.out.below (Below.refl _ _).drew F1.out.lt
      have FV : Hid (VBk wd.drew b1 (Hs.bkV a0 a1 a2 a3 a4) ) := FV.out.below (Below.refl _ _).drew FV.out.lt
      have FB : Hid (Below w.heap.size w wd.drew) := FB.out.drew
      obtain ⟨x0_0, x0_1, x0_2, x0_3, x0_4, x0_5, x0_6, x0_7, x0_8, x0_9, x0_10, x0_11⟩ := F0.out
      obtain ⟨x1_0, x1_1, x1_2, y1_0, y1_1, y1_2⟩ := F1.out
      refine wp_region_held_drew (S := (fun w'' => w''.cell? ⟨w.heap.size, 0, none⟩ = some (.int .i64 a0.fl) ∧ w''.cell? ⟨w.heap.size, 1, none⟩ = some (.int .i64 a0.gp) ∧ w''.cell? ⟨w.heap.size, 2, none⟩ = some (.int .i64 a0.ln) ∧ w''.cell? ⟨w.heap.size, 3, none⟩ = some (.int .i64 a0.rf) ∧ w''.cell? ⟨w.heap.size, 4, none⟩ = some (.int .i64 a0.sp) ∧ w''.cell? ⟨w.heap.size, 5, none⟩ = some (.int .i64 a0.pu) ∧ w''.cell? ⟨w.heap.size, 6, none⟩ = some (.int .i64 a0.br) ∧ w''.cell? ⟨w.heap.size, 7, none⟩ = some (.int .i64 a0.dr) ∧ w''.cell? ⟨w.heap.size, 8, none⟩ = some (.int .i64 a0.lv) ∧ w''.cell? ⟨w.heap.size, 9, none⟩ = some (.int .i64 a0.dO) ∧ w''.cell? ⟨w.heap.size, 10, none⟩ = some (.int .i64 a0.ld) ∧ w''.cell? ⟨w.heap.size, 11, none⟩ = some (.int .i64 a0.qu) ∧ w''.cell? ⟨(w.heap.size + 1), 0, none⟩ = some (.int .i64 a1.pos) ∧ w''.cell? ⟨(w.heap.size + 1), 1, none⟩ = some (.int .i64 a1.vel) ∧ w''.cell? ⟨(w.heap.size + 1), 2, none⟩ = some (.int .i64 a1.door))) (by kernel_rfl) (by (try dsimp only); first | exact ⟨x0_0, x0_1, x0_2, x0_3, x0_4, x0_5, x0_6, x0_7, x0_8, x0_9, x0_10, x0_11, x1_0, x1_1, x1_2⟩ | go_keep) (fun hHeld => ?_)
      obtain ⟨v15, hw1⟩ : ∃ v15, v15 = wd.drew := ⟨_, rfl⟩
      have F0 : Hid (HAt v15 w.heap.size a0) := by rw [hw1]; exact F0.out
      have F1 : Hid (CW v15 (w.heap.size + 1) a1) := by rw [hw1]; exact F1.out
      have FV : Hid (VBk v15 b1 (Hs.bkV a0 a1 a2 a3 a4) ) := by rw [hw1]; exact FV.out
      have FB : Hid (Below w.heap.size w v15) := by rw [hw1]; exact FB.out
      rw [← hw1] at hHeld ⊢
      clear hw1
      obtain ⟨x0_0, x0_1, x0_2, x0_3, x0_4, x0_5, x0_6, x0_7, x0_8, x0_9, x0_10, x0_11⟩ := F0.out
      obtain ⟨x1_0, x1_1, x1_2, y1_0, y1_1, y1_2⟩ := F1.out
      refine wpAnyH_take (i := 0) (v := _) rfl (by kernel_rfl) (by kernel_rfl) (by kernel_rfl) (fun _ _ _ h => h) (Or.inl ⟨by kernel_rfl, by (intro wx hSw; (try dsimp only at hSw); go_simp <;> with_reducible rfl)⟩) (by assumption) ?_
      try simp only [Act.put, List.getElem_toArray, List.getElem_cons_succ, List.getElem_cons_zero, List.setIfInBounds_toArray, List.set_cons_zero, List.set_cons_succ]
      refine wpAnyH_take (i := 2) (v := _) rfl (by kernel_rfl) (by kernel_rfl) (by kernel_rfl) (fun _ _ _ h => h) (Or.inl ⟨by kernel_rfl, by (intro wx hSw; (try dsimp only at hSw); go_simp <;> with_reducible rfl)⟩) (by assumption) ?_
      try simp only [Act.put, List.getElem_toArray, List.getElem_cons_succ, List.getElem_cons_zero, List.setIfInBounds_toArray, List.set_cons_zero, List.set_cons_succ]
      refine wpAnyH_take (i := 4) (v := _) rfl (by kernel_rfl) (by kernel_rfl) (by kernel_rfl) (fun _ _ _ h => h) (Or.inl ⟨by kernel_rfl, by (intro wx hSw; (try dsimp only at hSw); go_simp <;> with_reducible rfl)⟩) (by assumption) ?_
      try simp only [Act.put, List.getElem_toArray, List.getElem_cons_succ, List.getElem_cons_zero, List.setIfInBounds_toArray, List.set_cons_zero, List.set_cons_succ]
      refine wpAnyH_take (i := 5) (v := _) rfl (by kernel_rfl) (by kernel_rfl) (by kernel_rfl) (fun _ _ _ h => h) (Or.inl ⟨by kernel_rfl, by (intro wx hSw; (try dsimp only at hSw); go_simp <;> with_reducible rfl)⟩) (by assumption) ?_
      try simp only [Act.put, List.getElem_toArray, List.getElem_cons_succ, List.getElem_cons_zero, List.setIfInBounds_toArray, List.set_cons_zero, List.set_cons_succ]
      refine wpAnyH_take (i := 6) (v := _) rfl (by kernel_rfl) (by kernel_rfl) (by kernel_rfl) (fun _ _ _ h => h) (Or.inl ⟨by kernel_rfl, by (intro wx hSw; (try dsimp only at hSw); go_simp <;> with_reducible rfl)⟩) (by assumption) ?_
      try simp only [Act.put, List.getElem_toArray, List.getElem_cons_succ, List.getElem_cons_zero, List.setIfInBounds_toArray, List.set_cons_zero, List.set_cons_succ]
      refine wpAnyH_ready (rs := [1, 8]) (by kernel_rfl) (by simp) ?_
      refine (AllReadyH.cons rfl (fun K hK => ?_) (AllReadyH.cons rfl (fun K hK => ?_) AllReadyH.nil))
      · go_simp
        refine (toHouse_any a0 _).mono ?_
        rintro e v16 ⟨rfl, hb⟩
        have F0 : Hid (HAt v16 w.heap.size a0) := F0.out.below hb F0.out.lt
        have F1 : Hid (CW v16 (w.heap.size + 1) a1) := F1.out.below hb F1.out.lt
        have FV : Hid (VBk v16 b1 (Hs.bkV a0 a1 a2 a3 a4) ) := FV.out.below hb FV.out.lt
        have FB : Hid (Below w.heap.size w v16) := FB.out.trans (hb.mono FB.out.size)
        clear hb
        obtain ⟨x0_0, x0_1, x0_2, x0_3, x0_4, x0_5, x0_6, x0_7, x0_8, x0_9, x0_10, x0_11⟩ := F0.out
        obtain ⟨x1_0, x1_1, x1_2, y1_0, y1_1, y1_2⟩ := F1.out
        try go_wp2_with fail
        refine hK.out _ _ (by (try dsimp only); first | exact ⟨x0_0, x0_1, x0_2, x0_3, x0_4, x0_5, x0_6, x0_7, x0_8, x0_9, x0_10, x0_11, x1_0, x1_1, x1_2⟩ | go_keep) (fun hHeld => ?_)
        clear hK K
        try simp only [Act.put, List.getElem_toArray, List.getElem_cons_succ, List.getElem_cons_zero, List.setIfInBounds_toArray, List.set_cons_zero, List.set_cons_succ]
        refine wpAnyH_ready (rs := [3, 8]) (by kernel_rfl) (by simp) ?_
        refine (AllReadyH.cons rfl (fun K hK => ?_) (AllReadyH.cons rfl (fun K hK => ?_) AllReadyH.nil))
        · go_simp
          refine (toCar_any a1 _).mono ?_
          rintro e v17 ⟨rfl, hb⟩
          have F0 : Hid (HAt v17 w.heap.size a0) := F0.out.below hb F0.out.lt
          have F1 : Hid (CW v17 (w.heap.size + 1) a1) := F1.out.below hb F1.out.lt
          have FV : Hid (VBk v17 b1 (Hs.bkV a0 a1 a2 a3 a4) ) := FV.out.below hb FV.out.lt
          have FB : Hid (Below w.heap.size w v17) := FB.out.trans (hb.mono FB.out.size)
          clear hb
          obtain ⟨x0_0, x0_1, x0_2, x0_3, x0_4, x0_5, x0_6, x0_7, x0_8, x0_9, x0_10, x0_11⟩ := F0.out
          obtain ⟨x1_0, x1_1, x1_2, y1_0, y1_1, y1_2⟩ := F1.out
          try go_wp2_with fail
          refine hK.out _ _ (by (try dsimp only); first | exact ⟨x0_0, x0_1, x0_2, x0_3, x0_4, x0_5, x0_6, x0_7, x0_8, x0_9, x0_10, x0_11, x1_0, x1_1, x1_2⟩ | go_keep) (fun hHeld => ?_)
          clear hK K
          try simp only [Act.put, List.getElem_toArray, List.getElem_cons_succ, List.getElem_cons_zero, List.setIfInBounds_toArray, List.set_cons_zero, List.set_cons_succ]
          refine wpAnyH_ready (rs := [7, 8]) (by kernel_rfl) (by simp) ?_
          refine (AllReadyH.cons rfl (fun K hK => ?_) (AllReadyH.cons rfl (fun K hK => ?_) AllReadyH.nil))
          · go_simp
            refine (implBookRun_any a0 a1 a2 a3 a4 _).mono ?_
            rintro e v18 ⟨rfl, hb⟩
            have F0 : Hid (HAt v18 w.heap.size a0) := F0.out.below hb F0.out.lt
            have F1 : Hid (CW v18 (w.heap.size + 1) a1) := F1.out.below hb F1.out.lt
            have FV : Hid (VBk v18 b1 (Hs.bkV a0 a1 a2 a3 a4) ) := FV.out.below hb FV.out.lt
            have FB : Hid (Below w.heap.size w v18) := FB.out.trans (hb.mono FB.out.size)
            clear hb
            obtain ⟨x0_0, x0_1, x0_2, x0_3, x0_4, x0_5, x0_6, x0_7, x0_8, x0_9, x0_10, x0_11⟩ := F0.out
            obtain ⟨x1_0, x1_1, x1_2, y1_0, y1_1, y1_2⟩ := F1.out
            try go_wp2_with fail
            refine hK.out _ _ (by (try dsimp only); first | exact ⟨x0_0, x0_1, x0_2, x0_3, x0_4, x0_5, x0_6, x0_7, x0_8, x0_9, x0_10, x0_11, x1_0, x1_1, x1_2⟩ | go_keep) (fun hHeld => ?_)
            clear hK K
            try simp only [Act.put, List.getElem_toArray, List.getElem_cons_succ, List.getElem_cons_zero, List.setIfInBounds_toArray, List.set_cons_zero, List.set_cons_succ]
            refine wpAnyH_ready (rs := [8]) (by kernel_rfl) (by simp) ?_
            refine (AllReadyH.cons rfl (fun K hK => ?_) AllReadyH.nil)
            go_simp
            obtain ⟨b, hbb⟩ : ∃ b, b = v18.heap.size := ⟨_, rfl⟩
            obtain ⟨v19, hw2⟩ : ∃ v19, v19 = v18.alloc (.cells #[.int .i64 0, .int .i64 0, .int .i64 0, .int .i64 0, .int .i64 0, .int .i64 0, .int .i64 0] 40) := ⟨_, rfl⟩
            have n0 : w.heap.size < b := by rw [hbb]; exact F0.out.lt
            have n1 : (w.heap.size + 1) < b := by rw [hbb]; exact F1.out.lt
            have n2 : b1 < b := by rw [hbb]; exact FV.out.lt
            have FA : Hid (RBk v19 b) := by rw [hw2]; exact RBk.at_ _ _ _ hbb
            have F0 : Hid (HAt v19 w.heap.size a0) := by rw [hw2]; exact F0.out.alloc _
            have F1 : Hid (CW v19 (w.heap.size + 1) a1) := by rw [hw2]; exact F1.out.alloc _
            have FV : Hid (VBk v19 b1 (Hs.bkV a0 a1 a2 a3 a4) ) := by rw [hw2]; exact FV.out.alloc _
            have FB : Hid (Below w.heap.size w v19) := by rw [hw2]; exact FB.out.alloc FB.out.size _
            rw [← hw2, ← hbb]
            clear hbb hw2
            obtain ⟨x0_0, x0_1, x0_2, x0_3, x0_4, x0_5, x0_6, x0_7, x0_8, x0_9, x0_10, x0_11⟩ := F0.out
            obtain ⟨x1_0, x1_1, x1_2, y1_0, y1_1, y1_2⟩ := F1.out
            refine hK.out _ _ (by (try dsimp only); first | exact ⟨x0_0, x0_1, x0_2, x0_3, x0_4, x0_5, x0_6, x0_7, x0_8, x0_9, x0_10, x0_11, x1_0, x1_1, x1_2⟩ | go_keep) (fun hHeld => ?_)
            clear hK K
            try simp only [Act.put, List.getElem_toArray, List.getElem_cons_succ, List.getElem_cons_zero, List.setIfInBounds_toArray, List.set_cons_zero, List.set_cons_succ]
            refine wpAnyH_ready (rs := [9]) (by kernel_rfl) (by simp) ?_
            refine (AllReadyH.cons rfl (fun K hK => ?_) AllReadyH.nil)
            have r0_ := FA.out.c0
            have s0_ := FA.out.f0
            have r1_ := FA.out.c1
            have s1_ := FA.out.f1
            have r2_ := FA.out.c2
            have s2_ := FA.out.f2
            have r3_ := FA.out.c3
            have s3_ := FA.out.f3
            have r4_ := FA.out.c4
            have s4_ := FA.out.f4
            have r5_ := FA.out.c5
            have s5_ := FA.out.f5
            have r6_ := FA.out.c6
            have s6_ := FA.out.f6
            go_simp
            refine hK.out _ _ (by (try dsimp only); first | ((repeat' apply And.intro) <;> ((repeat rw [cellS (by omega)]); assumption)) | go_keep) (fun hHeld => ?_)
            clear hK K
            try simp only [Act.put, List.getElem_toArray, List.getElem_cons_succ, List.getElem_cons_zero, List.setIfInBounds_toArray, List.set_cons_zero, List.set_cons_succ]
            refine wpAnyH_done (by kernel_rfl) ?_ _
            go_wp2_with fail
            go_meet
            case rel => exact ⟨b, rfl, FA.out.put (Hs.bkV a0 a1 a2 a3 a4) , FV.out.below (below_putBk (Below.refl _ _) (Nat.le_refl _) (Hs.bkV a0 a1 a2 a3 a4) ) n2, below_putBk FB.out (by omega) (Hs.bkV a0 a1 a2 a3 a4) ⟩
          · go_simp
            obtain ⟨b, hbb⟩ : ∃ b, b = v17.heap.size := ⟨_, rfl⟩
            obtain ⟨v20, hw2⟩ : ∃ v20, v20 = v17.alloc (.cells #[.int .i64 0, .int .i64 0, .int .i64 0, .int .i64 0, .int .i64 0, .int .i64 0, .int .i64 0] 40) := ⟨_, rfl⟩
            have n0 : w.heap.size < b := by rw [hbb]; exact F0.out.lt
            have n1 : (w.heap.size + 1) < b := by rw [hbb]; exact F1.out.lt
            have n2 : b1 < b := by rw [hbb]; exact FV.out.lt
            have FA : Hid (RBk v20 b) := by rw [hw2]; exact RBk.at_ _ _ _ hbb
            have F0 : Hid (HAt v20 w.heap.size a0) := by rw [hw2]; exact F0.out.alloc _
            have F1 : Hid (CW v20 (w.heap.size + 1) a1) := by rw [hw2]; exact F1.out.alloc _
            have FV : Hid (VBk v20 b1 (Hs.bkV a0 a1 a2 a3 a4) ) := by rw [hw2]; exact FV.out.alloc _
            have FB : Hid (Below w.heap.size w v20) := by rw [hw2]; exact FB.out.alloc FB.out.size _
            rw [← hw2, ← hbb]
            clear hbb hw2
            obtain ⟨x0_0, x0_1, x0_2, x0_3, x0_4, x0_5, x0_6, x0_7, x0_8, x0_9, x0_10, x0_11⟩ := F0.out
            obtain ⟨x1_0, x1_1, x1_2, y1_0, y1_1, y1_2⟩ := F1.out
            refine hK.out _ _ (by (try dsimp only); first | exact ⟨x0_0, x0_1, x0_2, x0_3, x0_4, x0_5, x0_6, x0_7, x0_8, x0_9, x0_10, x0_11, x1_0, x1_1, x1_2⟩ | go_keep) (fun hHeld => ?_)
            clear hK K
            try simp only [Act.put, List.getElem_toArray, List.getElem_cons_succ, List.getElem_cons_zero, List.setIfInBounds_toArray, List.set_cons_zero, List.set_cons_succ]
            refine wpAnyH_ready (rs := [7]) (by kernel_rfl) (by simp) ?_
            refine (AllReadyH.cons rfl (fun K hK => ?_) AllReadyH.nil)
            go_simp
            refine (implBookRun_any a0 a1 a2 a3 a4 _).mono ?_
            rintro e v21 ⟨rfl, hb⟩
            have F0 : Hid (HAt v21 w.heap.size a0) := F0.out.below hb F0.out.lt
            have F1 : Hid (CW v21 (w.heap.size + 1) a1) := F1.out.below hb F1.out.lt
            have FV : Hid (VBk v21 b1 (Hs.bkV a0 a1 a2 a3 a4) ) := FV.out.below hb FV.out.lt
            have FA : Hid (RBk v21 b) := FA.out.below hb FA.out.lt
            have FB : Hid (Below w.heap.size w v21) := FB.out.trans (hb.mono FB.out.size)
            clear hb
            obtain ⟨x0_0, x0_1, x0_2, x0_3, x0_4, x0_5, x0_6, x0_7, x0_8, x0_9, x0_10, x0_11⟩ := F0.out
            obtain ⟨x1_0, x1_1, x1_2, y1_0, y1_1, y1_2⟩ := F1.out
            try go_wp2_with fail
            refine hK.out _ _ (by (try dsimp only); first | exact ⟨x0_0, x0_1, x0_2, x0_3, x0_4, x0_5, x0_6, x0_7, x0_8, x0_9, x0_10, x0_11, x1_0, x1_1, x1_2⟩ | go_keep) (fun hHeld => ?_)
            clear hK K
            try simp only [Act.put, List.getElem_toArray, List.getElem_cons_succ, List.getElem_cons_zero, List.setIfInBounds_toArray, List.set_cons_zero, List.set_cons_succ]
            refine wpAnyH_ready (rs := [9]) (by kernel_rfl) (by simp) ?_
            refine (AllReadyH.cons rfl (fun K hK => ?_) AllReadyH.nil)
            have r0_ := FA.out.c0
            have s0_ := FA.out.f0
            have r1_ := FA.out.c1
            have s1_ := FA.out.f1
            have r2_ := FA.out.c2
            have s2_ := FA.out.f2
            have r3_ := FA.out.c3
            have s3_ := FA.out.f3
            have r4_ := FA.out.c4
            have s4_ := FA.out.f4
            have r5_ := FA.out.c5
            have s5_ := FA.out.f5
            have r6_ := FA.out.c6
            have s6_ := FA.out.f6
            go_simp
            refine hK.out _ _ (by (try dsimp only); first | ((repeat' apply And.intro) <;> ((repeat rw [cellS (by omega)]); assumption)) | go_keep) (fun hHeld => ?_)
            clear hK K
            try simp only [Act.put, List.getElem_toArray, List.getElem_cons_succ, List.getElem_cons_zero, List.setIfInBounds_toArray, List.set_cons_zero, List.set_cons_succ]
            refine wpAnyH_done (by kernel_rfl) ?_ _
            go_wp2_with fail
            go_meet
            case rel => exact ⟨b, rfl, FA.out.put (Hs.bkV a0 a1 a2 a3 a4) , FV.out.below (below_putBk (Below.refl _ _) (Nat.le_refl _) (Hs.bkV a0 a1 a2 a3 a4) ) n2, below_putBk FB.out (by omega) (Hs.bkV a0 a1 a2 a3 a4) ⟩
        · go_simp
          obtain ⟨b, hbb⟩ : ∃ b, b = v16.heap.size := ⟨_, rfl⟩
          obtain ⟨v22, hw2⟩ : ∃ v22, v22 = v16.alloc (.cells #[.int .i64 0, .int .i64 0, .int .i64 0, .int .i64 0, .int .i64 0, .int .i64 0, .int .i64 0] 40) := ⟨_, rfl⟩
          have n0 : w.heap.size < b := by rw [hbb]; exact F0.out.lt
          have n1 : (w.heap.size + 1) < b := by rw [hbb]; exact F1.out.lt
          have n2 : b1 < b := by rw [hbb]; exact FV.out.lt
          have FA : Hid (RBk v22 b) := by rw [hw2]; exact RBk.at_ _ _ _ hbb
          have F0 : Hid (HAt v22 w.heap.size a0) := by rw [hw2]; exact F0.out.alloc _
          have F1 : Hid (CW v22 (w.heap.size + 1) a1) := by rw [hw2]; exact F1.out.alloc _
          have FV : Hid (VBk v22 b1 (Hs.bkV a0 a1 a2 a3 a4) ) := by rw [hw2]; exact FV.out.alloc _
          have FB : Hid (Below w.heap.size w v22) := by rw [hw2]; exact FB.out.alloc FB.out.size _
          rw [← hw2, ← hbb]
          clear hbb hw2
          obtain ⟨x0_0, x0_1, x0_2, x0_3, x0_4, x0_5, x0_6, x0_7, x0_8, x0_9, x0_10, x0_11⟩ := F0.out
          obtain ⟨x1_0, x1_1, x1_2, y1_0, y1_1, y1_2⟩ := F1.out
          refine hK.out _ _ (by (try dsimp only); first | exact ⟨x0_0, x0_1, x0_2, x0_3, x0_4, x0_5, x0_6, x0_7, x0_8, x0_9, x0_10, x0_11, x1_0, x1_1, x1_2⟩ | go_keep) (fun hHeld => ?_)
          clear hK K
          try simp only [Act.put, List.getElem_toArray, List.getElem_cons_succ, List.getElem_cons_zero, List.setIfInBounds_toArray, List.set_cons_zero, List.set_cons_succ]
          refine wpAnyH_ready (rs := [3]) (by kernel_rfl) (by simp) ?_
          refine (AllReadyH.cons rfl (fun K hK => ?_) AllReadyH.nil)
          go_simp
          refine (toCar_any a1 _).mono ?_
          rintro e v23 ⟨rfl, hb⟩
          have F0 : Hid (HAt v23 w.heap.size a0) := F0.out.below hb F0.out.lt
          have F1 : Hid (CW v23 (w.heap.size + 1) a1) := F1.out.below hb F1.out.lt
          have FV : Hid (VBk v23 b1 (Hs.bkV a0 a1 a2 a3 a4) ) := FV.out.below hb FV.out.lt
          have FA : Hid (RBk v23 b) := FA.out.below hb FA.out.lt
          have FB : Hid (Below w.heap.size w v23) := FB.out.trans (hb.mono FB.out.size)
          clear hb
          obtain ⟨x0_0, x0_1, x0_2, x0_3, x0_4, x0_5, x0_6, x0_7, x0_8, x0_9, x0_10, x0_11⟩ := F0.out
          obtain ⟨x1_0, x1_1, x1_2, y1_0, y1_1, y1_2⟩ := F1.out
          try go_wp2_with fail
          refine hK.out _ _ (by (try dsimp only); first | exact ⟨x0_0, x0_1, x0_2, x0_3, x0_4, x0_5, x0_6, x0_7, x0_8, x0_9, x0_10, x0_11, x1_0, x1_1, x1_2⟩ | go_keep) (fun hHeld => ?_)
          clear hK K
          try simp only [Act.put, List.getElem_toArray, List.getElem_cons_succ, List.getElem_cons_zero, List.setIfInBounds_toArray, List.set_cons_zero, List.set_cons_succ]
          refine wpAnyH_ready (rs := [7]) (by kernel_rfl) (by simp) ?_
          refine (AllReadyH.cons rfl (fun K hK => ?_) AllReadyH.nil)
          go_simp
          refine (implBookRun_any a0 a1 a2 a3 a4 _).mono ?_
          rintro e v24 ⟨rfl, hb⟩
          have F0 : Hid (HAt v24 w.heap.size a0) := F0.out.below hb F0.out.lt
          have F1 : Hid (CW v24 (w.heap.size + 1) a1) := F1.out.below hb F1.out.lt
          have FV : Hid (VBk v24 b1 (Hs.bkV a0 a1 a2 a3 a4) ) := FV.out.below hb FV.out.lt
          have FA : Hid (RBk v24 b) := FA.out.below hb FA.out.lt
          have FB : Hid (Below w.heap.size w v24) := FB.out.trans (hb.mono FB.out.size)
          clear hb
          obtain ⟨x0_0, x0_1, x0_2, x0_3, x0_4, x0_5, x0_6, x0_7, x0_8, x0_9, x0_10, x0_11⟩ := F0.out
          obtain ⟨x1_0, x1_1, x1_2, y1_0, y1_1, y1_2⟩ := F1.out
          try go_wp2_with fail
          refine hK.out _ _ (by (try dsimp only); first | exact ⟨x0_0, x0_1, x0_2, x0_3, x0_4, x0_5, x0_6, x0_7, x0_8, x0_9, x0_10, x0_11, x1_0, x1_1, x1_2⟩ | go_keep) (fun hHeld => ?_)
          clear hK K
          try simp only [Act.put, List.getElem_toArray, List.getElem_cons_succ, List.getElem_cons_zero, List.setIfInBounds_toArray, List.set_cons_zero, List.set_cons_succ]
          refine wpAnyH_ready (rs := [9]) (by kernel_rfl) (by simp) ?_
          refine (AllReadyH.cons rfl (fun K hK => ?_) AllReadyH.nil)
          have r0_ := FA.out.c0
          have s0_ := FA.out.f0
          have r1_ := FA.out.c1
          have s1_ := FA.out.f1
          have r2_ := FA.out.c2
          have s2_ := FA.out.f2
          have r3_ := FA.out.c3
          have s3_ := FA.out.f3
          have r4_ := FA.out.c4
          have s4_ := FA.out.f4
          have r5_ := FA.out.c5
          have s5_ := FA.out.f5
          have r6_ := FA.out.c6
          have s6_ := FA.out.f6
          go_simp
          refine hK.out _ _ (by (try dsimp only); first | ((repeat' apply And.intro) <;> ((repeat rw [cellS (by omega)]); assumption)) | go_keep) (fun hHeld => ?_)
          clear hK K
          try simp only [Act.put, List.getElem_toArray, List.getElem_cons_succ, List.getElem_cons_zero, List.setIfInBounds_toArray, List.set_cons_zero, List.set_cons_succ]
          refine wpAnyH_done (by kernel_rfl) ?_ _
          go_wp2_with fail
          go_meet
          case rel => exact ⟨b, rfl, FA.out.put (Hs.bkV a0 a1 a2 a3 a4) , FV.out.below (below_putBk (Below.refl _ _) (Nat.le_refl _) (Hs.bkV a0 a1 a2 a3 a4) ) n2, below_putBk FB.out (by omega) (Hs.bkV a0 a1 a2 a3 a4) ⟩
      · go_simp
        obtain ⟨b, hbb⟩ : ∃ b, b = v15.heap.size := ⟨_, rfl⟩
        obtain ⟨v25, hw2⟩ : ∃ v25, v25 = v15.alloc (.cells #[.int .i64 0, .int .i64 0, .int .i64 0, .int .i64 0, .int .i64 0, .int .i64 0, .int .i64 0] 40) := ⟨_, rfl⟩
        have n0 : w.heap.size < b := by rw [hbb]; exact F0.out.lt
        have n1 : (w.heap.size + 1) < b := by rw [hbb]; exact F1.out.lt
        have n2 : b1 < b := by rw [hbb]; exact FV.out.lt
        have FA : Hid (RBk v25 b) := by rw [hw2]; exact RBk.at_ _ _ _ hbb
        have F0 : Hid (HAt v25 w.heap.size a0) := by rw [hw2]; exact F0.out.alloc _
        have F1 : Hid (CW v25 (w.heap.size + 1) a1) := by rw [hw2]; exact F1.out.alloc _
        have FV : Hid (VBk v25 b1 (Hs.bkV a0 a1 a2 a3 a4) ) := by rw [hw2]; exact FV.out.alloc _
        have FB : Hid (Below w.heap.size w v25) := by rw [hw2]; exact FB.out.alloc FB.out.size _
        rw [← hw2, ← hbb]
        clear hbb hw2
        obtain ⟨x0_0, x0_1, x0_2, x0_3, x0_4, x0_5, x0_6, x0_7, x0_8, x0_9, x0_10, x0_11⟩ := F0.out
        obtain ⟨x1_0, x1_1, x1_2, y1_0, y1_1, y1_2⟩ := F1.out
        refine hK.out _ _ (by (try dsimp only); first | exact ⟨x0_0, x0_1, x0_2, x0_3, x0_4, x0_5, x0_6, x0_7, x0_8, x0_9, x0_10, x0_11, x1_0, x1_1, x1_2⟩ | go_keep) (fun hHeld => ?_)
        clear hK K
        try simp only [Act.put, List.getElem_toArray, List.getElem_cons_succ, List.getElem_cons_zero, List.setIfInBounds_toArray, List.set_cons_zero, List.set_cons_succ]
        refine wpAnyH_ready (rs := [1]) (by kernel_rfl) (by simp) ?_
        refine (AllReadyH.cons rfl (fun K hK => ?_) AllReadyH.nil)
        go_simp
        refine (toHouse_any a0 _).mono ?_
        rintro e v26 ⟨rfl, hb⟩
        have F0 : Hid (HAt v26 w.heap.size a0) := F0.out.below hb F0.out.lt
        have F1 : Hid (CW v26 (w.heap.size + 1) a1) := F1.out.below hb F1.out.lt
        have FV : Hid (VBk v26 b1 (Hs.bkV a0 a1 a2 a3 a4) ) := FV.out.below hb FV.out.lt
        have FA : Hid (RBk v26 b) := FA.out.below hb FA.out.lt
        have FB : Hid (Below w.heap.size w v26) := FB.out.trans (hb.mono FB.out.size)
        clear hb
        obtain ⟨x0_0, x0_1, x0_2, x0_3, x0_4, x0_5, x0_6, x0_7, x0_8, x0_9, x0_10, x0_11⟩ := F0.out
        obtain ⟨x1_0, x1_1, x1_2, y1_0, y1_1, y1_2⟩ := F1.out
        try go_wp2_with fail
        refine hK.out _ _ (by (try dsimp only); first | exact ⟨x0_0, x0_1, x0_2, x0_3, x0_4, x0_5, x0_6, x0_7, x0_8, x0_9, x0_10, x0_11, x1_0, x1_1, x1_2⟩ | go_keep) (fun hHeld => ?_)
        clear hK K
        try simp only [Act.put, List.getElem_toArray, List.getElem_cons_succ, List.getElem_cons_zero, List.setIfInBounds_toArray, List.set_cons_zero, List.set_cons_succ]
        refine wpAnyH_ready (rs := [3]) (by kernel_rfl) (by simp) ?_
        refine (AllReadyH.cons rfl (fun K hK => ?_) AllReadyH.nil)
        go_simp
        refine (toCar_any a1 _).mono ?_
        rintro e v27 ⟨rfl, hb⟩
        have F0 : Hid (HAt v27 w.heap.size a0) := F0.out.below hb F0.out.lt
        have F1 : Hid (CW v27 (w.heap.size + 1) a1) := F1.out.below hb F1.out.lt
        have FV : Hid (VBk v27 b1 (Hs.bkV a0 a1 a2 a3 a4) ) := FV.out.below hb FV.out.lt
        have FA : Hid (RBk v27 b) := FA.out.below hb FA.out.lt
        have FB : Hid (Below w.heap.size w v27) := FB.out.trans (hb.mono FB.out.size)
        clear hb
        obtain ⟨x0_0, x0_1, x0_2, x0_3, x0_4, x0_5, x0_6, x0_7, x0_8, x0_9, x0_10, x0_11⟩ := F0.out
        obtain ⟨x1_0, x1_1, x1_2, y1_0, y1_1, y1_2⟩ := F1.out
        try go_wp2_with fail
        refine hK.out _ _ (by (try dsimp only); first | exact ⟨x0_0, x0_1, x0_2, x0_3, x0_4, x0_5, x0_6, x0_7, x0_8, x0_9, x0_10, x0_11, x1_0, x1_1, x1_2⟩ | go_keep) (fun hHeld => ?_)
        clear hK K
        try simp only [Act.put, List.getElem_toArray, List.getElem_cons_succ, List.getElem_cons_zero, List.setIfInBounds_toArray, List.set_cons_zero, List.set_cons_succ]
        refine wpAnyH_ready (rs := [7]) (by kernel_rfl) (by simp) ?_
        refine (AllReadyH.cons rfl (fun K hK => ?_) AllReadyH.nil)
        go_simp
        refine (implBookRun_any a0 a1 a2 a3 a4 _).mono ?_
        rintro e v28 ⟨rfl, hb⟩
        have F0 : Hid (HAt v28 w.heap.size a0) := F0.out.below hb F0.out.lt
        have F1 : Hid (CW v28 (w.heap.size + 1) a1) := F1.out.below hb F1.out.lt
        have FV : Hid (VBk v28 b1 (Hs.bkV a0 a1 a2 a3 a4) ) := FV.out.below hb FV.out.lt
        have FA : Hid (RBk v28 b) := FA.out.below hb FA.out.lt
        have FB : Hid (Below w.heap.size w v28) := FB.out.trans (hb.mono FB.out.size)
        clear hb
        obtain ⟨x0_0, x0_1, x0_2, x0_3, x0_4, x0_5, x0_6, x0_7, x0_8, x0_9, x0_10, x0_11⟩ := F0.out
        obtain ⟨x1_0, x1_1, x1_2, y1_0, y1_1, y1_2⟩ := F1.out
        try go_wp2_with fail
        refine hK.out _ _ (by (try dsimp only); first | exact ⟨x0_0, x0_1, x0_2, x0_3, x0_4, x0_5, x0_6, x0_7, x0_8, x0_9, x0_10, x0_11, x1_0, x1_1, x1_2⟩ | go_keep) (fun hHeld => ?_)
        clear hK K
        try simp only [Act.put, List.getElem_toArray, List.getElem_cons_succ, List.getElem_cons_zero, List.setIfInBounds_toArray, List.set_cons_zero, List.set_cons_succ]
        refine wpAnyH_ready (rs := [9]) (by kernel_rfl) (by simp) ?_
        refine (AllReadyH.cons rfl (fun K hK => ?_) AllReadyH.nil)
        have r0_ := FA.out.c0
        have s0_ := FA.out.f0
        have r1_ := FA.out.c1
        have s1_ := FA.out.f1
        have r2_ := FA.out.c2
        have s2_ := FA.out.f2
        have r3_ := FA.out.c3
        have s3_ := FA.out.f3
        have r4_ := FA.out.c4
        have s4_ := FA.out.f4
        have r5_ := FA.out.c5
        have s5_ := FA.out.f5
        have r6_ := FA.out.c6
        have s6_ := FA.out.f6
        go_simp
        refine hK.out _ _ (by (try dsimp only); first | ((repeat' apply And.intro) <;> ((repeat rw [cellS (by omega)]); assumption)) | go_keep) (fun hHeld => ?_)
        clear hK K
        try simp only [Act.put, List.getElem_toArray, List.getElem_cons_succ, List.getElem_cons_zero, List.setIfInBounds_toArray, List.set_cons_zero, List.set_cons_succ]
        refine wpAnyH_done (by kernel_rfl) ?_ _
        go_wp2_with fail
        go_meet
        case rel => exact ⟨b, rfl, FA.out.put (Hs.bkV a0 a1 a2 a3 a4) , FV.out.below (below_putBk (Below.refl _ _) (Nat.le_refl _) (Hs.bkV a0 a1 a2 a3 a4) ) n2, below_putBk FB.out (by omega) (Hs.bkV a0 a1 a2 a3 a4) ⟩
    case rest =>
      obtain ⟨b2, rfl, hg, hv, hB⟩ := hcut
      have FB : Hid (Below w.heap.size w wc) := hB
      clear hB
      obtain ⟨g0, g1, g2, g3, g4, g5, g6⟩ := hg
      obtain ⟨u0_, u1_, u2_, u3_, u4_, u5_, u6_⟩ := hv
      go_wp2_with (go_at_call 24; refine (eqBook_same (Hs.bkV a0 a1 a2 a3 a4) _).mono ?_; rintro e w9 ⟨rfl, hb⟩; have FB : Hid (Below w.heap.size w w9) := FB.out.trans (hb.mono FB.out.size); clear hb)
      go_ret
      exact ⟨rfl, FB.out⟩

set_option maxRecDepth 100000 in
theorem lifted (os : Os) (started : os.Started) (H : Type) (enc : TypeId × Value → H) :
    ReturnsInHanded {} Try.checked os 8 .any (Rows.fnExactBookRunSpec.pre6 enc Try.prog Try.f8 Rows.fnExactBookRunRow.domain false) (Rows.fnExactBookRunSpec.post enc Try.prog Try.f8 false true false false) := by
  refine returnsInHanded_of_change (C := Try.checked) own started (by kernel_rfl) Try.func8
    (ChangeSpec.witness6 (enc := enc) (C := Try.checked) false ⟨#[], #[.agg #[.int .i64 0, .int .i64 0, .int .i64 0, .int .i64 0, .int .i64 0, .int .i64 0, .int .i64 0, .int .i64 0, .int .i64 0, .int .i64 0, .int .i64 0, .int .i64 0], .agg #[.int .i64 0, .int .i64 0, .int .i64 0], .int .i64 0, .int .i64 0, .int .i64 0], []⟩ 8 (by kernel_rfl) (by kernel_rfl) (by kernel_rfl) (by kernel_rfl)) ?_
  intro W base args ds gs before hval0 hW hcnd _
  have hval : ∀ (j : Nat) t v, Try.f8.params[j]? = some t → args[j]? = some v → Value.okWide Try.prog W .any base t v := hval0
  have hW' := hW
  obtain ⟨p, q, hA0, hV, rfl, hfz, hnd⟩ := hW
  have hA : DataW.TrodAll enc Try.prog W 0 (fun _ => true) true Try.f8.params.toList args.toList ds p := hA0
  rw [Try.params8] at hA hval
  obtain ⟨v0, vs0, d0, ds0, p0, q0, hargs, rfl, rfl, h0, r0⟩ := trodAll_cons hA
  obtain ⟨v1, vs1, d1, ds1, p1, q1, rfl, rfl, rfl, h1, r1⟩ := trodAll_cons r0
  obtain ⟨v2, vs2, d2, ds2, p2, q2, rfl, rfl, rfl, h2, r2⟩ := trodAll_cons r1
  obtain ⟨v3, vs3, d3, ds3, p3, q3, rfl, rfl, rfl, h3, r3⟩ := trodAll_cons r2
  obtain ⟨v4, vs4, d4, ds4, p4, q4, rfl, rfl, rfl, h4, r4⟩ := trodAll_cons r3
  obtain ⟨rfl, rfl, rfl⟩ := trodAll_nil r4
  obtain rfl : args = #[v0, v1, v2, v3, v4] := by cases args; simp_all
  obtain ⟨rfl, rfl⟩ := trodVars_none hV
  have k0 := h0
  have lt0 : ∀ x ∈ p0, x.block < W.heap.size := by obtain ⟨m, hm⟩ := k0; exact DataW.trod_lt m _ _ _ hm
  obtain ⟨xs0, hl0, rfl, w0⟩ := open_i64s Try.underlying23 Try.underlying2 (by kernel_rfl) (by kernel_rfl) (by kernel_rfl) (hval 0 23 v0 rfl rfl) h0
  obtain ⟨x0_0, x0_1, x0_2, x0_3, x0_4, x0_5, x0_6, x0_7, x0_8, x0_9, x0_10, x0_11, rfl⟩ := list12 hl0
  have k1 := h1
  have lt1 : ∀ x ∈ p1, x.block < W.heap.size := by obtain ⟨m, hm⟩ := k1; exact DataW.trod_lt m _ _ _ hm
  obtain ⟨xs1, hl1, rfl, w1⟩ := open_i64s Try.underlying32 Try.underlying2 (by kernel_rfl) (by kernel_rfl) (by kernel_rfl) (hval 1 32 v1 rfl rfl) h1
  obtain ⟨x1_0, x1_1, x1_2, rfl⟩ := list3 hl1
  have k2 := h2
  have lt2 : ∀ x ∈ p2, x.block < W.heap.size := by obtain ⟨m, hm⟩ := k2; exact DataW.trod_lt m _ _ _ hm
  obtain ⟨a2, rfl, _, _, w2⟩ := open_int Try.underlying2 (hval 2 2 v2 rfl rfl) h2
  have k3 := h3
  have lt3 : ∀ x ∈ p3, x.block < W.heap.size := by obtain ⟨m, hm⟩ := k3; exact DataW.trod_lt m _ _ _ hm
  obtain ⟨a3, rfl, _, _, w3⟩ := open_int Try.underlying2 (hval 3 2 v3 rfl rfl) h3
  have k4 := h4
  have lt4 : ∀ x ∈ p4, x.block < W.heap.size := by obtain ⟨m, hm⟩ := k4; exact DataW.trod_lt m _ _ _ hm
  obtain ⟨a4, rfl, _, _, w4⟩ := open_int Try.underlying2 (hval 4 2 v4 rfl rfl) h4
  clear hA0 hval0
  refine (walk ⟨x0_0, x0_1, x0_2, x0_3, x0_4, x0_5, x0_6, x0_7, x0_8, x0_9, x0_10, x0_11⟩ ⟨x1_0, x1_1, x1_2⟩ a2 a3 a4 w0 w1 w2 w3 w4 W).mono fun e W' ⟨he, bel⟩ => ?_
  subst he
  exact ⟨_, rfl, _, _, _, [], _, [], hW', trodAll_mk1 (shut_bool Try.underlying4 _), (trodAll_cons_mk (Below.trod laidOut (by kernel_rfl) (of_decide_eq_true (by kernel_rfl)) k0 bel lt0) (trodAll_cons_mk (Below.trod laidOut (by kernel_rfl) (of_decide_eq_true (by kernel_rfl)) k1 bel lt1) (trodAll_cons_mk (Below.trod laidOut (by kernel_rfl) (of_decide_eq_true (by kernel_rfl)) k2 bel lt2) (trodAll_cons_mk (Below.trod laidOut (by kernel_rfl) (of_decide_eq_true (by kernel_rfl)) k3 bel lt3) (trodAll_cons_mk (Below.trod laidOut (by kernel_rfl) (of_decide_eq_true (by kernel_rfl)) k4 bel lt4) trodAll_mk0))))), rfl, bel.frame _, fun h => by cases h⟩

theorem over : Rows.fnExactBookRunRow.holds Try.pinned (OpenSpec.ofChange Rows.fnExactBookRunSpec) :=
  OpenClaim.holds_of_wide 8 Try.f8 rfl rfl rfl rfl rfl rfl rfl ⟨rfl, rfl, rfl, rfl, rfl⟩ rfl rfl rfl rfl rfl (by kernel_rfl) Try.func8 (by kernel_rfl)
    (of_decide_eq_true (by kernel_rfl)) (by unfold Func.isWrapper; first | (rw [if_pos (by decide +kernel)]; kernel_rfl) | (rw [if_neg (by decide +kernel)]; exact ⟨rfl, rfl⟩))
    (fun os started H enc _ => lifted os started H enc)

theorem proved : Rows.FnExactBookRunSaid := over
end Go.Proofs.Ytngdfckknkgdgaa.fnExactBookRun

namespace Go.Proofs.Ytngdfckknkgdgaa
theorem fnExactBookRun_holds : Rows.FnExactBookRunSaid := fnExactBookRun.proved
#print axioms fnExactBookRun_holds
end Go.Proofs.Ytngdfckknkgdgaa
