/-
  BookStep answers as the model at every argument, with no condition: its code, its book and its car; nothing that came in is changed, and the answer is new memory.
-/
import Derived.Test.YtngdfckknkgdgaaRows
import Derived.WalkKit
import Derived.ProofKit
import Derived.OpenShut
import Derived.ChangeOld
import Derived.Below
import Derived.Test.YtngdfckknkgdgaaEnI
import Derived.Test.YtngdfckknkgdgaaEnC
import Derived.Test.YtngdfckknkgdgaaEnK
import Derived.Test.YtngdfckknkgdgaaCarT
import Derived.Test.YtngdfckknkgdgaaFnd
namespace Go.Proofs.Ytngdfckknkgdgaa.fnExactBookStep
open Go.ChangeShapes Go.WideShapes Go.ChangeAt Go.RowKit
set_option linter.unusedVariables false
set_option linter.unusedSimpArgs false

theorem own : ownKnob Try.prog.godebug = none := by kernel_rfl
theorem laidOut : laidOutB Try.prog = true := by kernel_rfl

set_option maxRecDepth 20000 in
set_option maxHeartbeats 32000000 in
theorem walk (a0 : Pl.Hs) (a1 : Pl.Cs) (a2 : Pl.Cm) (a3 : Int) (a4 : Int) (w0 : ∀ x ∈ [a0.fl, a0.gp, a0.ln, a0.rf, a0.sp, a0.pu, a0.br, a0.dr, a0.lv, a0.dO, a0.ld, a0.qu], (Lit.int .i64 x).wf = true) (w1 : ∀ x ∈ [a1.pos, a1.vel, a1.door], (Lit.int .i64 x).wf = true) (w2 : (Lit.int .i64 a2.push).wf = true) (w3 : (Lit.int .i64 a3).wf = true) (w4 : (Lit.int .i64 a4).wf = true) (w : World) :
    Calls Try.prog 7 #[.agg #[.int .i64 a0.fl, .int .i64 a0.gp, .int .i64 a0.ln, .int .i64 a0.rf, .int .i64 a0.sp, .int .i64 a0.pu, .int .i64 a0.br, .int .i64 a0.dr, .int .i64 a0.lv, .int .i64 a0.dO, .int .i64 a0.ld, .int .i64 a0.qu], .agg #[.int .i64 a1.pos, .int .i64 a1.vel, .int .i64 a1.door], .agg #[.int .i64 a2.push, .bool a2.brk, .bool a2.opn], .int .i64 a3, .int .i64 a4] w fun e w' => e = .returned (.bool true) ∧ Below w.heap.size w w' := by
  obtain ⟨W0, hW0⟩ : ∃ W0, W0 = (((w.alloc (.cells #[.int .i64 a0.fl, .int .i64 a0.gp, .int .i64 a0.ln, .int .i64 a0.rf, .int .i64 a0.sp, .int .i64 a0.pu, .int .i64 a0.br, .int .i64 a0.dr, .int .i64 a0.lv, .int .i64 a0.dO, .int .i64 a0.ld, .int .i64 a0.qu] 23)).alloc (.cells #[.int .i64 a1.pos, .int .i64 a1.vel, .int .i64 a1.door] 32)).alloc (.cells #[.int .i64 a2.push, .bool a2.brk, .bool a2.opn] 38)) := ⟨_, rfl⟩
  have F0 : Hid (HAt W0 w.heap.size a0) := by rw [hW0]; exact ((HAt.at_ w a0 _ _ (by simp)).alloc _).alloc _
  have F1 : Hid (CW W0 (w.heap.size + 1) a1) := by rw [hW0]; exact (CW.at_ (w.alloc (.cells #[.int .i64 a0.fl, .int .i64 a0.gp, .int .i64 a0.ln, .int .i64 a0.rf, .int .i64 a0.sp, .int .i64 a0.pu, .int .i64 a0.br, .int .i64 a0.dr, .int .i64 a0.lv, .int .i64 a0.dO, .int .i64 a0.ld, .int .i64 a0.qu] 23)) a1 _ _ (by simp)).alloc _
  have F2 : Hid (XW W0 (w.heap.size + 2) a2) := by rw [hW0]; exact XW.at_ ((w.alloc (.cells #[.int .i64 a0.fl, .int .i64 a0.gp, .int .i64 a0.ln, .int .i64 a0.rf, .int .i64 a0.sp, .int .i64 a0.pu, .int .i64 a0.br, .int .i64 a0.dr, .int .i64 a0.lv, .int .i64 a0.dO, .int .i64 a0.ld, .int .i64 a0.qu] 23)).alloc (.cells #[.int .i64 a1.pos, .int .i64 a1.vel, .int .i64 a1.door] 32)) a2 _ _ (by simp)
  have FB : Hid (Below w.heap.size w W0) := by rw [hW0]; exact ((((Below.refl _ _).alloc (Nat.le_refl _) _).alloc (by simp <;> omega) _).alloc (by simp <;> omega) _)
  have HW0 : Hid (W0 = (((w.alloc (.cells #[.int .i64 a0.fl, .int .i64 a0.gp, .int .i64 a0.ln, .int .i64 a0.rf, .int .i64 a0.sp, .int .i64 a0.pu, .int .i64 a0.br, .int .i64 a0.dr, .int .i64 a0.lv, .int .i64 a0.dO, .int .i64 a0.ld, .int .i64 a0.qu] 23)).alloc (.cells #[.int .i64 a1.pos, .int .i64 a1.vel, .int .i64 a1.door] 32)).alloc (.cells #[.int .i64 a2.push, .bool a2.brk, .bool a2.opn] 38))) := hW0
  clear hW0
  go_enter Try.func7, Try.ntmps7
  go_wp2_with fail
  rw [← HW0.out]
  clear HW0
  go_cut [11] (fun p wx => ∃ b, p = .pointer (some ⟨b, 0, none⟩) ∧ VBk wx b (Hs.bkA a0 a1 a2 a3 a4)  ∧ HAt wx w.heap.size a0 ∧ CW wx (w.heap.size + 1) a1 ∧ XW wx (w.heap.size + 2) a2 ∧ Below w.heap.size w wx)
  case first =>
    have F0 : Hid (HAt W0.drew w.heap.size a0) := F0.out.below (Below.refl _ _).drew F0.out.lt
    have F1 : Hid (CW W0.drew (w.heap.size + 1) a1) := F1.out.below (Below.refl _ _).drew F1.out.lt
    have F2 : Hid (XW W0.drew (w.heap.size + 2) a2) := F2.out.below (Below.refl _ _).drew F2.out.lt
    have FB : Hid (Below w.heap.size w W0.drew) := FB.out.drew
    obtain ⟨x0_0, x0_1, x0_2, x0_3, x0_4, x0_5, x0_6, x0_7, x0_8, x0_9, x0_10, x0_11⟩ := F0.out
    obtain ⟨x1_0, x1_1, x1_2, y1_0, y1_1, y1_2⟩ := F1.out
    obtain ⟨x2_0, x2_1, x2_2, y2_0, y2_1, y2_2⟩ := F2.out
    refine wp_region_held_drew (S := (fun w'' => w''.cell? ⟨w.heap.size, 0, none⟩ = some (.int .i64 a0.fl) ∧ w''.cell? ⟨w.heap.size, 1, none⟩ = some (.int .i64 a0.gp) ∧ w''.cell? ⟨w.heap.size, 2, none⟩ = some (.int .i64 a0.ln) ∧ w''.cell? ⟨w.heap.size, 3, none⟩ = some (.int .i64 a0.rf) ∧ w''.cell? ⟨w.heap.size, 4, none⟩ = some (.int .i64 a0.sp) ∧ w''.cell? ⟨w.heap.size, 5, none⟩ = some (.int .i64 a0.pu) ∧ w''.cell? ⟨w.heap.size, 6, none⟩ = some (.int .i64 a0.br) ∧ w''.cell? ⟨w.heap.size, 7, none⟩ = some (.int .i64 a0.dr) ∧ w''.cell? ⟨w.heap.size, 8, none⟩ = some (.int .i64 a0.lv) ∧ w''.cell? ⟨w.heap.size, 9, none⟩ = some (.int .i64 a0.dO) ∧ w''.cell? ⟨w.heap.size, 10, none⟩ = some (.int .i64 a0.ld) ∧ w''.cell? ⟨w.heap.size, 11, none⟩ = some (.int .i64 a0.qu) ∧ w''.cell? ⟨(w.heap.size + 1), 0, none⟩ = some (.int .i64 a1.pos) ∧ w''.cell? ⟨(w.heap.size + 1), 1, none⟩ = some (.int .i64 a1.vel) ∧ w''.cell? ⟨(w.heap.size + 1), 2, none⟩ = some (.int .i64 a1.door) ∧ w''.cell? ⟨(w.heap.size + 2), 0, none⟩ = some (.int .i64 a2.push) ∧ w''.cell? ⟨(w.heap.size + 2), 1, none⟩ = some (.bool a2.brk) ∧ w''.cell? ⟨(w.heap.size + 2), 2, none⟩ = some (.bool a2.opn))) (by kernel_rfl) (by (try dsimp only); first | exact ⟨x0_0, x0_1, x0_2, x0_3, x0_4, x0_5, x0_6, x0_7, x0_8, x0_9, x0_10, x0_11, x1_0, x1_1, x1_2, x2_0, x2_1, x2_2⟩ | go_keep) (fun hHeld => ?_)
    obtain ⟨v1, hw1⟩ : ∃ v1, v1 = W0.drew := ⟨_, rfl⟩
    have F0 : Hid (HAt v1 w.heap.size a0) := by rw [hw1]; exact F0.out
    have F1 : Hid (CW v1 (w.heap.size + 1) a1) := by rw [hw1]; exact F1.out
    have F2 : Hid (XW v1 (w.heap.size + 2) a2) := by rw [hw1]; exact F2.out
    have FB : Hid (Below w.heap.size w v1) := by rw [hw1]; exact FB.out
    rw [← hw1] at hHeld ⊢
    clear hw1
    obtain ⟨x0_0, x0_1, x0_2, x0_3, x0_4, x0_5, x0_6, x0_7, x0_8, x0_9, x0_10, x0_11⟩ := F0.out
    obtain ⟨x1_0, x1_1, x1_2, y1_0, y1_1, y1_2⟩ := F1.out
    obtain ⟨x2_0, x2_1, x2_2, y2_0, y2_1, y2_2⟩ := F2.out
    refine wpAnyH_take (i := 0) (v := _) rfl (by kernel_rfl) (by kernel_rfl) (by kernel_rfl) (fun _ _ _ h => h) (Or.inl ⟨by kernel_rfl, by (intro wx hSw; (try dsimp only at hSw); go_simp <;> with_reducible rfl)⟩) (by assumption) ?_
    try simp only [Act.put, List.getElem_toArray, List.getElem_cons_succ, List.getElem_cons_zero, List.setIfInBounds_toArray, List.set_cons_zero, List.set_cons_succ]
    refine wpAnyH_take (i := 2) (v := _) rfl (by kernel_rfl) (by kernel_rfl) (by kernel_rfl) (fun _ _ _ h => h) (Or.inl ⟨by kernel_rfl, by (intro wx hSw; (try dsimp only at hSw); go_simp <;> with_reducible rfl)⟩) (by assumption) ?_
    try simp only [Act.put, List.getElem_toArray, List.getElem_cons_succ, List.getElem_cons_zero, List.setIfInBounds_toArray, List.set_cons_zero, List.set_cons_succ]
    refine wpAnyH_take (i := 4) (v := _) rfl (by kernel_rfl) (by kernel_rfl) (by kernel_rfl) (fun _ _ _ h => h) (Or.inl ⟨by kernel_rfl, by (intro wx hSw; (try dsimp only at hSw); go_simp <;> with_reducible rfl)⟩) (by assumption) ?_
    try simp only [Act.put, List.getElem_toArray, List.getElem_cons_succ, List.getElem_cons_zero, List.setIfInBounds_toArray, List.set_cons_zero, List.set_cons_succ]
    refine wpAnyH_take (i := 6) (v := _) rfl (by kernel_rfl) (by kernel_rfl) (by kernel_rfl) (fun _ _ _ h => h) (Or.inl ⟨by kernel_rfl, by (intro wx hSw; (try dsimp only at hSw); go_simp <;> with_reducible rfl)⟩) (by assumption) ?_
    try simp only [Act.put, List.getElem_toArray, List.getElem_cons_succ, List.getElem_cons_zero, List.setIfInBounds_toArray, List.set_cons_zero, List.set_cons_succ]
    refine wpAnyH_take (i := 7) (v := _) rfl (by kernel_rfl) (by kernel_rfl) (by kernel_rfl) (fun _ _ _ h => h) (Or.inl ⟨by kernel_rfl, by (intro wx hSw; (try dsimp only at hSw); go_simp <;> with_reducible rfl)⟩) (by assumption) ?_
    try simp only [Act.put, List.getElem_toArray, List.getElem_cons_succ, List.getElem_cons_zero, List.setIfInBounds_toArray, List.set_cons_zero, List.set_cons_succ]
    refine wpAnyH_ready (rs := [1, 9]) (by kernel_rfl) (by simp) ?_
    refine (AllReadyH.cons rfl (fun K hK => ?_) (AllReadyH.cons rfl (fun K hK => ?_) AllReadyH.nil))
    · go_simp
      refine (toHouse_any a0 _).mono ?_
      rintro e v2 ⟨rfl, hb⟩
      have F0 : Hid (HAt v2 w.heap.size a0) := F0.out.below hb F0.out.lt
      have F1 : Hid (CW v2 (w.heap.size + 1) a1) := F1.out.below hb F1.out.lt
      have F2 : Hid (XW v2 (w.heap.size + 2) a2) := F2.out.below hb F2.out.lt
      have FB : Hid (Below w.heap.size w v2) := FB.out.trans (hb.mono FB.out.size)
      clear hb
      obtain ⟨x0_0, x0_1, x0_2, x0_3, x0_4, x0_5, x0_6, x0_7, x0_8, x0_9, x0_10, x0_11⟩ := F0.out
      obtain ⟨x1_0, x1_1, x1_2, y1_0, y1_1, y1_2⟩ := F1.out
      obtain ⟨x2_0, x2_1, x2_2, y2_0, y2_1, y2_2⟩ := F2.out
      try go_wp2_with fail
      refine hK.out _ _ (by (try dsimp only); first | exact ⟨x0_0, x0_1, x0_2, x0_3, x0_4, x0_5, x0_6, x0_7, x0_8, x0_9, x0_10, x0_11, x1_0, x1_1, x1_2, x2_0, x2_1, x2_2⟩ | go_keep) (fun hHeld => ?_)
      clear hK K
      try simp only [Act.put, List.getElem_toArray, List.getElem_cons_succ, List.getElem_cons_zero, List.setIfInBounds_toArray, List.set_cons_zero, List.set_cons_succ]
      refine wpAnyH_ready (rs := [3, 9]) (by kernel_rfl) (by simp) ?_
      refine (AllReadyH.cons rfl (fun K hK => ?_) (AllReadyH.cons rfl (fun K hK => ?_) AllReadyH.nil))
      · go_simp
        refine (toCar_any a1 _).mono ?_
        rintro e v3 ⟨rfl, hb⟩
        have F0 : Hid (HAt v3 w.heap.size a0) := F0.out.below hb F0.out.lt
        have F1 : Hid (CW v3 (w.heap.size + 1) a1) := F1.out.below hb F1.out.lt
        have F2 : Hid (XW v3 (w.heap.size + 2) a2) := F2.out.below hb F2.out.lt
        have FB : Hid (Below w.heap.size w v3) := FB.out.trans (hb.mono FB.out.size)
        clear hb
        obtain ⟨x0_0, x0_1, x0_2, x0_3, x0_4, x0_5, x0_6, x0_7, x0_8, x0_9, x0_10, x0_11⟩ := F0.out
        obtain ⟨x1_0, x1_1, x1_2, y1_0, y1_1, y1_2⟩ := F1.out
        obtain ⟨x2_0, x2_1, x2_2, y2_0, y2_1, y2_2⟩ := F2.out
        try go_wp2_with fail
        refine hK.out _ _ (by (try dsimp only); first | exact ⟨x0_0, x0_1, x0_2, x0_3, x0_4, x0_5, x0_6, x0_7, x0_8, x0_9, x0_10, x0_11, x1_0, x1_1, x1_2, x2_0, x2_1, x2_2⟩ | go_keep) (fun hHeld => ?_)
        clear hK K
        try simp only [Act.put, List.getElem_toArray, List.getElem_cons_succ, List.getElem_cons_zero, List.setIfInBounds_toArray, List.set_cons_zero, List.set_cons_succ]
        refine wpAnyH_ready (rs := [5, 9]) (by kernel_rfl) (by simp) ?_
        refine (AllReadyH.cons rfl (fun K hK => ?_) (AllReadyH.cons rfl (fun K hK => ?_) AllReadyH.nil))
        · go_simp
          refine (toCommand_any a2 _).mono ?_
          rintro e v4 ⟨rfl, hb⟩
          have F0 : Hid (HAt v4 w.heap.size a0) := F0.out.below hb F0.out.lt
          have F1 : Hid (CW v4 (w.heap.size + 1) a1) := F1.out.below hb F1.out.lt
          have F2 : Hid (XW v4 (w.heap.size + 2) a2) := F2.out.below hb F2.out.lt
          have FB : Hid (Below w.heap.size w v4) := FB.out.trans (hb.mono FB.out.size)
          clear hb
          obtain ⟨x0_0, x0_1, x0_2, x0_3, x0_4, x0_5, x0_6, x0_7, x0_8, x0_9, x0_10, x0_11⟩ := F0.out
          obtain ⟨x1_0, x1_1, x1_2, y1_0, y1_1, y1_2⟩ := F1.out
          obtain ⟨x2_0, x2_1, x2_2, y2_0, y2_1, y2_2⟩ := F2.out
          try go_wp2_with fail
          refine hK.out _ _ (by (try dsimp only); first | exact ⟨x0_0, x0_1, x0_2, x0_3, x0_4, x0_5, x0_6, x0_7, x0_8, x0_9, x0_10, x0_11, x1_0, x1_1, x1_2, x2_0, x2_1, x2_2⟩ | go_keep) (fun hHeld => ?_)
          clear hK K
          try simp only [Act.put, List.getElem_toArray, List.getElem_cons_succ, List.getElem_cons_zero, List.setIfInBounds_toArray, List.set_cons_zero, List.set_cons_succ]
          refine wpAnyH_ready (rs := [8, 9]) (by kernel_rfl) (by simp) ?_
          refine (AllReadyH.cons rfl (fun K hK => ?_) (AllReadyH.cons rfl (fun K hK => ?_) AllReadyH.nil))
          · go_simp
            refine (specBookStep_any a0 a1 a2 a3 a4 _).mono ?_
            rintro e v5 ⟨rfl, hb⟩
            have F0 : Hid (HAt v5 w.heap.size a0) := F0.out.below hb F0.out.lt
            have F1 : Hid (CW v5 (w.heap.size + 1) a1) := F1.out.below hb F1.out.lt
            have F2 : Hid (XW v5 (w.heap.size + 2) a2) := F2.out.below hb F2.out.lt
            have FB : Hid (Below w.heap.size w v5) := FB.out.trans (hb.mono FB.out.size)
            clear hb
            obtain ⟨x0_0, x0_1, x0_2, x0_3, x0_4, x0_5, x0_6, x0_7, x0_8, x0_9, x0_10, x0_11⟩ := F0.out
            obtain ⟨x1_0, x1_1, x1_2, y1_0, y1_1, y1_2⟩ := F1.out
            obtain ⟨x2_0, x2_1, x2_2, y2_0, y2_1, y2_2⟩ := F2.out
            try go_wp2_with fail
            refine hK.out _ _ (by (try dsimp only); first | exact ⟨x0_0, x0_1, x0_2, x0_3, x0_4, x0_5, x0_6, x0_7, x0_8, x0_9, x0_10, x0_11, x1_0, x1_1, x1_2, x2_0, x2_1, x2_2⟩ | go_keep) (fun hHeld => ?_)
            clear hK K
            try simp only [Act.put, List.getElem_toArray, List.getElem_cons_succ, List.getElem_cons_zero, List.setIfInBounds_toArray, List.set_cons_zero, List.set_cons_succ]
            refine wpAnyH_ready (rs := [9]) (by kernel_rfl) (by simp) ?_
            refine (AllReadyH.cons rfl (fun K hK => ?_) AllReadyH.nil)
            go_simp
            obtain ⟨b, hbb⟩ : ∃ b, b = v5.heap.size := ⟨_, rfl⟩
            obtain ⟨v6, hw2⟩ : ∃ v6, v6 = v5.alloc (.cells #[.int .i64 0, .int .i64 0, .int .i64 0, .int .i64 0, .int .i64 0, .int .i64 0, .int .i64 0] 40) := ⟨_, rfl⟩
            have n0 : w.heap.size < b := by rw [hbb]; exact F0.out.lt
            have n1 : (w.heap.size + 1) < b := by rw [hbb]; exact F1.out.lt
            have n2 : (w.heap.size + 2) < b := by rw [hbb]; exact F2.out.lt
            have FA : Hid (RBk v6 b) := by rw [hw2]; exact RBk.at_ _ _ _ hbb
            have F0 : Hid (HAt v6 w.heap.size a0) := by rw [hw2]; exact F0.out.alloc _
            have F1 : Hid (CW v6 (w.heap.size + 1) a1) := by rw [hw2]; exact F1.out.alloc _
            have F2 : Hid (XW v6 (w.heap.size + 2) a2) := by rw [hw2]; exact F2.out.alloc _
            have FB : Hid (Below w.heap.size w v6) := by rw [hw2]; exact FB.out.alloc FB.out.size _
            rw [← hw2, ← hbb]
            clear hbb hw2
            obtain ⟨x0_0, x0_1, x0_2, x0_3, x0_4, x0_5, x0_6, x0_7, x0_8, x0_9, x0_10, x0_11⟩ := F0.out
            obtain ⟨x1_0, x1_1, x1_2, y1_0, y1_1, y1_2⟩ := F1.out
            obtain ⟨x2_0, x2_1, x2_2, y2_0, y2_1, y2_2⟩ := F2.out
            refine hK.out _ _ (by (try dsimp only); first | exact ⟨x0_0, x0_1, x0_2, x0_3, x0_4, x0_5, x0_6, x0_7, x0_8, x0_9, x0_10, x0_11, x1_0, x1_1, x1_2, x2_0, x2_1, x2_2⟩ | go_keep) (fun hHeld => ?_)
            clear hK K
            try simp only [Act.put, List.getElem_toArray, List.getElem_cons_succ, List.getElem_cons_zero, List.setIfInBounds_toArray, List.set_cons_zero, List.set_cons_succ]
            refine wpAnyH_ready (rs := [10]) (by kernel_rfl) (by simp) ?_
            refine (AllReadyH.cons rfl (fun K hK => ?_) AllReadyH.nil)
            have r0_ := FA.out.c0
            have s0_ := FA.out.f0
            have r1_ := FA.out.c1
            have s1_ := FA.out.f1
            have r2_ := FA.out.c2
            have s2_ := FA.out.f2
            have r3_ := FA.out.c3
            have s3_ := FA.out.f3
            have r4_ := FA.out.c4
            have s4_ := FA.out.f4
            have r5_ := FA.out.c5
            have s5_ := FA.out.f5
            have r6_ := FA.out.c6
            have s6_ := FA.out.f6
            go_simp
            refine hK.out _ _ (by (try dsimp only); first | ((repeat' apply And.intro) <;> ((repeat rw [cellS (by omega)]); assumption)) | go_keep) (fun hHeld => ?_)
            clear hK K
            try simp only [Act.put, List.getElem_toArray, List.getElem_cons_succ, List.getElem_cons_zero, List.setIfInBounds_toArray, List.set_cons_zero, List.set_cons_succ]
            refine wpAnyH_done (by kernel_rfl) ?_ _
            go_wp2_with fail
            go_meet
            case rel => exact ⟨b, rfl, FA.out.put (Hs.bkA a0 a1 a2 a3 a4) , F0.out.below (below_putBk (Below.refl _ _) (Nat.le_refl _) (Hs.bkA a0 a1 a2 a3 a4) ) n0, F1.out.below (below_putBk (Below.refl _ _) (Nat.le_refl _) (Hs.bkA a0 a1 a2 a3 a4) ) n1, F2.out.below (below_putBk (Below.refl _ _) (Nat.le_refl _) (Hs.bkA a0 a1 a2 a3 a4) ) n2, below_putBk FB.out (by omega) (Hs.bkA a0 a1 a2 a3 a4) ⟩
          · go_simp
            obtain ⟨b, hbb⟩ : ∃ b, b = v4.heap.size := ⟨_, rfl⟩
            obtain ⟨v7, hw2⟩ : ∃ v7, v7 = v4.alloc (.cells #[.int .i64 0, .int .i64 0, .int .i64 0, .int .i64 0, .int .i64 0, .int .i64 0, .int .i64 0] 40) := ⟨_, rfl⟩
            have n0 : w.heap.size < b := by rw [hbb]; exact F0.out.lt
            have n1 : (w.heap.size + 1) < b := by rw [hbb]; exact F1.out.lt
            have n2 : (w.heap.size + 2) < b := by rw [hbb]; exact F2.out.lt
            have FA : Hid (RBk v7 b) := by rw [hw2]; exact RBk.at_ _ _ _ hbb
            have F0 : Hid (HAt v7 w.heap.size a0) := by rw [hw2]; exact F0.out.alloc _
            have F1 : Hid (CW v7 (w.heap.size + 1) a1) := by rw [hw2]; exact F1.out.alloc _
            have F2 : Hid (XW v7 (w.heap.size + 2) a2) := by rw [hw2]; exact F2.out.alloc _
            have FB : Hid (Below w.heap.size w v7) := by rw [hw2]; exact FB.out.alloc FB.out.size _
            rw [← hw2, ← hbb]
            clear hbb hw2
            obtain ⟨x0_0, x0_1, x0_2, x0_3, x0_4, x0_5, x0_6, x0_7, x0_8, x0_9, x0_10, x0_11⟩ := F0.out
            obtain ⟨x1_0, x1_1, x1_2, y1_0, y1_1, y1_2⟩ := F1.out
            obtain ⟨x2_0, x2_1, x2_2, y2_0, y2_1, y2_2⟩ := F2.out
            refine hK.out _ _ (by (try dsimp only); first | exact ⟨x0_0, x0_1, x0_2, x0_3, x0_4, x0_5, x0_6, x0_7, x0_8, x0_9, x0_10, x0_11, x1_0, x1_1, x1_2, x2_0, x2_1, x2_2⟩ | go_keep) (fun hHeld => ?_)
            clear hK K
            try simp only [Act.put, List.getElem_toArray, List.getElem_cons_succ, List.getElem_cons_zero, List.setIfInBounds_toArray, List.set_cons_zero, List.set_cons_succ]
            refine wpAnyH_ready (rs := [8]) (by kernel_rfl) (by simp) ?_
            refine (AllReadyH.cons rfl (fun K hK => ?_) AllReadyH.nil)
            go_simp
            refine (specBookStep_any a0 a1 a2 a3 a4 _).mono ?_
            rintro e v8 ⟨rfl, hb⟩
            have F0 : Hid (HAt v8 w.heap.size a0) := F0.out.below hb F0.out.lt
            have F1 : Hid (CW v8 (w.heap.size + 1) a1) := F1.out.below hb F1.out.lt
            have F2 : Hid (XW v8 (w.heap.size + 2) a2) := F2.out.below hb F2.out.lt
            have FA : Hid (RBk v8 b) := FA.out.below hb FA.out.lt
            have FB : Hid (Below w.heap.size w v8) := FB.out.trans (hb.mono FB.out.size)
            clear hb
            obtain ⟨x0_0, x0_1, x0_2, x0_3, x0_4, x0_5, x0_6, x0_7, x0_8, x0_9, x0_10, x0_11⟩ := F0.out
            obtain ⟨x1_0, x1_1, x1_2, y1_0, y1_1, y1_2⟩ := F1.out
            obtain ⟨x2_0, x2_1, x2_2, y2_0, y2_1, y2_2⟩ := F2.out
            try go_wp2_with fail
            refine hK.out _ _ (by (try dsimp only); first | exact ⟨x0_0, x0_1, x0_2, x0_3, x0_4, x0_5, x0_6, x0_7, x0_8, x0_9, x0_10, x0_11, x1_0, x1_1, x1_2, x2_0, x2_1, x2_2⟩ | go_keep) (fun hHeld => ?_)
            clear hK K
            try simp only [Act.put, List.getElem_toArray, List.getElem_cons_succ, List.getElem_cons_zero, List.setIfInBounds_toArray, List.set_cons_zero, List.set_cons_succ]
            refine wpAnyH_ready (rs := [10]) (by kernel_rfl) (by simp) ?_
            refine (AllReadyH.cons rfl (fun K hK => ?_) AllReadyH.nil)
            have r0_ := FA.out.c0
            have s0_ := FA.out.f0
            have r1_ := FA.out.c1
            have s1_ := FA.out.f1
            have r2_ := FA.out.c2
            have s2_ := FA.out.f2
            have r3_ := FA.out.c3
            have s3_ := FA.out.f3
            have r4_ := FA.out.c4
            have s4_ := FA.out.f4
            have r5_ := FA.out.c5
            have s5_ := FA.out.f5
            have r6_ := FA.out.c6
            have s6_ := FA.out.f6
            go_simp
            refine hK.out _ _ (by (try dsimp only); first | ((repeat' apply And.intro) <;> ((repeat rw [cellS (by omega)]); assumption)) | go_keep) (fun hHeld => ?_)
            clear hK K
            try simp only [Act.put, List.getElem_toArray, List.getElem_cons_succ, List.getElem_cons_zero, List.setIfInBounds_toArray, List.set_cons_zero, List.set_cons_succ]
            refine wpAnyH_done (by kernel_rfl) ?_ _
            go_wp2_with fail
            go_meet
            case rel => exact ⟨b, rfl, FA.out.put (Hs.bkA a0 a1 a2 a3 a4) , F0.out.below (below_putBk (Below.refl _ _) (Nat.le_refl _) (Hs.bkA a0 a1 a2 a3 a4) ) n0, F1.out.below (below_putBk (Below.refl _ _) (Nat.le_refl _) (Hs.bkA a0 a1 a2 a3 a4) ) n1, F2.out.below (below_putBk (Below.refl _ _) (Nat.le_refl _) (Hs.bkA a0 a1 a2 a3 a4) ) n2, below_putBk FB.out (by omega) (Hs.bkA a0 a1 a2 a3 a4) ⟩
        · go_simp
          obtain ⟨b, hbb⟩ : ∃ b, b = v3.heap.size := ⟨_, rfl⟩
          obtain ⟨v9, hw2⟩ : ∃ v9, v9 = v3.alloc (.cells #[.int .i64 0, .int .i64 0, .int .i64 0, .int .i64 0, .int .i64 0, .int .i64 0, .int .i64 0] 40) := ⟨_, rfl⟩
          have n0 : w.heap.size < b := by rw [hbb]; exact F0.out.lt
          have n1 : (w.heap.size + 1) < b := by rw [hbb]; exact F1.out.lt
          have n2 : (w.heap.size + 2) < b := by rw [hbb]; exact F2.out.lt
          have FA : Hid (RBk v9 b) := by rw [hw2]; exact RBk.at_ _ _ _ hbb
          have F0 : Hid (HAt v9 w.heap.size a0) := by rw [hw2]; exact F0.out.alloc _
          have F1 : Hid (CW v9 (w.heap.size + 1) a1) := by rw [hw2]; exact F1.out.alloc _
          have F2 : Hid (XW v9 (w.heap.size + 2) a2) := by rw [hw2]; exact F2.out.alloc _
          have FB : Hid (Below w.heap.size w v9) := by rw [hw2]; exact FB.out.alloc FB.out.size _
          rw [← hw2, ← hbb]
          clear hbb hw2
          obtain ⟨x0_0, x0_1, x0_2, x0_3, x0_4, x0_5, x0_6, x0_7, x0_8, x0_9, x0_10, x0_11⟩ := F0.out
          obtain ⟨x1_0, x1_1, x1_2, y1_0, y1_1, y1_2⟩ := F1.out
          obtain ⟨x2_0, x2_1, x2_2, y2_0, y2_1, y2_2⟩ := F2.out
          refine hK.out _ _ (by (try dsimp only); first | exact ⟨x0_0, x0_1, x0_2, x0_3, x0_4, x0_5, x0_6, x0_7, x0_8, x0_9, x0_10, x0_11, x1_0, x1_1, x1_2, x2_0, x2_1, x2_2⟩ | go_keep) (fun hHeld => ?_)
          clear hK K
          try simp only [Act.put, List.getElem_toArray, List.getElem_cons_succ, List.getElem_cons_zero, List.setIfInBounds_toArray, List.set_cons_zero, List.set_cons_succ]
          refine wpAnyH_ready (rs := [5]) (by kernel_rfl) (by simp) ?_
          refine (AllReadyH.cons rfl (fun K hK => ?_) AllReadyH.nil)
          go_simp
          refine (toCommand_any a2 _).mono ?_
          rintro e v10 ⟨rfl, hb⟩
          have F0 : Hid (HAt v10 w.heap.size a0) := F0.out.below hb F0.out.lt
          have F1 : Hid (CW v10 (w.heap.size + 1) a1) := F1.out.below hb F1.out.lt
          have F2 : Hid (XW v10 (w.heap.size + 2) a2) := F2.out.below hb F2.out.lt
          have FA : Hid (RBk v10 b) := FA.out.below hb FA.out.lt
          have FB : Hid (Below w.heap.size w v10) := FB.out.trans (hb.mono FB.out.size)
          clear hb
          obtain ⟨x0_0, x0_1, x0_2, x0_3, x0_4, x0_5, x0_6, x0_7, x0_8, x0_9, x0_10, x0_11⟩ := F0.out
          obtain ⟨x1_0, x1_1, x1_2, y1_0, y1_1, y1_2⟩ := F1.out
          obtain ⟨x2_0, x2_1, x2_2, y2_0, y2_1, y2_2⟩ := F2.out
          try go_wp2_with fail
          refine hK.out _ _ (by (try dsimp only); first | exact ⟨x0_0, x0_1, x0_2, x0_3, x0_4, x0_5, x0_6, x0_7, x0_8, x0_9, x0_10, x0_11, x1_0, x1_1, x1_2, x2_0, x2_1, x2_2⟩ | go_keep) (fun hHeld => ?_)
          clear hK K
          try simp only [Act.put, List.getElem_toArray, List.getElem_cons_succ, List.getElem_cons_zero, List.setIfInBounds_toArray, List.set_cons_zero, List.set_cons_succ]
          refine wpAnyH_ready (rs := [8]) (by kernel_rfl) (by simp) ?_
          refine (AllReadyH.cons rfl (fun K hK => ?_) AllReadyH.nil)
          go_simp
          refine (specBookStep_any a0 a1 a2 a3 a4 _).mono ?_
          rintro e v11 ⟨rfl, hb⟩
          have F0 : Hid (HAt v11 w.heap.size a0) := F0.out.below hb F0.out.lt
          have F1 : Hid (CW v11 (w.heap.size + 1) a1) := F1.out.below hb F1.out.lt
          have F2 : Hid (XW v11 (w.heap.size + 2) a2) := F2.out.below hb F2.out.lt
          have FA : Hid (RBk v11 b) := FA.out.below hb FA.out.lt
          have FB : Hid (Below w.heap.size w v11) := FB.out.trans (hb.mono FB.out.size)
          clear hb
          obtain ⟨x0_0, x0_1, x0_2, x0_3, x0_4, x0_5, x0_6, x0_7, x0_8, x0_9, x0_10, x0_11⟩ := F0.out
          obtain ⟨x1_0, x1_1, x1_2, y1_0, y1_1, y1_2⟩ := F1.out
          obtain ⟨x2_0, x2_1, x2_2, y2_0, y2_1, y2_2⟩ := F2.out
          try go_wp2_with fail
          refine hK.out _ _ (by (try dsimp only); first | exact ⟨x0_0, x0_1, x0_2, x0_3, x0_4, x0_5, x0_6, x0_7, x0_8, x0_9, x0_10, x0_11, x1_0, x1_1, x1_2, x2_0, x2_1, x2_2⟩ | go_keep) (fun hHeld => ?_)
          clear hK K
          try simp only [Act.put, List.getElem_toArray, List.getElem_cons_succ, List.getElem_cons_zero, List.setIfInBounds_toArray, List.set_cons_zero, List.set_cons_succ]
          refine wpAnyH_ready (rs := [10]) (by kernel_rfl) (by simp) ?_
          refine (AllReadyH.cons rfl (fun K hK => ?_) AllReadyH.nil)
          have r0_ := FA.out.c0
          have s0_ := FA.out.f0
          have r1_ := FA.out.c1
          have s1_ := FA.out.f1
          have r2_ := FA.out.c2
          have s2_ := FA.out.f2
          have r3_ := FA.out.c3
          have s3_ := FA.out.f3
          have r4_ := FA.out.c4
          have s4_ := FA.out.f4
          have r5_ := FA.out.c5
          have s5_ := FA.out.f5
          have r6_ := FA.out.c6
          have s6_ := FA.out.f6
          go_simp
          refine hK.out _ _ (by (try dsimp only); first | ((repeat' apply And.intro) <;> ((repeat rw [cellS (by omega)]); assumption)) | go_keep) (fun hHeld => ?_)
          clear hK K
          try simp only [Act.put, List.getElem_toArray, List.getElem_cons_succ, List.getElem_cons_zero, List.setIfInBounds_toArray, List.set_cons_zero, List.set_cons_succ]
          refine wpAnyH_done (by kernel_rfl) ?_ _
          go_wp2_with fail
          go_meet
          case rel => exact ⟨b, rfl, FA.out.put (Hs.bkA a0 a1 a2 a3 a4) , F0.out.below (below_putBk (Below.refl _ _) (Nat.le_refl _) (Hs.bkA a0 a1 a2 a3 a4) ) n0, F1.out.below (below_putBk (Below.refl _ _) (Nat.le_refl _) (Hs.bkA a0 a1 a2 a3 a4) ) n1, F2.out.below (below_putBk (Below.refl _ _) (Nat.le_refl _) (Hs.bkA a0 a1 a2 a3 a4) ) n2, below_putBk FB.out (by omega) (Hs.bkA a0 a1 a2 a3 a4) ⟩
      · go_simp
        obtain ⟨b, hbb⟩ : ∃ b, b = v2.heap.size := ⟨_, rfl⟩
        obtain ⟨v12, hw2⟩ : ∃ v12, v12 = v2.alloc (.cells #[.int .i64 0, .int .i64 0, .int .i64 0, .int .i64 0, .int .i64 0, .int .i64 0, .int .i64 0] 40) := ⟨_, rfl⟩
        have n0 : w.heap.size < b := by rw [hbb]; exact F0.out.lt
        have n1 : (w.heap.size + 1) < b := by rw [hbb]; exact F1.out.lt
        have n2 : (w.heap.size + 2) < b := by rw [hbb]; exact F2.out.lt
        have FA : Hid (RBk v12 b) := by rw [hw2]; exact RBk.at_ _ _ _ hbb
        have F0 : Hid (HAt v12 w.heap.size a0) := by rw [hw2]; exact F0.out.alloc _
        have F1 : Hid (CW v12 (w.heap.size + 1) a1) := by rw [hw2]; exact F1.out.alloc _
        have F2 : Hid (XW v12 (w.heap.size + 2) a2) := by rw [hw2]; exact F2.out.alloc _
        have FB : Hid (Below w.heap.size w v12) := by rw [hw2]; exact FB.out.alloc FB.out.size _
        rw [← hw2, ← hbb]
        clear hbb hw2
        obtain ⟨x0_0, x0_1, x0_2, x0_3, x0_4, x0_5, x0_6, x0_7, x0_8, x0_9, x0_10, x0_11⟩ := F0.out
        obtain ⟨x1_0, x1_1, x1_2, y1_0, y1_1, y1_2⟩ := F1.out
        obtain ⟨x2_0, x2_1, x2_2, y2_0, y2_1, y2_2⟩ := F2.out
        refine hK.out _ _ (by (try dsimp only); first | exact ⟨x0_0, x0_1, x0_2, x0_3, x0_4, x0_5, x0_6, x0_7, x0_8, x0_9, x0_10, x0_11, x1_0, x1_1, x1_2, x2_0, x2_1, x2_2⟩ | go_keep) (fun hHeld => ?_)
        clear hK K
        try simp only [Act.put, List.getElem_toArray, List.getElem_cons_succ, List.getElem_cons_zero, List.setIfInBounds_toArray, List.set_cons_zero, List.set_cons_succ]
        refine wpAnyH_ready (rs := [3]) (by kernel_rfl) (by simp) ?_
        refine (AllReadyH.cons rfl (fun K hK => ?_) AllReadyH.nil)
        go_simp
        refine (toCar_any a1 _).mono ?_
        rintro e v13 ⟨rfl, hb⟩
        have F0 : Hid (HAt v13 w.heap.size a0) := F0.out.below hb F0.out.lt
        have F1 : Hid (CW v13 (w.heap.size + 1) a1) := F1.out.below hb F1.out.lt
        have F2 : Hid (XW v13 (w.heap.size + 2) a2) := F2.out.below hb F2.out.lt
        have FA : Hid (RBk v13 b) := FA.out.below hb FA.out.lt
        have FB : Hid (Below w.heap.size w v13) := FB.out.trans (hb.mono FB.out.size)
        clear hb
        obtain ⟨x0_0, x0_1, x0_2, x0_3, x0_4, x0_5, x0_6, x0_7, x0_8, x0_9, x0_10, x0_11⟩ := F0.out
        obtain ⟨x1_0, x1_1, x1_2, y1_0, y1_1, y1_2⟩ := F1.out
        obtain ⟨x2_0, x2_1, x2_2, y2_0, y2_1, y2_2⟩ := F2.out
        try go_wp2_with fail
        refine hK.out _ _ (by (try dsimp only); first | exact ⟨x0_0, x0_1, x0_2, x0_3, x0_4, x0_5, x0_6, x0_7, x0_8, x0_9, x0_10, x0_11, x1_0, x1_1, x1_2, x2_0, x2_1, x2_2⟩ | go_keep) (fun hHeld => ?_)
        clear hK K
        try simp only [Act.put, List.getElem_toArray, List.getElem_cons_succ, List.getElem_cons_zero, List.setIfInBounds_toArray, List.set_cons_zero, List.set_cons_succ]
        refine wpAnyH_ready (rs := [5]) (by kernel_rfl) (by simp) ?_
        refine (AllReadyH.cons rfl (fun K hK => ?_) AllReadyH.nil)
        go_simp
        refine (toCommand_any a2 _).mono ?_
        rintro e v14 ⟨rfl, hb⟩
        have F0 : Hid (HAt v14 w.heap.size a0) := F0.out.below hb F0.out.lt
        have F1 : Hid (CW v14 (w.heap.size + 1) a1) := F1.out.below hb F1.out.lt
        have F2 : Hid (XW v14 (w.heap.size + 2) a2) := F2.out.below hb F2.out.lt
        have FA : Hid (RBk v14 b) := FA.out.below hb FA.out.lt
        have FB : Hid (Below w.heap.size w v14) := FB.out.trans (hb.mono FB.out.size)
        clear hb
        obtain ⟨x0_0, x0_1, x0_2, x0_3, x0_4, x0_5, x0_6, x0_7, x0_8, x0_9, x0_10, x0_11⟩ := F0.out
        obtain ⟨x1_0, x1_1, x1_2, y1_0, y1_1, y1_2⟩ := F1.out
        obtain ⟨x2_0, x2_1, x2_2, y2_0, y2_1, y2_2⟩ := F2.out
        try go_wp2_with fail
        refine hK.out _ _ (by (try dsimp only); first | exact ⟨x0_0, x0_1, x0_2, x0_3, x0_4, x0_5, x0_6, x0_7, x0_8, x0_9, x0_10, x0_11, x1_0, x1_1, x1_2, x2_0, x2_1, x2_2⟩ | go_keep) (fun hHeld => ?_)
        clear hK K
        try simp only [Act.put, List.getElem_toArray, List.getElem_cons_succ, List.getElem_cons_zero, List.setIfInBounds_toArray, List.set_cons_zero, List.set_cons_succ]
        refine wpAnyH_ready (rs := [8]) (by kernel_rfl) (by simp) ?_
        refine (AllReadyH.cons rfl (fun K hK => ?_) AllReadyH.nil)
        go_simp
        refine (specBookStep_any a0 a1 a2 a3 a4 _).mono ?_
        rintro e v15 ⟨rfl, hb⟩
        have F0 : Hid (HAt v15 w.heap.size a0) := F0.out.below hb F0.out.lt
        have F1 : Hid (CW v15 (w.heap.size + 1) a1) := F1.out.below hb F1.out.lt
        have F2 : Hid (XW v15 (w.heap.size + 2) a2) := F2.out.below hb F2.out.lt
        have FA : Hid (RBk v15 b) := FA.out.below hb FA.out.lt
        have FB : Hid (Below w.heap.size w v15) := FB.out.trans (hb.mono FB.out.size)
        clear hb
        obtain ⟨x0_0, x0_1, x0_2, x0_3, x0_4, x0_5, x0_6, x0_7, x0_8, x0_9, x0_10, x0_11⟩ := F0.out
        obtain ⟨x1_0, x1_1, x1_2, y1_0, y1_1, y1_2⟩ := F1.out
        obtain ⟨x2_0, x2_1, x2_2, y2_0, y2_1, y2_2⟩ := F2.out
        try go_wp2_with fail
        refine hK.out _ _ (by (try dsimp only); first | exact ⟨x0_0, x0_1, x0_2, x0_3, x0_4, x0_5, x0_6, x0_7, x0_8, x0_9, x0_10, x0_11, x1_0, x1_1, x1_2, x2_0, x2_1, x2_2⟩ | go_keep) (fun hHeld => ?_)
        clear hK K
        try simp only [Act.put, List.getElem_toArray, List.getElem_cons_succ, List.getElem_cons_zero, List.setIfInBounds_toArray, List.set_cons_zero, List.set_cons_succ]
        refine wpAnyH_ready (rs := [10]) (by kernel_rfl) (by simp) ?_
        refine (AllReadyH.cons rfl (fun K hK => ?_) AllReadyH.nil)
        have r0_ := FA.out.c0
        have s0_ := FA.out.f0
        have r1_ := FA.out.c1
        have s1_ := FA.out.f1
        have r2_ := FA.out.c2
        have s2_ := FA.out.f2
        have r3_ := FA.out.c3
        have s3_ := FA.out.f3
        have r4_ := FA.out.c4
        have s4_ := FA.out.f4
        have r5_ := FA.out.c5
        have s5_ := FA.out.f5
        have r6_ := FA.out.c6
        have s6_ := FA.out.f6
        go_simp
        refine hK.out _ _ (by (try dsimp only); first | ((repeat' apply And.intro) <;> ((repeat rw [cellS (by omega)]); assumption)) | go_keep) (fun hHeld => ?_)
        clear hK K
        try simp only [Act.put, List.getElem_toArray, List.getElem_cons_succ, List.getElem_cons_zero, List.setIfInBounds_toArray, List.set_cons_zero, List.set_cons_succ]
        refine wpAnyH_done (by kernel_rfl) ?_ _
        go_wp2_with fail
        go_meet
        case rel => exact ⟨b, rfl, FA.out.put (Hs.bkA a0 a1 a2 a3 a4) , F0.out.below (below_putBk (Below.refl _ _) (Nat.le_refl _) (Hs.bkA a0 a1 a2 a3 a4) ) n0, F1.out.below (below_putBk (Below.refl _ _) (Nat.le_refl _) (Hs.bkA a0 a1 a2 a3 a4) ) n1, F2.out.below (below_putBk (Below.refl _ _) (Nat.le_refl _) (Hs.bkA a0 a1 a2 a3 a4) ) n2, below_putBk FB.out (by omega) (Hs.bkA a0 a1 a2 a3 a4) ⟩
    · go_simp
      obtain ⟨b, hbb⟩ : ∃ b, b = v1.heap.size := ⟨_, rfl⟩
      obtain ⟨v16, hw2⟩ : ∃ v16, v16 = v1.alloc (.cells #[.int .i64 0, .int .i64 0, .int .i64 0, .int .i64 0, .int .i64 0, .int .i64 0, .int .i64 0] 40) := ⟨_, rfl⟩
      have n0 : w.heap.size < b := by rw [hbb]; exact F0.out.lt
      have n1 : (w.heap.size + 1) < b := by rw [hbb]; exact F1.out.lt
      have n2 : (w.heap.size + 2) < b := by rw [hbb]; exact F2.out.lt
      have FA : Hid (RBk v16 b) := by rw [hw2]; exact RBk.at_ _ _ _ hbb
      have F0 : Hid (HAt v16 w.heap.size a0) := by rw [hw2]; exact F0.out.alloc _
      have F1 : Hid (CW v16 (w.heap.size + 1) a1) := by rw [hw2]; exact F1.out.alloc _
      have F2 : Hid (XW v16 (w.heap.size + 2) a2) := by rw [hw2]; exact F2.out.alloc _
      have FB : Hid (Below w.heap.size w v16) := by rw [hw2]; exact FB.out.alloc FB.out.size _
      rw [← hw2, ← hbb]
      clear hbb hw2
      obtain ⟨x0_0, x0_1, x0_2, x0_3, x0_4, x0_5, x0_6, x0_7, x0_8, x0_9, x0_10, x0_11⟩ := F0.out
      obtain ⟨x1_0, x1_1, x1_2, y1_0, y1_1, y1_2⟩ := F1.out
      obtain ⟨x2_0, x2_1, x2_2, y2_0, y2_1, y2_2⟩ := F2.out
      refine hK.out _ _ (by (try dsimp only); first | exact ⟨x0_0, x0_1, x0_2, x0_3, x0_4, x0_5, x0_6, x0_7, x0_8, x0_9, x0_10, x0_11, x1_0, x1_1, x1_2, x2_0, x2_1, x2_2⟩ | go_keep) (fun hHeld => ?_)
      clear hK K
      try simp only [Act.put, List.getElem_toArray, List.getElem_cons_succ, List.getElem_cons_zero, List.setIfInBounds_toArray, List.set_cons_zero, List.set_cons_succ]
      refine wpAnyH_ready (rs := [1]) (by kernel_rfl) (by simp) ?_
      refine (AllReadyH.cons rfl (fun K hK => ?_) AllReadyH.nil)
      go_simp
      refine (toHouse_any a0 _).mono ?_
      rintro e v17 ⟨rfl, hb⟩
      have F0 : Hid (HAt v17 w.heap.size a0) := F0.out.below hb F0.out.lt
      have F1 : Hid (CW v17 (w.heap.size + 1) a1) := F1.out.below hb F1.out.lt
      have F2 : Hid (XW v17 (w.heap.size + 2) a2) := F2.out.below hb F2.out.lt
      have FA : Hid (RBk v17 b) := FA.out.below hb FA.out.lt
      have FB : Hid (Below w.heap.size w v17) := FB.out.trans (hb.mono FB.out.size)
      clear hb
      obtain ⟨x0_0, x0_1, x0_2, x0_3, x0_4, x0_5, x0_6, x0_7, x0_8, x0_9, x0_10, x0_11⟩ := F0.out
      obtain ⟨x1_0, x1_1, x1_2, y1_0, y1_1, y1_2⟩ := F1.out
      obtain ⟨x2_0, x2_1, x2_2, y2_0, y2_1, y2_2⟩ := F2.out
      try go_wp2_with fail
      refine hK.out _ _ (by (try dsimp only); first | exact ⟨x0_0, x0_1, x0_2, x0_3, x0_4, x0_5, x0_6, x0_7, x0_8, x0_9, x0_10, x0_11, x1_0, x1_1, x1_2, x2_0, x2_1, x2_2⟩ | go_keep) (fun hHeld => ?_)
      clear hK K
      try simp only [Act.put, List.getElem_toArray, List.getElem_cons_succ, List.getElem_cons_zero, List.setIfInBounds_toArray, List.set_cons_zero, List.set_cons_succ]
      refine wpAnyH_ready (rs := [3]) (by kernel_rfl) (by simp) ?_
      refine (AllReadyH.cons rfl (fun K hK => ?_) AllReadyH.nil)
      go_simp
      refine (toCar_any a1 _).mono ?_
      rintro e v18 ⟨rfl, hb⟩
      have F0 : Hid (HAt v18 w.heap.size a0) := F0.out.below hb F0.out.lt
      have F1 : Hid (CW v18 (w.heap.size + 1) a1) := F1.out.below hb F1.out.lt
      have F2 : Hid (XW v18 (w.heap.size + 2) a2) := F2.out.below hb F2.out.lt
      have FA : Hid (RBk v18 b) := FA.out.below hb FA.out.lt
      have FB : Hid (Below w.heap.size w v18) := FB.out.trans (hb.mono FB.out.size)
      clear hb
      obtain ⟨x0_0, x0_1, x0_2, x0_3, x0_4, x0_5, x0_6, x0_7, x0_8, x0_9, x0_10, x0_11⟩ := F0.out
      obtain ⟨x1_0, x1_1, x1_2, y1_0, y1_1, y1_2⟩ := F1.out
      obtain ⟨x2_0, x2_1, x2_2, y2_0, y2_1, y2_2⟩ := F2.out
      try go_wp2_with fail
      refine hK.out _ _ (by (try dsimp only); first | exact ⟨x0_0, x0_1, x0_2, x0_3, x0_4, x0_5, x0_6, x0_7, x0_8, x0_9, x0_10, x0_11, x1_0, x1_1, x1_2, x2_0, x2_1, x2_2⟩ | go_keep) (fun hHeld => ?_)
      clear hK K
      try simp only [Act.put, List.getElem_toArray, List.getElem_cons_succ, List.getElem_cons_zero, List.setIfInBounds_toArray, List.set_cons_zero, List.set_cons_succ]
      refine wpAnyH_ready (rs := [5]) (by kernel_rfl) (by simp) ?_
      refine (AllReadyH.cons rfl (fun K hK => ?_) AllReadyH.nil)
      go_simp
      refine (toCommand_any a2 _).mono ?_
      rintro e v19 ⟨rfl, hb⟩
      have F0 : Hid (HAt v19 w.heap.size a0) := F0.out.below hb F0.out.lt
      have F1 : Hid (CW v19 (w.heap.size + 1) a1) := F1.out.below hb F1.out.lt
      have F2 : Hid (XW v19 (w.heap.size + 2) a2) := F2.out.below hb F2.out.lt
      have FA : Hid (RBk v19 b) := FA.out.below hb FA.out.lt
      have FB : Hid (Below w.heap.size w v19) := FB.out.trans (hb.mono FB.out.size)
      clear hb
      obtain ⟨x0_0, x0_1, x0_2, x0_3, x0_4, x0_5, x0_6, x0_7, x0_8, x0_9, x0_10, x0_11⟩ := F0.out
      obtain ⟨x1_0, x1_1, x1_2, y1_0, y1_1, y1_2⟩ := F1.out
      obtain ⟨x2_0, x2_1, x2_2, y2_0, y2_1, y2_2⟩ := F2.out
      try go_wp2_with fail
      refine hK.out _ _ (by (try dsimp only); first | exact ⟨x0_0, x0_1, x0_2, x0_3, x0_4, x0_5, x0_6, x0_7, x0_8, x0_9, x0_10, x0_11, x1_0, x1_1, x1_2, x2_0, x2_1, x2_2⟩ | go_keep) (fun hHeld => ?_)
      clear hK K
      try simp only [Act.put, List.getElem_toArray, List.getElem_cons_succ, List.getElem_cons_zero, List.setIfInBounds_toArray, List.set_cons_zero, List.set_cons_succ]
      refine wpAnyH_ready (rs := [8]) (by kernel_rfl) (by simp) ?_
      refine (AllReadyH.cons rfl (fun K hK => ?_) AllReadyH.nil)
      go_simp
      refine (specBookStep_any a0 a1 a2 a3 a4 _).mono ?_
      rintro e v20 ⟨rfl, hb⟩
      have F0 : Hid (HAt v20 w.heap.size a0) := F0.out.below hb F0.out.lt
      have F1 : Hid (CW v20 (w.heap.size + 1) a1) := F1.out.below hb F1.out.lt
      have F2 : Hid (XW v20 (w.heap.size + 2) a2) := F2.out.below hb F2.out.lt
      have FA : Hid (RBk v20 b) := FA.out.below hb FA.out.lt
      have FB : Hid (Below w.heap.size w v20) := FB.out.trans (hb.mono FB.out.size)
      clear hb
      obtain ⟨x0_0, x0_1, x0_2, x0_3, x0_4, x0_5, x0_6, x0_7, x0_8, x0_9, x0_10, x0_11⟩ := F0.out
      obtain ⟨x1_0, x1_1, x1_2, y1_0, y1_1, y1_2⟩ := F1.out
      obtain ⟨x2_0, x2_1, x2_2, y2_0, y2_1, y2_2⟩ := F2.out
      try go_wp2_with fail
      refine hK.out _ _ (by (try dsimp only); first | exact ⟨x0_0, x0_1, x0_2, x0_3, x0_4, x0_5, x0_6, x0_7, x0_8, x0_9, x0_10, x0_11, x1_0, x1_1, x1_2, x2_0, x2_1, x2_2⟩ | go_keep) (fun hHeld => ?_)
      clear hK K
      try simp only [Act.put, List.getElem_toArray, List.getElem_cons_succ, List.getElem_cons_zero, List.setIfInBounds_toArray, List.set_cons_zero, List.set_cons_succ]
      refine wpAnyH_ready (rs := [10]) (by kernel_rfl) (by simp) ?_
      refine (AllReadyH.cons rfl (fun K hK => ?_) AllReadyH.nil)
      have r0_ := FA.out.c0
      have s0_ := FA.out.f0
      have r1_ := FA.out.c1
      have s1_ := FA.out.f1
      have r2_ := FA.out.c2
      have s2_ := FA.out.f2
      have r3_ := FA.out.c3
      have s3_ := FA.out.f3
      have r4_ := FA.out.c4
      have s4_ := FA.out.f4
      have r5_ := FA.out.c5
      have s5_ := FA.out.f5
      have r6_ := FA.out.c6
      have s6_ := FA.out.f6
      go_simp
      refine hK.out _ _ (by (try dsimp only); first | ((repeat' apply And.intro) <;> ((repeat rw [cellS (by omega)]); assumption)) | go_keep) (fun hHeld => ?_)
      clear hK K
      try simp only [Act.put, List.getElem_toArray, List.getElem_cons_succ, List.getElem_cons_zero, List.setIfInBounds_toArray, List.set_cons_zero, List.set_cons_succ]
      refine wpAnyH_done (by kernel_rfl) ?_ _
      go_wp2_with fail
      go_meet
      case rel => exact ⟨b, rfl, FA.out.put (Hs.bkA a0 a1 a2 a3 a4) , F0.out.below (below_putBk (Below.refl _ _) (Nat.le_refl _) (Hs.bkA a0 a1 a2 a3 a4) ) n0, F1.out.below (below_putBk (Below.refl _ _) (Nat.le_refl _) (Hs.bkA a0 a1 a2 a3 a4) ) n1, F2.out.below (below_putBk (Below.refl _ _) (Nat.le_refl _) (Hs.bkA a0 a1 a2 a3 a4) ) n2, below_putBk FB.out (by omega) (Hs.bkA a0 a1 a2 a3 a4) ⟩
  case rest =>
    obtain ⟨b1, rfl, hv, h0, h1, h2, hB⟩ := hcut
    have FV : Hid (VBk wc b1 (Hs.bkA a0 a1 a2 a3 a4) ) := hv
    have F0 : Hid (HAt wc w.heap.size a0) := h0
    have F1 : Hid (CW wc (w.heap.size + 1) a1) := h1
    have F2 : Hid (XW wc (w.heap.size + 2) a2) := h2
    have FB : Hid (Below w.heap.size w wc) := hB
    clear hv hB h0 h1 h2
    obtain ⟨wd, hwd⟩ : ∃ wd, wd = wc := ⟨_, rfl⟩
    subst hwd
    go_wp2_with fail
    go_cut [12] (fun p wx => ∃ b, p = .pointer (some ⟨b, 0, none⟩) ∧ VBk wx b (Hs.bkA a0 a1 a2 a3 a4)  ∧ VBk wx b1 (Hs.bkA a0 a1 a2 a3 a4)  ∧ Below w.heap.size w wx)
    case first =>
      have F0 : Hid (HAt wd.drew w.heap.size a0) := F0.out.below (Below.refl _ _).drew F0.out.lt
      have F1 : Hid (CW wd.drew (w.heap.size + 1) a1) := F1.out.below (Below.refl _ _).drew F1.out.lt
      have F2 : Hid (XW wd.drew (w.heap.size + 2) a2) := F2.out.below (Below.refl _ _).drew F2.out.lt
      have FV : Hid (VBk wd.drew b1 (Hs.bkA a0 a1 a2 a3 a4) ) := FV.out.below (Below.refl _ _).drew FV.out.lt
      have FB : Hid (Below w.heap.size w wd.drew) := FB.out.drew
      obtain ⟨x0_0, x0_1, x0_2, x0_3, x0_4, x0_5, x0_6, x0_7, x0_8, x0_9, x0_10, x0_11⟩ := F0.out
      obtain ⟨x1_0, x1_1, x1_2, y1_0, y1_1, y1_2⟩ := F1.out
      obtain ⟨x2_0, x2_1, x2_2, y2_0, y2_1, y2_2⟩ := F2.out
      refine wp_region_held_drew (S := (fun w'' => w''.cell? ⟨w.heap.size, 0, none⟩ = some (.int .i64 a0.fl) ∧ w''.cell? ⟨w.heap.size, 1, none⟩ = some (.int .i64 a0.gp) ∧ w''.cell? ⟨w.heap.size, 2, none⟩ = some (.int .i64 a0.ln) ∧ w''.cell? ⟨w.heap.size, 3, none⟩ = some (.int .i64 a0.rf) ∧ w''.cell? ⟨w.heap.size, 4, none⟩ = some (.int .i64 a0.sp) ∧ w''.cell? ⟨w.heap.size, 5, none⟩ = some (.int .i64 a0.pu) ∧ w''.cell? ⟨w.heap.size, 6, none⟩ = some (.int .i64 a0.br) ∧ w''.cell? ⟨w.heap.size, 7, none⟩ = some (.int .i64 a0.dr) ∧ w''.cell? ⟨w.heap.size, 8, none⟩ = some (.int .i64 a0.lv) ∧ w''.cell? ⟨w.heap.size, 9, none⟩ = some (.int .i64 a0.dO) ∧ w''.cell? ⟨w.heap.size, 10, none⟩ = some (.int .i64 a0.ld) ∧ w''.cell? ⟨w.heap.size, 11, none⟩ = some (.int .i64 a0.qu) ∧ w''.cell? ⟨(w.heap.size + 1), 0, none⟩ = some (.int .i64 a1.pos) ∧ w''.cell? ⟨(w.heap.size + 1), 1, none⟩ = some (.int .i64 a1.vel) ∧ w''.cell? ⟨(w.heap.size + 1), 2, none⟩ = some (.int .i64 a1.door) ∧ w''.cell? ⟨(w.heap.size + 2), 0, none⟩ = some (.int .i64 a2.push) ∧ w''.cell? ⟨(w.heap.size + 2), 1, none⟩ = some (.bool a2.brk) ∧ w''.cell? ⟨(w.heap.size + 2), 2, none⟩ = some (.bool a2.opn))) (by kernel_rfl) (by (try dsimp only); first | exact ⟨x0_0, x0_1, x0_2, x0_3, x0_4, x0_5, x0_6, x0_7, x0_8, x0_9, x0_10, x0_11, x1_0, x1_1, x1_2, x2_0, x2_1, x2_2⟩ | go_keep) (fun hHeld => ?_)
      obtain ⟨v21, hw1⟩ : ∃ v21, v21 = wd.drew := ⟨_, rfl⟩
      have F0 : Hid (HAt v21 w.heap.size a0) := by rw [hw1]; exact F0.out
      have F1 : Hid (CW v21 (w.heap.size + 1) a1) := by rw [hw1]; exact F1.out
      have F2 : Hid (XW v21 (w.heap.size + 2) a2) := by rw [hw1]; exact F2.out
      have FV : Hid (VBk v21 b1 (Hs.bkA a0 a1 a2 a3 a4) ) := by rw [hw1]; exact FV.out
      have FB : Hid (Below w.heap.size w v21) := by rw [hw1]; exact FB.out
      rw [← hw1] at hHeld ⊢
      clear hw1
      obtain ⟨x0_0, x0_1, x0_2, x0_3, x0_4, x0_5, x0_6, x0_7, x0_8, x0_9, x0_10, x0_11⟩ := F0.out
      obtain ⟨x1_0, x1_1, x1_2, y1_0, y1_1, y1_2⟩ := F1.out
      obtain ⟨x2_0, x2_1, x2_2, y2_0, y2_1, y2_2⟩ := F2.out
      refine wpAnyH_take (i := 0) (v := _) rfl (by kernel_rfl) (by kernel_rfl) (by kernel_rfl) (fun _ _ _ h => h) (Or.inl ⟨by kernel_rfl, by (intro wx hSw; (try dsimp only at hSw); go_simp <;> with_reducible rfl)⟩) (by assumption) ?_
      try simp only [Act.put, List.getElem_toArray, List.getElem_cons_succ, List.getElem_cons_zero, List.setIfInBounds_toArray, List.set_cons_zero, List.set_cons_succ]
      refine wpAnyH_take (i := 2) (v := _) rfl (by kernel_rfl) (by kernel_rfl) (by kernel_rfl) (fun _ _ _ h => h) (Or.inl ⟨by kernel_rfl, by (intro wx hSw; (try dsimp only at hSw); go_simp <;> with_reducible rfl)⟩) (by assumption) ?_
      try simp only [Act.put, List.getElem_toArray, List.getElem_cons_succ, List.getElem_cons_zero, List.setIfInBounds_toArray, List.set_cons_zero, List.set_cons_succ]
      refine wpAnyH_take (i := 4) (v := _) rfl (by kernel_rfl) (by kernel_rfl) (by kernel_rfl) (fun _ _ _ h => h) (Or.inl ⟨by kernel_rfl, by (intro wx hSw; (try dsimp only at hSw); go_simp <;> with_reducible rfl)⟩) (by assumption) ?_
      try simp only [Act.put, List.getElem_toArray, List.getElem_cons_succ, List.getElem_cons_zero, List.setIfInBounds_toArray, List.set_cons_zero, List.set_cons_succ]
      refine wpAnyH_take (i := 6) (v := _) rfl (by kernel_rfl) (by kernel_rfl) (by kernel_rfl) (fun _ _ _ h => h) (Or.inl ⟨by kernel_rfl, by (intro wx hSw; (try dsimp only at hSw); go_simp <;> with_reducible rfl)⟩) (by assumption) ?_
      try simp only [Act.put, List.getElem_toArray, List.getElem_cons_succ, List.getElem_cons_zero, List.setIfInBounds_toArray, List.set_cons_zero, List.set_cons_succ]
      refine wpAnyH_take (i := 7) (v := _) rfl (by kernel_rfl) (by kernel_rfl) (by kernel_rfl) (fun _ _ _ h => h) (Or.inl ⟨by kernel_rfl, by (intro wx hSw; (try dsimp only at hSw); go_simp <;> with_reducible rfl)⟩) (by assumption) ?_
      try simp only [Act.put, List.getElem_toArray, List.getElem_cons_succ, List.getElem_cons_zero, List.setIfInBounds_toArray, List.set_cons_zero, List.set_cons_succ]
      refine wpAnyH_ready (rs := [1, 9]) (by kernel_rfl) (by simp) ?_
      refine (AllReadyH.cons rfl (fun K hK => ?_) (AllReadyH.cons rfl (fun K hK => ?_) AllReadyH.nil))
      · go_simp
        refine (toHouse_any a0 _).mono ?_
        rintro e v22 ⟨rfl, hb⟩
        have F0 : Hid (HAt v22 w.heap.size a0) := F0.out.below hb F0.out.lt
        have F1 : Hid (CW v22 (w.heap.size + 1) a1) := F1.out.below hb F1.out.lt
        have F2 : Hid (XW v22 (w.heap.size + 2) a2) := F2.out.below hb F2.out.lt
        have FV : Hid (VBk v22 b1 (Hs.bkA a0 a1 a2 a3 a4) ) := FV.out.below hb FV.out.lt
        have FB : Hid (Below w.heap.size w v22) := FB.out.trans (hb.mono FB.out.size)
        clear hb
        obtain ⟨x0_0, x0_1, x0_2, x0_3, x0_4, x0_5, x0_6, x0_7, x0_8, x0_9, x0_10, x0_11⟩ := F0.out
        obtain ⟨x1_0, x1_1, x1_2, y1_0, y1_1, y1_2⟩ := F1.out
        obtain ⟨x2_0, x2_1, x2_2, y2_0, y2_1, y2_2⟩ := F2.out
        try go_wp2_with fail
        refine hK.out _ _ (by (try dsimp only); first | exact ⟨x0_0, x0_1, x0_2, x0_3, x0_4, x0_5, x0_6, x0_7, x0_8, x0_9, x0_10, x0_11, x1_0, x1_1, x1_2, x2_0, x2_1, x2_2⟩ | go_keep) (fun hHeld => ?_)
        clear hK K
        try simp only [Act.put, List.getElem_toArray, List.getElem_cons_succ, List.getElem_cons_zero, List.setIfInBounds_toArray, List.set_cons_zero, List.set_cons_succ]
        refine wpAnyH_ready (rs := [3, 9]) (by kernel_rfl) (by simp) ?_
        refine (AllReadyH.cons rfl (fun K hK => ?_) (AllReadyH.cons rfl (fun K hK => ?_) AllReadyH.nil))
        · go_simp
          refine (toCar_any a1 _).mono ?_
          rintro e v23 ⟨rfl, hb⟩
          have F0 : Hid (HAt v23 w.heap.size a0) := F0.out.below hb F0.out.lt
          have F1 : Hid (CW v23 (w.heap.size + 1) a1) := F1.out.below hb F1.out.lt
          have F2 : Hid (XW v23 (w.heap.size + 2) a2) := F2.out.below hb F2.out.lt
          have FV : Hid (VBk v23 b1 (Hs.bkA a0 a1 a2 a3 a4) ) := FV.out.below hb FV.out.lt
          have FB : Hid (Below w.heap.size w v23) := FB.out.trans (hb.mono FB.out.size)
          clear hb
          obtain ⟨x0_0, x0_1, x0_2, x0_3, x0_4, x0_5, x0_6, x0_7, x0_8, x0_9, x0_10, x0_11⟩ := F0.out
          obtain ⟨x1_0, x1_1, x1_2, y1_0, y1_1, y1_2⟩ := F1.out
          obtain ⟨x2_0, x2_1, x2_2, y2_0, y2_1, y2_2⟩ := F2.out
          try go_wp2_with fail
          refine hK.out _ _ (by (try dsimp only); first | exact ⟨x0_0, x0_1, x0_2, x0_3, x0_4, x0_5, x0_6, x0_7, x0_8, x0_9, x0_10, x0_11, x1_0, x1_1, x1_2, x2_0, x2_1, x2_2⟩ | go_keep) (fun hHeld => ?_)
          clear hK K
          try simp only [Act.put, List.getElem_toArray, List.getElem_cons_succ, List.getElem_cons_zero, List.setIfInBounds_toArray, List.set_cons_zero, List.set_cons_succ]
          refine wpAnyH_ready (rs := [5, 9]) (by kernel_rfl) (by simp) ?_
          refine (AllReadyH.cons rfl (fun K hK => ?_) (AllReadyH.cons rfl (fun K hK => ?_) AllReadyH.nil))
          · go_simp
            refine (toCommand_any a2 _).mono ?_
            rintro e v24 ⟨rfl, hb⟩
            have F0 : Hid (HAt v24 w.heap.size a0) := F0.out.below hb F0.out.lt
            have F1 : Hid (CW v24 (w.heap.size + 1) a1) := F1.out.below hb F1.out.lt
            have F2 : Hid (XW v24 (w.heap.size + 2) a2) := F2.out.below hb F2.out.lt
            have FV : Hid (VBk v24 b1 (Hs.bkA a0 a1 a2 a3 a4) ) := FV.out.below hb FV.out.lt
            have FB : Hid (Below w.heap.size w v24) := FB.out.trans (hb.mono FB.out.size)
            clear hb
            obtain ⟨x0_0, x0_1, x0_2, x0_3, x0_4, x0_5, x0_6, x0_7, x0_8, x0_9, x0_10, x0_11⟩ := F0.out
            obtain ⟨x1_0, x1_1, x1_2, y1_0, y1_1, y1_2⟩ := F1.out
            obtain ⟨x2_0, x2_1, x2_2, y2_0, y2_1, y2_2⟩ := F2.out
            try go_wp2_with fail
            refine hK.out _ _ (by (try dsimp only); first | exact ⟨x0_0, x0_1, x0_2, x0_3, x0_4, x0_5, x0_6, x0_7, x0_8, x0_9, x0_10, x0_11, x1_0, x1_1, x1_2, x2_0, x2_1, x2_2⟩ | go_keep) (fun hHeld => ?_)
            clear hK K
            try simp only [Act.put, List.getElem_toArray, List.getElem_cons_succ, List.getElem_cons_zero, List.setIfInBounds_toArray, List.set_cons_zero, List.set_cons_succ]
            refine wpAnyH_ready (rs := [8, 9]) (by kernel_rfl) (by simp) ?_
            refine (AllReadyH.cons rfl (fun K hK => ?_) (AllReadyH.cons rfl (fun K hK => ?_) AllReadyH.nil))
            · go_simp
              refine (implBookStep_any a0 a1 a2 a3 a4 _).mono ?_
              rintro e v25 ⟨rfl, hb⟩
              have F0 : Hid (HAt v25 w.heap.size a0) := F0.out.below hb F0.out.lt
              have F1 : Hid (CW v25 (w.heap.size + 1) a1) := F1.out.below hb F1.out.lt
              have F2 : Hid (XW v25 (w.heap.size + 2) a2) := F2.out.below hb F2.out.lt
              have FV : Hid (VBk v25 b1 (Hs.bkA a0 a1 a2 a3 a4) ) := FV.out.below hb FV.out.lt
              have FB : Hid (Below w.heap.size w v25) := FB.out.trans (hb.mono FB.out.size)
              clear hb
              obtain ⟨x0_0, x0_1, x0_2, x0_3, x0_4, x0_5, x0_6, x0_7, x0_8, x0_9, x0_10, x0_11⟩ := F0.out
              obtain ⟨x1_0, x1_1, x1_2, y1_0, y1_1, y1_2⟩ := F1.out
              obtain ⟨x2_0, x2_1, x2_2, y2_0, y2_1, y2_2⟩ := F2.out
              try go_wp2_with fail
              refine hK.out _ _ (by (try dsimp only); first | exact ⟨x0_0, x0_1, x0_2, x0_3, x0_4, x0_5, x0_6, x0_7, x0_8, x0_9, x0_10, x0_11, x1_0, x1_1, x1_2, x2_0, x2_1, x2_2⟩ | go_keep) (fun hHeld => ?_)
              clear hK K
              try simp only [Act.put, List.getElem_toArray, List.getElem_cons_succ, List.getElem_cons_zero, List.setIfInBounds_toArray, List.set_cons_zero, List.set_cons_succ]
              refine wpAnyH_ready (rs := [9]) (by kernel_rfl) (by simp) ?_
              refine (AllReadyH.cons rfl (fun K hK => ?_) AllReadyH.nil)
              go_simp
              obtain ⟨b, hbb⟩ : ∃ b, b = v25.heap.size := ⟨_, rfl⟩
              obtain ⟨v26, hw2⟩ : ∃ v26, v26 = v25.alloc (.cells #[.int .i64 0, .int .i64 0, .int .i64 0, .int .i64 0, .int .i64 0, .int .i64 0, .int .i64 0] 40) := ⟨_, rfl⟩
              have n0 : w.heap.size < b := by rw [hbb]; exact F0.out.lt
              have n1 : (w.heap.size + 1) < b := by rw [hbb]; exact F1.out.lt
              have n2 : (w.heap.size + 2) < b := by rw [hbb]; exact F2.out.lt
              have n3 : b1 < b := by rw [hbb]; exact FV.out.lt
              have FA : Hid (RBk v26 b) := by rw [hw2]; exact RBk.at_ _ _ _ hbb
              have F0 : Hid (HAt v26 w.heap.size a0) := by rw [hw2]; exact F0.out.alloc _
              have F1 : Hid (CW v26 (w.heap.size + 1) a1) := by rw [hw2]; exact F1.out.alloc _
              have F2 : Hid (XW v26 (w.heap.size + 2) a2) := by rw [hw2]; exact F2.out.alloc _
              have FV : Hid (VBk v26 b1 (Hs.bkA a0 a1 a2 a3 a4) ) := by rw [hw2]; exact FV.out.alloc _
              have FB : Hid (Below w.heap.size w v26) := by rw [hw2]; exact FB.out.alloc FB.out.size _
              rw [← hw2, ← hbb]
              clear hbb hw2
              obtain ⟨x0_0, x0_1, x0_2, x0_3, x0_4, x0_5, x0_6, x0_7, x0_8, x0_9, x0_10, x0_11⟩ := F0.out
              obtain ⟨x1_0, x1_1, x1_2, y1_0, y1_1, y1_2⟩ := F1.out
              obtain ⟨x2_0, x2_1, x2_2, y2_0, y2_1, y2_2⟩ := F2.out
              refine hK.out _ _ (by (try dsimp only); first | exact ⟨x0_0, x0_1, x0_2, x0_3, x0_4, x0_5, x0_6, x0_7, x0_8, x0_9, x0_10, x0_11, x1_0, x1_1, x1_2, x2_0, x2_1, x2_2⟩ | go_keep) (fun hHeld => ?_)
              clear hK K
              try simp only [Act.put, List.getElem_toArray, List.getElem_cons_succ, List.getElem_cons_zero, List.setIfInBounds_toArray, List.set_cons_zero, List.set_cons_succ]
              refine wpAnyH_ready (rs := [10]) (by kernel_rfl) (by simp) ?_
              refine (AllReadyH.cons rfl (fun K hK => ?_) AllReadyH.nil)
              have r0_ := FA.out.c0
              have s0_ := FA.out.f0
              have r1_ := FA.out.c1
              have s1_ := FA.out.f1
              have r2_ := FA.out.c2
              have s2_ := FA.out.f2
              have r3_ := FA.out.c3
              have s3_ := FA.out.f3
              have r4_ := FA.out.c4
              have s4_ := FA.out.f4
              have r5_ := FA.out.c5
              have s5_ := FA.out.f5
              have r6_ := FA.out.c6
              have s6_ := FA.out.f6
              go_simp
              refine hK.out _ _ (by (try dsimp only); first | ((repeat' apply And.intro) <;> ((repeat rw [cellS (by omega)]); assumption)) | go_keep) (fun hHeld => ?_)
              clear hK K
              try simp only [Act.put, List.getElem_toArray, List.getElem_cons_succ, List.getElem_cons_zero, List.setIfInBounds_toArray, List.set_cons_zero, List.set_cons_succ]
              refine wpAnyH_done (by kernel_rfl) ?_ _
              go_wp2_with fail
              go_meet
              case rel => exact ⟨b, rfl, FA.out.put (Hs.bkA a0 a1 a2 a3 a4) , FV.out.below (below_putBk (Below.refl _ _) (Nat.le_refl _) (Hs.bkA a0 a1 a2 a3 a4) ) n3, below_putBk FB.out (by omega) (Hs.bkA a0 a1 a2 a3 a4) ⟩
            · go_simp
              obtain ⟨b, hbb⟩ : ∃ b, b = v24.heap.size := ⟨_, rfl⟩
              obtain ⟨v27, hw2⟩ : ∃ v27, v27 = v24.alloc (.cells #[.int .i64 0, .int .i64 0, .int .i64 0, .int .i64 0, .int .i64 0, .int .i64 0, .int .i64 0] 40) := ⟨_, rfl⟩
              have n0 : w.heap.size < b := by rw [hbb]; exact F0.out.lt
              have n1 : (w.heap.size + 1) < b := by rw [hbb]; exact F1.out.lt
              have n2 : (w.heap.size + 2) < b := by rw [hbb]; exact F2.out.lt
              have n3 : b1 < b := by rw [hbb]; exact FV.out.lt
              have FA : Hid (RBk v27 b) := by rw [hw2]; exact RBk.at_ _ _ _ hbb
              have F0 : Hid (HAt v27 w.heap.size a0) := by rw [hw2]; exact F0.out.alloc _
              have F1 : Hid (CW v27 (w.heap.size + 1) a1) := by rw [hw2]; exact F1.out.alloc _
              have F2 : Hid (XW v27 (w.heap.size + 2) a2) := by rw [hw2]; exact F2.out.alloc _
              have FV : Hid (VBk v27 b1 (Hs.bkA a0 a1 a2 a3 a4) ) := by rw [hw2]; exact FV.out.alloc _
              have FB : Hid (Below w.heap.size w v27) := by rw [hw2]; exact FB.out.alloc FB.out.size _
              rw [← hw2, ← hbb]
              clear hbb hw2
              obtain ⟨x0_0, x0_1, x0_2, x0_3, x0_4, x0_5, x0_6, x0_7, x0_8, x0_9, x0_10, x0_11⟩ := F0.out
              obtain ⟨x1_0, x1_1, x1_2, y1_0, y1_1, y1_2⟩ := F1.out
              obtain ⟨x2_0, x2_1, x2_2, y2_0, y2_1, y2_2⟩ := F2.out
              refine hK.out _ _ (by (try dsimp only); first | exact ⟨x0_0, x0_1, x0_2, x0_3, x0_4, x0_5, x0_6, x0_7, x0_8, x0_9, x0_10, x0_11, x1_0, x1_1, x1_2, x2_0, x2_1, x2_2⟩ | go_keep) (fun hHeld => ?_)
              clear hK K
              try simp only [Act.put, List.getElem_toArray, List.getElem_cons_succ, List.getElem_cons_zero, List.setIfInBounds_toArray, List.set_cons_zero, List.set_cons_succ]
              refine wpAnyH_ready (rs := [8]) (by kernel_rfl) (by simp) ?_
              refine (AllReadyH.cons rfl (fun K hK => ?_) AllReadyH.nil)
              go_simp
              refine (implBookStep_any a0 a1 a2 a3 a4 _).mono ?_
              rintro e v28 ⟨rfl, hb⟩
              have F0 : Hid (HAt v28 w.heap.size a0) := F0.out.below hb F0.out.lt
              have F1 : Hid (CW v28 (w.heap.size + 1) a1) := F1.out.below hb F1.out.lt
              have F2 : Hid (XW v28 (w.heap.size + 2) a2) := F2.out.below hb F2.out.lt
              have FV : Hid (VBk v28 b1 (Hs.bkA a0 a1 a2 a3 a4) ) := FV.out.below hb FV.out.lt
              have FA : Hid (RBk v28 b) := FA.out.below hb FA.out.lt
              have FB : Hid (Below w.heap.size w v28) := FB.out.trans (hb.mono FB.out.size)
              clear hb
              obtain ⟨x0_0, x0_1, x0_2, x0_3, x0_4, x0_5, x0_6, x0_7, x0_8, x0_9, x0_10, x0_11⟩ := F0.out
              obtain ⟨x1_0, x1_1, x1_2, y1_0, y1_1, y1_2⟩ := F1.out
              obtain ⟨x2_0, x2_1, x2_2, y2_0, y2_1, y2_2⟩ := F2.out
              try go_wp2_with fail
              refine hK.out _ _ (by (try dsimp only); first | exact ⟨x0_0, x0_1, x0_2, x0_3, x0_4, x0_5, x0_6, x0_7, x0_8, x0_9, x0_10, x0_11, x1_0, x1_1, x1_2, x2_0, x2_1, x2_2⟩ | go_keep) (fun hHeld => ?_)
              clear hK K
              try simp only [Act.put, List.getElem_toArray, List.getElem_cons_succ, List.getElem_cons_zero, List.setIfInBounds_toArray, List.set_cons_zero, List.set_cons_succ]
              refine wpAnyH_ready (rs := [10]) (by kernel_rfl) (by simp) ?_
              refine (AllReadyH.cons rfl (fun K hK => ?_) AllReadyH.nil)
              have r0_ := FA.out.c0
              have s0_ := FA.out.f0
              have r1_ := FA.out.c1
              have s1_ := FA.out.f1
              have r2_ := FA.out.c2
              have s2_ := FA.out.f2
              have r3_ := FA.out.c3
              have s3_ := FA.out.f3
              have r4_ := FA.out.c4
              have s4_ := FA.out.f4
              have r5_ := FA.out.c5
              have s5_ := FA.out.f5
              have r6_ := FA.out.c6
              have s6_ := FA.out.f6
              go_simp
              refine hK.out _ _ (by (try dsimp only); first | ((repeat' apply And.intro) <;> ((repeat rw [cellS (by omega)]); assumption)) | go_keep) (fun hHeld => ?_)
              clear hK K
              try simp only [Act.put, List.getElem_toArray, List.getElem_cons_succ, List.getElem_cons_zero, List.setIfInBounds_toArray, List.set_cons_zero, List.set_cons_succ]
              refine wpAnyH_done (by kernel_rfl) ?_ _
              go_wp2_with fail
              go_meet
              case rel => exact ⟨b, rfl, FA.out.put (Hs.bkA a0 a1 a2 a3 a4) , FV.out.below (below_putBk (Below.refl _ _) (Nat.le_refl _) (Hs.bkA a0 a1 a2 a3 a4) ) n3, below_putBk FB.out (by omega) (Hs.bkA a0 a1 a2 a3 a4) ⟩
          · go_simp
            obtain ⟨b, hbb⟩ : ∃ b, b = v23.heap.size := ⟨_, rfl⟩
            obtain ⟨v29, hw2⟩ : ∃ v29, v29 = v23.alloc (.cells #[.int .i64 0, .int .i64 0, .int .i64 0, .int .i64 0, .int .i64 0, .int .i64 0, .int .i64 0] 40) := ⟨_, rfl⟩
            have n0 : w.heap.size < b := by rw [hbb]; exact F0.out.lt
            have n1 : (w.heap.size + 1) < b := by rw [hbb]; exact F1.out.lt
            have n2 : (w.heap.size + 2) < b := by rw [hbb]; exact F2.out.lt
            have n3 : b1 < b := by rw [hbb]; exact FV.out.lt
            have FA : Hid (RBk v29 b) := by rw [hw2]; exact RBk.at_ _ _ _ hbb
            have F0 : Hid (HAt v29 w.heap.size a0) := by rw [hw2]; exact F0.out.alloc _
            have F1 : Hid (CW v29 (w.heap.size + 1) a1) := by rw [hw2]; exact F1.out.alloc _
            have F2 : Hid (XW v29 (w.heap.size + 2) a2) := by rw [hw2]; exact F2.out.alloc _
            have FV : Hid (VBk v29 b1 (Hs.bkA a0 a1 a2 a3 a4) ) := by rw [hw2]; exact FV.out.alloc _
            have FB : Hid (Below w.heap.size w v29) := by rw [hw2]; exact FB.out.alloc FB.out.size _
            rw [← hw2, ← hbb]
            clear hbb hw2
            obtain ⟨x0_0, x0_1, x0_2, x0_3, x0_4, x0_5, x0_6, x0_7, x0_8, x0_9, x0_10, x0_11⟩ := F0.out
            obtain ⟨x1_0, x1_1, x1_2, y1_0, y1_1, y1_2⟩ := F1.out
            obtain ⟨x2_0, x2_1, x2_2, y2_0, y2_1, y2_2⟩ := F2.out
            refine hK.out _ _ (by (try dsimp only); first | exact ⟨x0_0, x0_1, x0_2, x0_3, x0_4, x0_5, x0_6, x0_7, x0_8, x0_9, x0_10, x0_11, x1_0, x1_1, x1_2, x2_0, x2_1, x2_2⟩ | go_keep) (fun hHeld => ?_)
            clear hK K
            try simp only [Act.put, List.getElem_toArray, List.getElem_cons_succ, List.getElem_cons_zero, List.setIfInBounds_toArray, List.set_cons_zero, List.set_cons_succ]
            refine wpAnyH_ready (rs := [5]) (by kernel_rfl) (by simp) ?_
            refine (AllReadyH.cons rfl (fun K hK => ?_) AllReadyH.nil)
            go_simp
            refine (toCommand_any a2 _).mono ?_
            rintro e v30 ⟨rfl, hb⟩
            have F0 : Hid (HAt v30 w.heap.size a0) := F0.out.below hb F0.out.lt
            have F1 : Hid (CW v30 (w.heap.size + 1) a1) := F1.out.below hb F1.out.lt
            have F2 : Hid (XW v30 (w.heap.size + 2) a2) := F2.out.below hb F2.out.lt
            have FV : Hid (VBk v30 b1 (Hs.bkA a0 a1 a2 a3 a4) ) := FV.out.below hb FV.out.lt
            have FA : Hid (RBk v30 b) := FA.out.below hb FA.out.lt
            have FB : Hid (Below w.heap.size w v30) := FB.out.trans (hb.mono FB.out.size)
            clear hb
            obtain ⟨x0_0, x0_1, x0_2, x0_3, x0_4, x0_5, x0_6, x0_7, x0_8, x0_9, x0_10, x0_11⟩ := F0.out
            obtain ⟨x1_0, x1_1, x1_2, y1_0, y1_1, y1_2⟩ := F1.out
            obtain ⟨x2_0, x2_1, x2_2, y2_0, y2_1, y2_2⟩ := F2.out
            try go_wp2_with fail
            refine hK.out _ _ (by (try dsimp only); first | exact ⟨x0_0, x0_1, x0_2, x0_3, x0_4, x0_5, x0_6, x0_7, x0_8, x0_9, x0_10, x0_11, x1_0, x1_1, x1_2, x2_0, x2_1, x2_2⟩ | go_keep) (fun hHeld => ?_)
            clear hK K
            try simp only [Act.put, List.getElem_toArray, List.getElem_cons_succ, List.getElem_cons_zero, List.setIfInBounds_toArray, List.set_cons_zero, List.set_cons_succ]
            refine wpAnyH_ready (rs := [8]) (by kernel_rfl) (by simp) ?_
            refine (AllReadyH.cons rfl (fun K hK => ?_) AllReadyH.nil)
            go_simp
            refine (implBookStep_any a0 a1 a2 a3 a4 _).mono ?_
            rintro e v31 ⟨rfl, hb⟩
            have F0 : Hid (HAt v31 w.heap.size a0) := F0.out.below hb F0.out.lt
            have F1 : Hid (CW v31 (w.heap.size + 1) a1) := F1.out.below hb F1.out.lt
            have F2 : Hid (XW v31 (w.heap.size + 2) a2) := F2.out.below hb F2.out.lt
            have FV : Hid (VBk v31 b1 (Hs.bkA a0 a1 a2 a3 a4) ) := FV.out.below hb FV.out.lt
            have FA : Hid (RBk v31 b) := FA.out.below hb FA.out.lt
            have FB : Hid (Below w.heap.size w v31) := FB.out.trans (hb.mono FB.out.size)
            clear hb
            obtain ⟨x0_0, x0_1, x0_2, x0_3, x0_4, x0_5, x0_6, x0_7, x0_8, x0_9, x0_10, x0_11⟩ := F0.out
            obtain ⟨x1_0, x1_1, x1_2, y1_0, y1_1, y1_2⟩ := F1.out
            obtain ⟨x2_0, x2_1, x2_2, y2_0, y2_1, y2_2⟩ := F2.out
            try go_wp2_with fail
            refine hK.out _ _ (by (try dsimp only); first | exact ⟨x0_0, x0_1, x0_2, x0_3, x0_4, x0_5, x0_6, x0_7, x0_8, x0_9, x0_10, x0_11, x1_0, x1_1, x1_2, x2_0, x2_1, x2_2⟩ | go_keep) (fun hHeld => ?_)
            clear hK K
            try simp only [Act.put, List.getElem_toArray, List.getElem_cons_succ, List.getElem_cons_zero, List.setIfInBounds_toArray, List.set_cons_zero, List.set_cons_succ]
            refine wpAnyH_ready (rs := [10]) (by kernel_rfl) (by simp) ?_
            refine (AllReadyH.cons rfl (fun K hK => ?_) AllReadyH.nil)
            have r0_ := FA.out.c0
            have s0_ := FA.out.f0
            have r1_ := FA.out.c1
            have s1_ := FA.out.f1
            have r2_ := FA.out.c2
            have s2_ := FA.out.f2
            have r3_ := FA.out.c3
            have s3_ := FA.out.f3
            have r4_ := FA.out.c4
            have s4_ := FA.out.f4
            have r5_ := FA.out.c5
            have s5_ := FA.out.f5
            have r6_ := FA.out.c6
            have s6_ := FA.out.f6
            go_simp
            refine hK.out _ _ (by (try dsimp only); first | ((repeat' apply And.intro) <;> ((repeat rw [cellS (by omega)]); assumption)) | go_keep) (fun hHeld => ?_)
            clear hK K
            try simp only [Act.put, List.getElem_toArray, List.getElem_cons_succ, List.getElem_cons_zero, List.setIfInBounds_toArray, List.set_cons_zero, List.set_cons_succ]
            refine wpAnyH_done (by kernel_rfl) ?_ _
            go_wp2_with fail
            go_meet
            case rel => exact ⟨b, rfl, FA.out.put (Hs.bkA a0 a1 a2 a3 a4) , FV.out.below (below_putBk (Below.refl _ _) (Nat.le_refl _) (Hs.bkA a0 a1 a2 a3 a4) ) n3, below_putBk FB.out (by omega) (Hs.bkA a0 a1 a2 a3 a4) ⟩
        · go_simp
          obtain ⟨b, hbb⟩ : ∃ b, b = v22.heap.size := ⟨_, rfl⟩
          obtain ⟨v32, hw2⟩ : ∃ v32, v32 = v22.alloc (.cells #[.int .i64 0, .int .i64 0, .int .i64 0, .int .i64 0, .int .i64 0, .int .i64 0, .int .i64 0] 40) := ⟨_, rfl⟩
          have n0 : w.heap.size < b := by rw [hbb]; exact F0.out.lt
          have n1 : (w.heap.size + 1) < b := by rw [hbb]; exact F1.out.lt
          have n2 : (w.heap.size + 2) < b := by rw [hbb]; exact F2.out.lt
          have n3 : b1 < b := by rw [hbb]; exact FV.out.lt
          have FA : Hid (RBk v32 b) := by rw [hw2]; exact RBk.at_ _ _ _ hbb
          have F0 : Hid (HAt v32 w.heap.size a0) := by rw [hw2]; exact F0.out.alloc _
          have F1 : Hid (CW v32 (w.heap.size + 1) a1) := by rw [hw2]; exact F1.out.alloc _
          have F2 : Hid (XW v32 (w.heap.size + 2) a2) := by rw [hw2]; exact F2.out.alloc _
          have FV : Hid (VBk v32 b1 (Hs.bkA a0 a1 a2 a3 a4) ) := by rw [hw2]; exact FV.out.alloc _
          have FB : Hid (Below w.heap.size w v32) := by rw [hw2]; exact FB.out.alloc FB.out.size _
          rw [← hw2, ← hbb]
          clear hbb hw2
          obtain ⟨x0_0, x0_1, x0_2, x0_3, x0_4, x0_5, x0_6, x0_7, x0_8, x0_9, x0_10, x0_11⟩ := F0.out
          obtain ⟨x1_0, x1_1, x1_2, y1_0, y1_1, y1_2⟩ := F1.out
          obtain ⟨x2_0, x2_1, x2_2, y2_0, y2_1, y2_2⟩ := F2.out
          refine hK.out _ _ (by (try dsimp only); first | exact ⟨x0_0, x0_1, x0_2, x0_3, x0_4, x0_5, x0_6, x0_7, x0_8, x0_9, x0_10, x0_11, x1_0, x1_1, x1_2, x2_0, x2_1, x2_2⟩ | go_keep) (fun hHeld => ?_)
          clear hK K
          try simp only [Act.put, List.getElem_toArray, List.getElem_cons_succ, List.getElem_cons_zero, List.setIfInBounds_toArray, List.set_cons_zero, List.set_cons_succ]
          refine wpAnyH_ready (rs := [3]) (by kernel_rfl) (by simp) ?_
          refine (AllReadyH.cons rfl (fun K hK => ?_) AllReadyH.nil)
          go_simp
          refine (toCar_any a1 _).mono ?_
          rintro e v33 ⟨rfl, hb⟩
          have F0 : Hid (HAt v33 w.heap.size a0) := F0.out.below hb F0.out.lt
          have F1 : Hid (CW v33 (w.heap.size + 1) a1) := F1.out.below hb F1.out.lt
          have F2 : Hid (XW v33 (w.heap.size + 2) a2) := F2.out.below hb F2.out.lt
          have FV : Hid (VBk v33 b1 (Hs.bkA a0 a1 a2 a3 a4) ) := FV.out.below hb FV.out.lt
          have FA : Hid (RBk v33 b) := FA.out.below hb FA.out.lt
          have FB : Hid (Below w.heap.size w v33) := FB.out.trans (hb.mono FB.out.size)
          clear hb
          obtain ⟨x0_0, x0_1, x0_2, x0_3, x0_4, x0_5, x0_6, x0_7, x0_8, x0_9, x0_10, x0_11⟩ := F0.out
          obtain ⟨x1_0, x1_1, x1_2, y1_0, y1_1, y1_2⟩ := F1.out
          obtain ⟨x2_0, x2_1, x2_2, y2_0, y2_1, y2_2⟩ := F2.out
          try go_wp2_with fail
          refine hK.out _ _ (by (try dsimp only); first | exact ⟨x0_0, x0_1, x0_2, x0_3, x0_4, x0_5, x0_6, x0_7, x0_8, x0_9, x0_10, x0_11, x1_0, x1_1, x1_2, x2_0, x2_1, x2_2⟩ | go_keep) (fun hHeld => ?_)
          clear hK K
          try simp only [Act.put, List.getElem_toArray, List.getElem_cons_succ, List.getElem_cons_zero, List.setIfInBounds_toArray, List.set_cons_zero, List.set_cons_succ]
          refine wpAnyH_ready (rs := [5]) (by kernel_rfl) (by simp) ?_
          refine (AllReadyH.cons rfl (fun K hK => ?_) AllReadyH.nil)
          go_simp
          refine (toCommand_any a2 _).mono ?_
          rintro e v34 ⟨rfl, hb⟩
          have F0 : Hid (HAt v34 w.heap.size a0) := F0.out.below hb F0.out.lt
          have F1 : Hid (CW v34 (w.heap.size + 1) a1) := F1.out.below hb F1.out.lt
          have F2 : Hid (XW v34 (w.heap.size + 2) a2) := F2.out.below hb F2.out.lt
          have FV : Hid (VBk v34 b1 (Hs.bkA a0 a1 a2 a3 a4) ) := FV.out.below hb FV.out.lt
          have FA : Hid (RBk v34 b) := FA.out.below hb FA.out.lt
          have FB : Hid (Below w.heap.size w v34) := FB.out.trans (hb.mono FB.out.size)
          clear hb
          obtain ⟨x0_0, x0_1, x0_2, x0_3, x0_4, x0_5, x0_6, x0_7, x0_8, x0_9, x0_10, x0_11⟩ := F0.out
          obtain ⟨x1_0, x1_1, x1_2, y1_0, y1_1, y1_2⟩ := F1.out
          obtain ⟨x2_0, x2_1, x2_2, y2_0, y2_1, y2_2⟩ := F2.out
          try go_wp2_with fail
          refine hK.out _ _ (by (try dsimp only); first | exact ⟨x0_0, x0_1, x0_2, x0_3, x0_4, x0_5, x0_6, x0_7, x0_8, x0_9, x0_10, x0_11, x1_0, x1_1, x1_2, x2_0, x2_1, x2_2⟩ | go_keep) (fun hHeld => ?_)
          clear hK K
          try simp only [Act.put, List.getElem_toArray, List.getElem_cons_succ, List.getElem_cons_zero, List.setIfInBounds_toArray, List.set_cons_zero, List.set_cons_succ]
          refine wpAnyH_ready (rs := [8]) (by kernel_rfl) (by simp) ?_
          refine (AllReadyH.cons rfl (fun K hK => ?_) AllReadyH.nil)
          go_simp
          refine (implBookStep_any a0 a1 a2 a3 a4 _).mono ?_
          rintro e v35 ⟨rfl, hb⟩
          have F0 : Hid (HAt v35 w.heap.size a0) := F0.out.below hb F0.out.lt
          have F1 : Hid (CW v35 (w.heap.size + 1) a1) := F1.out.below hb F1.out.lt
          have F2 : Hid (XW v35 (w.heap.size + 2) a2) := F2.out.below hb F2.out.lt
          have FV : Hid (VBk v35 b1 (Hs.bkA a0 a1 a2 a3 a4) ) := FV.out.below hb FV.out.lt
          have FA : Hid (RBk v35 b) := FA.out.below hb FA.out.lt
          have FB : Hid (Below w.heap.size w v35) := FB.out.trans (hb.mono FB.out.size)
          clear hb
          obtain ⟨x0_0, x0_1, x0_2, x0_3, x0_4, x0_5, x0_6, x0_7, x0_8, x0_9, x0_10, x0_11⟩ := F0.out
          obtain ⟨x1_0, x1_1, x1_2, y1_0, y1_1, y1_2⟩ := F1.out
          obtain ⟨x2_0, x2_1, x2_2, y2_0, y2_1, y2_2⟩ := F2.out
          try go_wp2_with fail
          refine hK.out _ _ (by (try dsimp only); first | exact ⟨x0_0, x0_1, x0_2, x0_3, x0_4, x0_5, x0_6, x0_7, x0_8, x0_9, x0_10, x0_11, x1_0, x1_1, x1_2, x2_0, x2_1, x2_2⟩ | go_keep) (fun hHeld => ?_)
          clear hK K
          try simp only [Act.put, List.getElem_toArray, List.getElem_cons_succ, List.getElem_cons_zero, List.setIfInBounds_toArray, List.set_cons_zero, List.set_cons_succ]
          refine wpAnyH_ready (rs := [10]) (by kernel_rfl) (by simp) ?_
          refine (AllReadyH.cons rfl (fun K hK => ?_) AllReadyH.nil)
          have r0_ := FA.out.c0
          have s0_ := FA.out.f0
          have r1_ := FA.out.c1
          have s1_ := FA.out.f1
          have r2_ := FA.out.c2
          have s2_ := FA.out.f2
          have r3_ := FA.out.c3
          have s3_ := FA.out.f3
          have r4_ := FA.out.c4
          have s4_ := FA.out.f4
          have r5_ := FA.out.c5
          have s5_ := FA.out.f5
          have r6_ := FA.out.c6
          have s6_ := FA.out.f6
          go_simp
          refine hK.out _ _ (by (try dsimp only); first | ((repeat' apply And.intro) <;> ((repeat rw [cellS (by omega)]); assumption)) | go_keep) (fun hHeld => ?_)
          clear hK K
          try simp only [Act.put, List.getElem_toArray, List.getElem_cons_succ, List.getElem_cons_zero, List.setIfInBounds_toArray, List.set_cons_zero, List.set_cons_succ]
          refine wpAnyH_done (by kernel_rfl) ?_ _
          go_wp2_with fail
          go_meet
          case rel => exact ⟨b, rfl, FA.out.put (Hs.bkA a0 a1 a2 a3 a4) , FV.out.below (below_putBk (Below.refl _ _) (Nat.le_refl _) (Hs.bkA a0 a1 a2 a3 a4) ) n3, below_putBk FB.out (by omega) (Hs.bkA a0 a1 a2 a3 a4) ⟩
      · go_simp
        obtain ⟨b, hbb⟩ : ∃ b, b = v21.heap.size := ⟨_, rfl⟩
        obtain ⟨v36, hw2⟩ : ∃ v36, v36 = v21.alloc (.cells #[.int .i64 0, .int .i64 0, .int .i64 0, .int .i64 0, .int .i64 0, .int .i64 0, .int .i64 0] 40) := ⟨_, rfl⟩
        have n0 : w.heap.size < b := by rw [hbb]; exact F0.out.lt
        have n1 : (w.heap.size + 1) < b := by rw [hbb]; exact F1.out.lt
        have n2 : (w.heap.size + 2) < b := by rw [hbb]; exact F2.out.lt
        have n3 : b1 < b := by rw [hbb]; exact FV.out.lt
        have FA : Hid (RBk v36 b) := by rw [hw2]; exact RBk.at_ _ _ _ hbb
        have F0 : Hid (HAt v36 w.heap.size a0) := by rw [hw2]; exact F0.out.alloc _
        have F1 : Hid (CW v36 (w.heap.size + 1) a1) := by rw [hw2]; exact F1.out.alloc _
        have F2 : Hid (XW v36 (w.heap.size + 2) a2) := by rw [hw2]; exact F2.out.alloc _
        have FV : Hid (VBk v36 b1 (Hs.bkA a0 a1 a2 a3 a4) ) := by rw [hw2]; exact FV.out.alloc _
        have FB : Hid (Below w.heap.size w v36) := by rw [hw2]; exact FB.out.alloc FB.out.size _
        rw [← hw2, ← hbb]
        clear hbb hw2
        obtain ⟨x0_0, x0_1, x0_2, x0_3, x0_4, x0_5, x0_6, x0_7, x0_8, x0_9, x0_10, x0_11⟩ := F0.out
        obtain ⟨x1_0, x1_1, x1_2, y1_0, y1_1, y1_2⟩ := F1.out
        obtain ⟨x2_0, x2_1, x2_2, y2_0, y2_1, y2_2⟩ := F2.out
        refine hK.out _ _ (by (try dsimp only); first | exact ⟨x0_0, x0_1, x0_2, x0_3, x0_4, x0_5, x0_6, x0_7, x0_8, x0_9, x0_10, x0_11, x1_0, x1_1, x1_2, x2_0, x2_1, x2_2⟩ | go_keep) (fun hHeld => ?_)
        clear hK K
        try simp only [Act.put, List.getElem_toArray, List.getElem_cons_succ, List.getElem_cons_zero, List.setIfInBounds_toArray, List.set_cons_zero, List.set_cons_succ]
        refine wpAnyH_ready (rs := [1]) (by kernel_rfl) (by simp) ?_
        refine (AllReadyH.cons rfl (fun K hK => ?_) AllReadyH.nil)
        go_simp
        refine (toHouse_any a0 _).mono ?_
        rintro e v37 ⟨rfl, hb⟩
        have F0 : Hid (HAt v37 w.heap.size a0) := F0.out.below hb F0.out.lt
        have F1 : Hid (CW v37 (w.heap.size + 1) a1) := F1.out.below hb F1.out.lt
        have F2 : Hid (XW v37 (w.heap.size + 2) a2) := F2.out.below hb F2.out.lt
        have FV : Hid (VBk v37 b1 (Hs.bkA a0 a1 a2 a3 a4) ) := FV.out.below hb FV.out.lt
        have FA : Hid (RBk v37 b) := FA.out.below hb FA.out.lt
        have FB : Hid (Below w.heap.size w v37) := FB.out.trans (hb.mono FB.out.size)
        clear hb
        obtain ⟨x0_0, x0_1, x0_2, x0_3, x0_4, x0_5, x0_6, x0_7, x0_8, x0_9, x0_10, x0_11⟩ := F0.out
        obtain ⟨x1_0, x1_1, x1_2, y1_0, y1_1, y1_2⟩ := F1.out
        obtain ⟨x2_0, x2_1, x2_2, y2_0, y2_1, y2_2⟩ := F2.out
        try go_wp2_with fail
        refine hK.out _ _ (by (try dsimp only); first | exact ⟨x0_0, x0_1, x0_2, x0_3, x0_4, x0_5, x0_6, x0_7, x0_8, x0_9, x0_10, x0_11, x1_0, x1_1, x1_2, x2_0, x2_1, x2_2⟩ | go_keep) (fun hHeld => ?_)
        clear hK K
        try simp only [Act.put, List.getElem_toArray, List.getElem_cons_succ, List.getElem_cons_zero, List.setIfInBounds_toArray, List.set_cons_zero, List.set_cons_succ]
        refine wpAnyH_ready (rs := [3]) (by kernel_rfl) (by simp) ?_
        refine (AllReadyH.cons rfl (fun K hK => ?_) AllReadyH.nil)
        go_simp
        refine (toCar_any a1 _).mono ?_
        rintro e v38 ⟨rfl, hb⟩
        have F0 : Hid (HAt v38 w.heap.size a0) := F0.out.below hb F0.out.lt
        have F1 : Hid (CW v38 (w.heap.size + 1) a1) := F1.out.below hb F1.out.lt
        have F2 : Hid (XW v38 (w.heap.size + 2) a2) := F2.out.below hb F2.out.lt
        have FV : Hid (VBk v38 b1 (Hs.bkA a0 a1 a2 a3 a4) ) := FV.out.below hb FV.out.lt
        have FA : Hid (RBk v38 b) := FA.out.below hb FA.out.lt
        have FB : Hid (Below w.heap.size w v38) := FB.out.trans (hb.mono FB.out.size)
        clear hb
        obtain ⟨x0_0, x0_1, x0_2, x0_3, x0_4, x0_5, x0_6, x0_7, x0_8, x0_9, x0_10, x0_11⟩ := F0.out
        obtain ⟨x1_0, x1_1, x1_2, y1_0, y1_1, y1_2⟩ := F1.out
        obtain ⟨x2_0, x2_1, x2_2, y2_0, y2_1, y2_2⟩ := F2.out
        try go_wp2_with fail
        refine hK.out _ _ (by (try dsimp only); first | exact ⟨x0_0, x0_1, x0_2, x0_3, x0_4, x0_5, x0_6, x0_7, x0_8, x0_9, x0_10, x0_11, x1_0, x1_1, x1_2, x2_0, x2_1, x2_2⟩ | go_keep) (fun hHeld => ?_)
        clear hK K
        try simp only [Act.put, List.getElem_toArray, List.getElem_cons_succ, List.getElem_cons_zero, List.setIfInBounds_toArray, List.set_cons_zero, List.set_cons_succ]
        refine wpAnyH_ready (rs := [5]) (by kernel_rfl) (by simp) ?_
        refine (AllReadyH.cons rfl (fun K hK => ?_) AllReadyH.nil)
        go_simp
        refine (toCommand_any a2 _).mono ?_
        rintro e v39 ⟨rfl, hb⟩
        have F0 : Hid (HAt v39 w.heap.size a0) := F0.out.below hb F0.out.lt
        have F1 : Hid (CW v39 (w.heap.size + 1) a1) := F1.out.below hb F1.out.lt
        have F2 : Hid (XW v39 (w.heap.size + 2) a2) := F2.out.below hb F2.out.lt
        have FV : Hid (VBk v39 b1 (Hs.bkA a0 a1 a2 a3 a4) ) := FV.out.below hb FV.out.lt
        have FA : Hid (RBk v39 b) := FA.out.below hb FA.out.lt
        have FB : Hid (Below w.heap.size w v39) := FB.out.trans (hb.mono FB.out.size)
        clear hb
        obtain ⟨x0_0, x0_1, x0_2, x0_3, x0_4, x0_5, x0_6, x0_7, x0_8, x0_9, x0_10, x0_11⟩ := F0.out
        obtain ⟨x1_0, x1_1, x1_2, y1_0, y1_1, y1_2⟩ := F1.out
        obtain ⟨x2_0, x2_1, x2_2, y2_0, y2_1, y2_2⟩ := F2.out
        try go_wp2_with fail
        refine hK.out _ _ (by (try dsimp only); first | exact ⟨x0_0, x0_1, x0_2, x0_3, x0_4, x0_5, x0_6, x0_7, x0_8, x0_9, x0_10, x0_11, x1_0, x1_1, x1_2, x2_0, x2_1, x2_2⟩ | go_keep) (fun hHeld => ?_)
        clear hK K
        try simp only [Act.put, List.getElem_toArray, List.getElem_cons_succ, List.getElem_cons_zero, List.setIfInBounds_toArray, List.set_cons_zero, List.set_cons_succ]
        refine wpAnyH_ready (rs := [8]) (by kernel_rfl) (by simp) ?_
        refine (AllReadyH.cons rfl (fun K hK => ?_) AllReadyH.nil)
        go_simp
        refine (implBookStep_any a0 a1 a2 a3 a4 _).mono ?_
        rintro e v40 ⟨rfl, hb⟩
        have F0 : Hid (HAt v40 w.heap.size a0) := F0.out.below hb F0.out.lt
        have F1 : Hid (CW v40 (w.heap.size + 1) a1) := F1.out.below hb F1.out.lt
        have F2 : Hid (XW v40 (w.heap.size + 2) a2) := F2.out.below hb F2.out.lt
        have FV : Hid (VBk v40 b1 (Hs.bkA a0 a1 a2 a3 a4) ) := FV.out.below hb FV.out.lt
        have FA : Hid (RBk v40 b) := FA.out.below hb FA.out.lt
        have FB : Hid (Below w.heap.size w v40) := FB.out.trans (hb.mono FB.out.size)
        clear hb
        obtain ⟨x0_0, x0_1, x0_2, x0_3, x0_4, x0_5, x0_6, x0_7, x0_8, x0_9, x0_10, x0_11⟩ := F0.out
        obtain ⟨x1_0, x1_1, x1_2, y1_0, y1_1, y1_2⟩ := F1.out
        obtain ⟨x2_0, x2_1, x2_2, y2_0, y2_1, y2_2⟩ := F2.out
        try go_wp2_with fail
        refine hK.out _ _ (by (try dsimp only); first | exact ⟨x0_0, x0_1, x0_2, x0_3, x0_4, x0_5, x0_6, x0_7, x0_8, x0_9, x0_10, x0_11, x1_0, x1_1, x1_2, x2_0, x2_1, x2_2⟩ | go_keep) (fun hHeld => ?_)
        clear hK K
        try simp only [Act.put, List.getElem_toArray, List.getElem_cons_succ, List.getElem_cons_zero, List.setIfInBounds_toArray, List.set_cons_zero, List.set_cons_succ]
        refine wpAnyH_ready (rs := [10]) (by kernel_rfl) (by simp) ?_
        refine (AllReadyH.cons rfl (fun K hK => ?_) AllReadyH.nil)
        have r0_ := FA.out.c0
        have s0_ := FA.out.f0
        have r1_ := FA.out.c1
        have s1_ := FA.out.f1
        have r2_ := FA.out.c2
        have s2_ := FA.out.f2
        have r3_ := FA.out.c3
        have s3_ := FA.out.f3
        have r4_ := FA.out.c4
        have s4_ := FA.out.f4
        have r5_ := FA.out.c5
        have s5_ := FA.out.f5
        have r6_ := FA.out.c6
        have s6_ := FA.out.f6
        go_simp
        refine hK.out _ _ (by (try dsimp only); first | ((repeat' apply And.intro) <;> ((repeat rw [cellS (by omega)]); assumption)) | go_keep) (fun hHeld => ?_)
        clear hK K
        try simp only [Act.put, List.getElem_toArray, List.getElem_cons_succ, List.getElem_cons_zero, List.setIfInBounds_toArray, List.set_cons_zero, List.set_cons_succ]
        refine wpAnyH_done (by kernel_rfl) ?_ _
        go_wp2_with fail
        go_meet
        case rel => exact ⟨b, rfl, FA.out.put (Hs.bkA a0 a1 a2 a3 a4) , FV.out.below (below_putBk (Below.refl _ _) (Nat.le_refl _) (Hs.bkA a0 a1 a2 a3 a4) ) n3, below_putBk FB.out (by omega) (Hs.bkA a0 a1 a2 a3 a4) ⟩
    case rest =>
      obtain ⟨b2, rfl, hg, hv, hB⟩ := hcut
      have FB : Hid (Below w.heap.size w wc) := hB
      clear hB
      obtain ⟨g0, g1, g2, g3, g4, g5, g6⟩ := hg
      obtain ⟨u0_, u1_, u2_, u3_, u4_, u5_, u6_⟩ := hv
      go_wp2_with (go_at_call 24; refine (eqBook_same (Hs.bkA a0 a1 a2 a3 a4) _).mono ?_; rintro e w9 ⟨rfl, hb⟩; have FB : Hid (Below w.heap.size w w9) := FB.out.trans (hb.mono FB.out.size); clear hb)
      go_ret
      exact ⟨rfl, FB.out⟩

set_option maxRecDepth 100000 in
theorem lifted (os : Os) (started : os.Started) (H : Type) (enc : TypeId × Value → H) :
    ReturnsInHanded {} Try.checked os 7 .any (Rows.fnExactBookStepSpec.pre6 enc Try.prog Try.f7 Rows.fnExactBookStepRow.domain false) (Rows.fnExactBookStepSpec.post enc Try.prog Try.f7 false true false false) := by
  refine returnsInHanded_of_change (C := Try.checked) own started (by kernel_rfl) Try.func7
    (ChangeSpec.witness6 (enc := enc) (C := Try.checked) false ⟨#[], #[.agg #[.int .i64 0, .int .i64 0, .int .i64 0, .int .i64 0, .int .i64 0, .int .i64 0, .int .i64 0, .int .i64 0, .int .i64 0, .int .i64 0, .int .i64 0, .int .i64 0], .agg #[.int .i64 0, .int .i64 0, .int .i64 0], .agg #[.int .i64 0, .bool false, .bool false], .int .i64 0, .int .i64 0], []⟩ 8 (by kernel_rfl) (by kernel_rfl) (by kernel_rfl) (by kernel_rfl)) ?_
  intro W base args ds gs before hval0 hW hcnd _
  have hval : ∀ (j : Nat) t v, Try.f7.params[j]? = some t → args[j]? = some v → Value.okWide Try.prog W .any base t v := hval0
  have hW' := hW
  obtain ⟨p, q, hA0, hV, rfl, hfz, hnd⟩ := hW
  have hA : DataW.TrodAll enc Try.prog W 0 (fun _ => true) true Try.f7.params.toList args.toList ds p := hA0
  rw [Try.params7] at hA hval
  obtain ⟨v0, vs0, d0, ds0, p0, q0, hargs, rfl, rfl, h0, r0⟩ := trodAll_cons hA
  obtain ⟨v1, vs1, d1, ds1, p1, q1, rfl, rfl, rfl, h1, r1⟩ := trodAll_cons r0
  obtain ⟨v2, vs2, d2, ds2, p2, q2, rfl, rfl, rfl, h2, r2⟩ := trodAll_cons r1
  obtain ⟨v3, vs3, d3, ds3, p3, q3, rfl, rfl, rfl, h3, r3⟩ := trodAll_cons r2
  obtain ⟨v4, vs4, d4, ds4, p4, q4, rfl, rfl, rfl, h4, r4⟩ := trodAll_cons r3
  obtain ⟨rfl, rfl, rfl⟩ := trodAll_nil r4
  obtain rfl : args = #[v0, v1, v2, v3, v4] := by cases args; simp_all
  obtain ⟨rfl, rfl⟩ := trodVars_none hV
  have k0 := h0
  have lt0 : ∀ x ∈ p0, x.block < W.heap.size := by obtain ⟨m, hm⟩ := k0; exact DataW.trod_lt m _ _ _ hm
  obtain ⟨xs0, hl0, rfl, w0⟩ := open_i64s Try.underlying23 Try.underlying2 (by kernel_rfl) (by kernel_rfl) (by kernel_rfl) (hval 0 23 v0 rfl rfl) h0
  obtain ⟨x0_0, x0_1, x0_2, x0_3, x0_4, x0_5, x0_6, x0_7, x0_8, x0_9, x0_10, x0_11, rfl⟩ := list12 hl0
  have k1 := h1
  have lt1 : ∀ x ∈ p1, x.block < W.heap.size := by obtain ⟨m, hm⟩ := k1; exact DataW.trod_lt m _ _ _ hm
  obtain ⟨xs1, hl1, rfl, w1⟩ := open_i64s Try.underlying32 Try.underlying2 (by kernel_rfl) (by kernel_rfl) (by kernel_rfl) (hval 1 32 v1 rfl rfl) h1
  obtain ⟨x1_0, x1_1, x1_2, rfl⟩ := list3 hl1
  have k2 := h2
  have lt2 : ∀ x ∈ p2, x.block < W.heap.size := by obtain ⟨m, hm⟩ := k2; exact DataW.trod_lt m _ _ _ hm
  obtain ⟨x2_0, x2_1, x2_2, rfl, w2⟩ := open_cmd Try.underlying38 Try.underlying2 Try.underlying4 (by kernel_rfl) (by kernel_rfl) (by kernel_rfl) (by kernel_rfl) (hval 2 38 v2 rfl rfl) h2
  have k3 := h3
  have lt3 : ∀ x ∈ p3, x.block < W.heap.size := by obtain ⟨m, hm⟩ := k3; exact DataW.trod_lt m _ _ _ hm
  obtain ⟨a3, rfl, _, _, w3⟩ := open_int Try.underlying2 (hval 3 2 v3 rfl rfl) h3
  have k4 := h4
  have lt4 : ∀ x ∈ p4, x.block < W.heap.size := by obtain ⟨m, hm⟩ := k4; exact DataW.trod_lt m _ _ _ hm
  obtain ⟨a4, rfl, _, _, w4⟩ := open_int Try.underlying2 (hval 4 2 v4 rfl rfl) h4
  clear hA0 hval0
  refine (walk ⟨x0_0, x0_1, x0_2, x0_3, x0_4, x0_5, x0_6, x0_7, x0_8, x0_9, x0_10, x0_11⟩ ⟨x1_0, x1_1, x1_2⟩ ⟨x2_0, x2_1, x2_2⟩ a3 a4 w0 w1 w2 w3 w4 W).mono fun e W' ⟨he, bel⟩ => ?_
  subst he
  exact ⟨_, rfl, _, _, _, [], _, [], hW', trodAll_mk1 (shut_bool Try.underlying4 _), (trodAll_cons_mk (Below.trod laidOut (by kernel_rfl) (of_decide_eq_true (by kernel_rfl)) k0 bel lt0) (trodAll_cons_mk (Below.trod laidOut (by kernel_rfl) (of_decide_eq_true (by kernel_rfl)) k1 bel lt1) (trodAll_cons_mk (Below.trod laidOut (by kernel_rfl) (of_decide_eq_true (by kernel_rfl)) k2 bel lt2) (trodAll_cons_mk (Below.trod laidOut (by kernel_rfl) (of_decide_eq_true (by kernel_rfl)) k3 bel lt3) (trodAll_cons_mk (Below.trod laidOut (by kernel_rfl) (of_decide_eq_true (by kernel_rfl)) k4 bel lt4) trodAll_mk0))))), rfl, bel.frame _, fun h => by cases h⟩

theorem over : Rows.fnExactBookStepRow.holds Try.pinned (OpenSpec.ofChange Rows.fnExactBookStepSpec) :=
  OpenClaim.holds_of_wide 7 Try.f7 rfl rfl rfl rfl rfl rfl rfl ⟨rfl, rfl, rfl, rfl, rfl⟩ rfl rfl rfl rfl rfl (by kernel_rfl) Try.func7 (by kernel_rfl)
    (of_decide_eq_true (by kernel_rfl)) (by unfold Func.isWrapper; first | (rw [if_pos (by decide +kernel)]; kernel_rfl) | (rw [if_neg (by decide +kernel)]; exact ⟨rfl, rfl⟩))
    (fun os started H enc _ => lifted os started H enc)

theorem proved : Rows.FnExactBookStepSaid := over
end Go.Proofs.Ytngdfckknkgdgaa.fnExactBookStep

namespace Go.Proofs.Ytngdfckknkgdgaa
theorem fnExactBookStep_holds : Rows.FnExactBookStepSaid := fnExactBookStep.proved
#print axioms fnExactBookStep_holds
end Go.Proofs.Ytngdfckknkgdgaa
