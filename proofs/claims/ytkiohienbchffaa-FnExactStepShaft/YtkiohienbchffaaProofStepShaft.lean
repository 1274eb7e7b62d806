/-
  A tick of a shaft: the program answers as the document says.
-/
import Derived.Test.YtkiohienbchffaaRows
import Derived.WalkKit
import Derived.ProofKit
import Derived.OpenShut
import Derived.ChangeOld
import Derived.Below
import Derived.Test.YtkiohienbchffaaGuardP
import Derived.Test.YtkiohienbchffaaGuardE
import Derived.Test.YtkiohienbchffaaCarT
import Derived.Test.YtkiohienbchffaaOpenI
import Derived.Test.YtkiohienbchffaaOpenC
namespace Go.Proofs.Ytkiohienbchffaa.fnExactStepShaft
open Go.ChangeShapes Go.WideShapes Go.ChangeAt Go.RowKit
set_option linter.unusedVariables false
set_option linter.unusedSimpArgs false

theorem own : ownKnob Try.prog.godebug = none := by kernel_rfl
theorem laidOut : laidOutB Try.prog = true := by kernel_rfl

set_option maxHeartbeats 32000000 in
theorem walk (a0 : Pl.Hs) (a1 : Pl.Sh) (a2 : Pl.Cm) (a3 : Pl.Cm) (a4 : Int) (a5 : Int) (w0 : ∀ x ∈ [a0.fl, a0.gp, a0.ln, a0.rf, a0.sp, a0.pu, a0.br, a0.dr, a0.lv, a0.dO, a0.ld, a0.qu], (Lit.int .i64 x).wf = true) (w1 : ∀ x ∈ [a1.lo.pos, a1.lo.vel, a1.lo.door, a1.up.pos, a1.up.vel, a1.up.door], (Lit.int .i64 x).wf = true) (w2 : (Lit.int .i64 a2.push).wf = true) (w3 : (Lit.int .i64 a3.push).wf = true) (w4 : (Lit.int .i64 a4).wf = true) (w5 : (Lit.int .i64 a5).wf = true) (w : World) :
    Calls Try.prog 8 #[.agg #[.int .i64 a0.fl, .int .i64 a0.gp, .int .i64 a0.ln, .int .i64 a0.rf, .int .i64 a0.sp, .int .i64 a0.pu, .int .i64 a0.br, .int .i64 a0.dr, .int .i64 a0.lv, .int .i64 a0.dO, .int .i64 a0.ld, .int .i64 a0.qu], .agg #[.int .i64 a1.lo.pos, .int .i64 a1.lo.vel, .int .i64 a1.lo.door, .int .i64 a1.up.pos, .int .i64 a1.up.vel, .int .i64 a1.up.door], .agg #[.int .i64 a2.push, .bool a2.brk, .bool a2.opn], .agg #[.int .i64 a3.push, .bool a3.brk, .bool a3.opn], .int .i64 a4, .int .i64 a5] w fun e w' => e = .returned (.bool true) ∧ Below w.heap.size w w' := by
  obtain ⟨W0, hW0⟩ : ∃ W0, W0 = ((((w.alloc (.cells #[.int .i64 a0.fl, .int .i64 a0.gp, .int .i64 a0.ln, .int .i64 a0.rf, .int .i64 a0.sp, .int .i64 a0.pu, .int .i64 a0.br, .int .i64 a0.dr, .int .i64 a0.lv, .int .i64 a0.dO, .int .i64 a0.ld, .int .i64 a0.qu] 38)).alloc (.cells #[.int .i64 a1.lo.pos, .int .i64 a1.lo.vel, .int .i64 a1.lo.door, .int .i64 a1.up.pos, .int .i64 a1.up.vel, .int .i64 a1.up.door] 50)).alloc (.cells #[.int .i64 a2.push, .bool a2.brk, .bool a2.opn] 40)).alloc (.cells #[.int .i64 a3.push, .bool a3.brk, .bool a3.opn] 40)) := ⟨_, rfl⟩
  have F0 : Hid (HAt W0 w.heap.size a0) := by rw [hW0]; exact (((HAt.at_ w a0 _ _ (by simp)).alloc _).alloc _).alloc _
  have F1 : Hid (SW W0 (w.heap.size + 1) a1) := by rw [hW0]; exact ((SW.at_ (w.alloc (.cells #[.int .i64 a0.fl, .int .i64 a0.gp, .int .i64 a0.ln, .int .i64 a0.rf, .int .i64 a0.sp, .int .i64 a0.pu, .int .i64 a0.br, .int .i64 a0.dr, .int .i64 a0.lv, .int .i64 a0.dO, .int .i64 a0.ld, .int .i64 a0.qu] 38)) a1 _ _ (by simp)).alloc _).alloc _
  have F2 : Hid (XW W0 (w.heap.size + 2) a2) := by rw [hW0]; exact (XW.at_ ((w.alloc (.cells #[.int .i64 a0.fl, .int .i64 a0.gp, .int .i64 a0.ln, .int .i64 a0.rf, .int .i64 a0.sp, .int .i64 a0.pu, .int .i64 a0.br, .int .i64 a0.dr, .int .i64 a0.lv, .int .i64 a0.dO, .int .i64 a0.ld, .int .i64 a0.qu] 38)).alloc (.cells #[.int .i64 a1.lo.pos, .int .i64 a1.lo.vel, .int .i64 a1.lo.door, .int .i64 a1.up.pos, .int .i64 a1.up.vel, .int .i64 a1.up.door] 50)) a2 _ _ (by simp)).alloc _
  have F3 : Hid (XW W0 (w.heap.size + 3) a3) := by rw [hW0]; exact XW.at_ (((w.alloc (.cells #[.int .i64 a0.fl, .int .i64 a0.gp, .int .i64 a0.ln, .int .i64 a0.rf, .int .i64 a0.sp, .int .i64 a0.pu, .int .i64 a0.br, .int .i64 a0.dr, .int .i64 a0.lv, .int .i64 a0.dO, .int .i64 a0.ld, .int .i64 a0.qu] 38)).alloc (.cells #[.int .i64 a1.lo.pos, .int .i64 a1.lo.vel, .int .i64 a1.lo.door, .int .i64 a1.up.pos, .int .i64 a1.up.vel, .int .i64 a1.up.door] 50)).alloc (.cells #[.int .i64 a2.push, .bool a2.brk, .bool a2.opn] 40)) a3 _ _ (by simp)
  have FB : Hid (Below w.heap.size w W0) := by rw [hW0]; exact (((((Below.refl _ _).alloc (Nat.le_refl _) _).alloc (by simp <;> omega) _).alloc (by simp <;> omega) _).alloc (by simp <;> omega) _)
  have HW0 : Hid (W0 = ((((w.alloc (.cells #[.int .i64 a0.fl, .int .i64 a0.gp, .int .i64 a0.ln, .int .i64 a0.rf, .int .i64 a0.sp, .int .i64 a0.pu, .int .i64 a0.br, .int .i64 a0.dr, .int .i64 a0.lv, .int .i64 a0.dO, .int .i64 a0.ld, .int .i64 a0.qu] 38)).alloc (.cells #[.int .i64 a1.lo.pos, .int .i64 a1.lo.vel, .int .i64 a1.lo.door, .int .i64 a1.up.pos, .int .i64 a1.up.vel, .int .i64 a1.up.door] 50)).alloc (.cells #[.int .i64 a2.push, .bool a2.brk, .bool a2.opn] 40)).alloc (.cells #[.int .i64 a3.push, .bool a3.brk, .bool a3.opn] 40))) := hW0
  clear hW0
  go_enter Try.func8, Try.ntmps8
  go_wp2_with fail
  rw [← HW0.out]
  clear HW0
  go_cut [13] (fun p wx => ∃ b, p = .pointer (some ⟨b, 0, none⟩) ∧ V7 wx b (Hs.stepK a0 a1 a2 a3 a4 a5) (Hs.stepV a0 a1 a2 a3 a4 a5) ∧ HAt wx w.heap.size a0 ∧ SW wx (w.heap.size + 1) a1 ∧ XW wx (w.heap.size + 2) a2 ∧ XW wx (w.heap.size + 3) a3 ∧ Below w.heap.size w wx)
  case first =>
    have F0 : Hid (HAt W0.drew w.heap.size a0) := F0.out.below (Below.refl _ _).drew F0.out.lt
    have F1 : Hid (SW W0.drew (w.heap.size + 1) a1) := F1.out.below (Below.refl _ _).drew F1.out.lt
    have F2 : Hid (XW W0.drew (w.heap.size + 2) a2) := F2.out.below (Below.refl _ _).drew F2.out.lt
    have F3 : Hid (XW W0.drew (w.heap.size + 3) a3) := F3.out.below (Below.refl _ _).drew F3.out.lt
    have FB : Hid (Below w.heap.size w W0.drew) := FB.out.drew
    obtain ⟨x0_0, x0_1, x0_2, x0_3, x0_4, x0_5, x0_6, x0_7, x0_8, x0_9, x0_10, x0_11⟩ := F0.out
    obtain ⟨x1_0, x1_1, x1_2, x1_3, x1_4, x1_5, y1_0, y1_1, y1_2, y1_3, y1_4, y1_5⟩ := F1.out
    obtain ⟨x2_0, x2_1, x2_2, y2_0, y2_1, y2_2⟩ := F2.out
    obtain ⟨x3_0, x3_1, x3_2, y3_0, y3_1, y3_2⟩ := F3.out
    refine wp_region_held_drew (S := (fun w'' => w''.cell? ⟨w.heap.size, 0, none⟩ = some (.int .i64 a0.fl) ∧ w''.cell? ⟨w.heap.size, 1, none⟩ = some (.int .i64 a0.gp) ∧ w''.cell? ⟨w.heap.size, 2, none⟩ = some (.int .i64 a0.ln) ∧ w''.cell? ⟨w.heap.size, 3, none⟩ = some (.int .i64 a0.rf) ∧ w''.cell? ⟨w.heap.size, 4, none⟩ = some (.int .i64 a0.sp) ∧ w''.cell? ⟨w.heap.size, 5, none⟩ = some (.int .i64 a0.pu) ∧ w''.cell? ⟨w.heap.size, 6, none⟩ = some (.int .i64 a0.br) ∧ w''.cell? ⟨w.heap.size, 7, none⟩ = some (.int .i64 a0.dr) ∧ w''.cell? ⟨w.heap.size, 8, none⟩ = some (.int .i64 a0.lv) ∧ w''.cell? ⟨w.heap.size, 9, none⟩ = some (.int .i64 a0.dO) ∧ w''.cell? ⟨w.heap.size, 10, none⟩ = some (.int .i64 a0.ld) ∧ w''.cell? ⟨w.heap.size, 11, none⟩ = some (.int .i64 a0.qu) ∧ w''.cell? ⟨(w.heap.size + 1), 0, none⟩ = some (.int .i64 a1.lo.pos) ∧ w''.cell? ⟨(w.heap.size + 1), 1, none⟩ = some (.int .i64 a1.lo.vel) ∧ w''.cell? ⟨(w.heap.size + 1), 2, none⟩ = some (.int .i64 a1.lo.door) ∧ w''.cell? ⟨(w.heap.size + 1), 3, none⟩ = some (.int .i64 a1.up.pos) ∧ w''.cell? ⟨(w.heap.size + 1), 4, none⟩ = some (.int .i64 a1.up.vel) ∧ w''.cell? ⟨(w.heap.size + 1), 5, none⟩ = some (.int .i64 a1.up.door) ∧ w''.cell? ⟨(w.heap.size + 2), 0, none⟩ = some (.int .i64 a2.push) ∧ w''.cell? ⟨(w.heap.size + 2), 1, none⟩ = some (.bool a2.brk) ∧ w''.cell? ⟨(w.heap.size + 2), 2, none⟩ = some (.bool a2.opn) ∧ w''.cell? ⟨(w.heap.size + 3), 0, none⟩ = some (.int .i64 a3.push) ∧ w''.cell? ⟨(w.heap.size + 3), 1, none⟩ = some (.bool a3.brk) ∧ w''.cell? ⟨(w.heap.size + 3), 2, none⟩ = some (.bool a3.opn))) (by kernel_rfl) (by (try dsimp only); first | exact ⟨x0_0, x0_1, x0_2, x0_3, x0_4, x0_5, x0_6, x0_7, x0_8, x0_9, x0_10, x0_11, x1_0, x1_1, x1_2, x1_3, x1_4, x1_5, x2_0, x2_1, x2_2, x3_0, x3_1, x3_2⟩ | go_keep) (fun hHeld => ?_)
    obtain ⟨v1, hw1⟩ : ∃ v1, v1 = W0.drew := ⟨_, rfl⟩
    have F0 : Hid (HAt v1 w.heap.size a0) := by rw [hw1]; exact F0.out
    have F1 : Hid (SW v1 (w.heap.size + 1) a1) := by rw [hw1]; exact F1.out
    have F2 : Hid (XW v1 (w.heap.size + 2) a2) := by rw [hw1]; exact F2.out
    have F3 : Hid (XW v1 (w.heap.size + 3) a3) := by rw [hw1]; exact F3.out
    have FB : Hid (Below w.heap.size w v1) := by rw [hw1]; exact FB.out
    rw [← hw1] at hHeld ⊢
    clear hw1
    obtain ⟨x0_0, x0_1, x0_2, x0_3, x0_4, x0_5, x0_6, x0_7, x0_8, x0_9, x0_10, x0_11⟩ := F0.out
    obtain ⟨x1_0, x1_1, x1_2, x1_3, x1_4, x1_5, y1_0, y1_1, y1_2, y1_3, y1_4, y1_5⟩ := F1.out
    obtain ⟨x2_0, x2_1, x2_2, y2_0, y2_1, y2_2⟩ := F2.out
    obtain ⟨x3_0, x3_1, x3_2, y3_0, y3_1, y3_2⟩ := F3.out
    refine wpAnyH_take (i := 0) (v := _) rfl (by kernel_rfl) (by kernel_rfl) (by kernel_rfl) (fun _ _ _ h => h) (Or.inl ⟨by kernel_rfl, by (intro wx hSw; (try dsimp only at hSw); go_simp <;> with_reducible rfl)⟩) (by assumption) ?_
    try simp only [Act.put, List.getElem_toArray, List.getElem_cons_succ, List.getElem_cons_zero, List.setIfInBounds_toArray, List.set_cons_zero, List.set_cons_succ]
    refine wpAnyH_take (i := 2) (v := _) rfl (by kernel_rfl) (by kernel_rfl) (by kernel_rfl) (fun _ _ _ h => h) (Or.inl ⟨by kernel_rfl, by (intro wx hSw; (try dsimp only at hSw); go_simp <;> with_reducible rfl)⟩) (by assumption) ?_
    try simp only [Act.put, List.getElem_toArray, List.getElem_cons_succ, List.getElem_cons_zero, List.setIfInBounds_toArray, List.set_cons_zero, List.set_cons_succ]
    refine wpAnyH_take (i := 4) (v := _) rfl (by kernel_rfl) (by kernel_rfl) (by kernel_rfl) (fun _ _ _ h => h) (Or.inl ⟨by kernel_rfl, by (intro wx hSw; (try dsimp only at hSw); go_simp <;> with_reducible rfl)⟩) (by assumption) ?_
    try simp only [Act.put, List.getElem_toArray, List.getElem_cons_succ, List.getElem_cons_zero, List.setIfInBounds_toArray, List.set_cons_zero, List.set_cons_succ]
    refine wpAnyH_take (i := 6) (v := _) rfl (by kernel_rfl) (by kernel_rfl) (by kernel_rfl) (fun _ _ _ h => h) (Or.inl ⟨by kernel_rfl, by (intro wx hSw; (try dsimp only at hSw); go_simp <;> with_reducible rfl)⟩) (by assumption) ?_
    try simp only [Act.put, List.getElem_toArray, List.getElem_cons_succ, List.getElem_cons_zero, List.setIfInBounds_toArray, List.set_cons_zero, List.set_cons_succ]
    refine wpAnyH_take (i := 8) (v := _) rfl (by kernel_rfl) (by kernel_rfl) (by kernel_rfl) (fun _ _ _ h => h) (Or.inl ⟨by kernel_rfl, by (intro wx hSw; (try dsimp only at hSw); go_simp <;> with_reducible rfl)⟩) (by assumption) ?_
    try simp only [Act.put, List.getElem_toArray, List.getElem_cons_succ, List.getElem_cons_zero, List.setIfInBounds_toArray, List.set_cons_zero, List.set_cons_succ]
    refine wpAnyH_take (i := 9) (v := _) rfl (by kernel_rfl) (by kernel_rfl) (by kernel_rfl) (fun _ _ _ h => h) (Or.inl ⟨by kernel_rfl, by (intro wx hSw; (try dsimp only at hSw); go_simp <;> with_reducible rfl)⟩) (by assumption) ?_
    try simp only [Act.put, List.getElem_toArray, List.getElem_cons_succ, List.getElem_cons_zero, List.setIfInBounds_toArray, List.set_cons_zero, List.set_cons_succ]
    refine wpAnyH_ready (rs := [1, 11]) (by kernel_rfl) (by simp) ?_
    refine (AllReadyH.cons rfl (fun K hK => ?_) (AllReadyH.cons rfl (fun K hK => ?_) AllReadyH.nil))
    · go_simp
      refine (toHouse_any a0 _).mono ?_
      rintro e v2 ⟨rfl, hb⟩
      have F0 : Hid (HAt v2 w.heap.size a0) := F0.out.below hb F0.out.lt
      have F1 : Hid (SW v2 (w.heap.size + 1) a1) := F1.out.below hb F1.out.lt
      have F2 : Hid (XW v2 (w.heap.size + 2) a2) := F2.out.below hb F2.out.lt
      have F3 : Hid (XW v2 (w.heap.size + 3) a3) := F3.out.below hb F3.out.lt
      have FB : Hid (Below w.heap.size w v2) := FB.out.trans (hb.mono FB.out.size)
      clear hb
      obtain ⟨x0_0, x0_1, x0_2, x0_3, x0_4, x0_5, x0_6, x0_7, x0_8, x0_9, x0_10, x0_11⟩ := F0.out
      obtain ⟨x1_0, x1_1, x1_2, x1_3, x1_4, x1_5, y1_0, y1_1, y1_2, y1_3, y1_4, y1_5⟩ := F1.out
      obtain ⟨x2_0, x2_1, x2_2, y2_0, y2_1, y2_2⟩ := F2.out
      obtain ⟨x3_0, x3_1, x3_2, y3_0, y3_1, y3_2⟩ := F3.out
      try go_wp2_with fail
      refine hK.out _ _ (by (try dsimp only); first | exact ⟨x0_0, x0_1, x0_2, x0_3, x0_4, x0_5, x0_6, x0_7, x0_8, x0_9, x0_10, x0_11, x1_0, x1_1, x1_2, x1_3, x1_4, x1_5, x2_0, x2_1, x2_2, x3_0, x3_1, x3_2⟩ | go_keep) (fun hHeld => ?_)
      clear hK K
      try simp only [Act.put, List.getElem_toArray, List.getElem_cons_succ, List.getElem_cons_zero, List.setIfInBounds_toArray, List.set_cons_zero, List.set_cons_succ]
      refine wpAnyH_ready (rs := [3, 11]) (by kernel_rfl) (by simp) ?_
      refine (AllReadyH.cons rfl (fun K hK => ?_) (AllReadyH.cons rfl (fun K hK => ?_) AllReadyH.nil))
      · go_simp
        refine (toShaft_any a1 _).mono ?_
        rintro e v3 ⟨rfl, hb⟩
        have F0 : Hid (HAt v3 w.heap.size a0) := F0.out.below hb F0.out.lt
        have F1 : Hid (SW v3 (w.heap.size + 1) a1) := F1.out.below hb F1.out.lt
        have F2 : Hid (XW v3 (w.heap.size + 2) a2) := F2.out.below hb F2.out.lt
        have F3 : Hid (XW v3 (w.heap.size + 3) a3) := F3.out.below hb F3.out.lt
        have FB : Hid (Below w.heap.size w v3) := FB.out.trans (hb.mono FB.out.size)
        clear hb
        obtain ⟨x0_0, x0_1, x0_2, x0_3, x0_4, x0_5, x0_6, x0_7, x0_8, x0_9, x0_10, x0_11⟩ := F0.out
        obtain ⟨x1_0, x1_1, x1_2, x1_3, x1_4, x1_5, y1_0, y1_1, y1_2, y1_3, y1_4, y1_5⟩ := F1.out
        obtain ⟨x2_0, x2_1, x2_2, y2_0, y2_1, y2_2⟩ := F2.out
        obtain ⟨x3_0, x3_1, x3_2, y3_0, y3_1, y3_2⟩ := F3.out
        try go_wp2_with fail
        refine hK.out _ _ (by (try dsimp only); first | exact ⟨x0_0, x0_1, x0_2, x0_3, x0_4, x0_5, x0_6, x0_7, x0_8, x0_9, x0_10, x0_11, x1_0, x1_1, x1_2, x1_3, x1_4, x1_5, x2_0, x2_1, x2_2, x3_0, x3_1, x3_2⟩ | go_keep) (fun hHeld => ?_)
        clear hK K
        try simp only [Act.put, List.getElem_toArray, List.getElem_cons_succ, List.getElem_cons_zero, List.setIfInBounds_toArray, List.set_cons_zero, List.set_cons_succ]
        refine wpAnyH_ready (rs := [5, 11]) (by kernel_rfl) (by simp) ?_
        refine (AllReadyH.cons rfl (fun K hK => ?_) (AllReadyH.cons rfl (fun K hK => ?_) AllReadyH.nil))
        · go_simp
          refine (toCommand_any a2 _).mono ?_
          rintro e v4 ⟨rfl, hb⟩
          have F0 : Hid (HAt v4 w.heap.size a0) := F0.out.below hb F0.out.lt
          have F1 : Hid (SW v4 (w.heap.size + 1) a1) := F1.out.below hb F1.out.lt
          have F2 : Hid (XW v4 (w.heap.size + 2) a2) := F2.out.below hb F2.out.lt
          have F3 : Hid (XW v4 (w.heap.size + 3) a3) := F3.out.below hb F3.out.lt
          have FB : Hid (Below w.heap.size w v4) := FB.out.trans (hb.mono FB.out.size)
          clear hb
          obtain ⟨x0_0, x0_1, x0_2, x0_3, x0_4, x0_5, x0_6, x0_7, x0_8, x0_9, x0_10, x0_11⟩ := F0.out
          obtain ⟨x1_0, x1_1, x1_2, x1_3, x1_4, x1_5, y1_0, y1_1, y1_2, y1_3, y1_4, y1_5⟩ := F1.out
          obtain ⟨x2_0, x2_1, x2_2, y2_0, y2_1, y2_2⟩ := F2.out
          obtain ⟨x3_0, x3_1, x3_2, y3_0, y3_1, y3_2⟩ := F3.out
          try go_wp2_with fail
          refine hK.out _ _ (by (try dsimp only); first | exact ⟨x0_0, x0_1, x0_2, x0_3, x0_4, x0_5, x0_6, x0_7, x0_8, x0_9, x0_10, x0_11, x1_0, x1_1, x1_2, x1_3, x1_4, x1_5, x2_0, x2_1, x2_2, x3_0, x3_1, x3_2⟩ | go_keep) (fun hHeld => ?_)
          clear hK K
          try simp only [Act.put, List.getElem_toArray, List.getElem_cons_succ, List.getElem_cons_zero, List.setIfInBounds_toArray, List.set_cons_zero, List.set_cons_succ]
          refine wpAnyH_ready (rs := [7, 11]) (by kernel_rfl) (by simp) ?_
          refine (AllReadyH.cons rfl (fun K hK => ?_) (AllReadyH.cons rfl (fun K hK => ?_) AllReadyH.nil))
          · go_simp
            refine (toCommand_any a3 _).mono ?_
            rintro e v5 ⟨rfl, hb⟩
            have F0 : Hid (HAt v5 w.heap.size a0) := F0.out.below hb F0.out.lt
            have F1 : Hid (SW v5 (w.heap.size + 1) a1) := F1.out.below hb F1.out.lt
            have F2 : Hid (XW v5 (w.heap.size + 2) a2) := F2.out.below hb F2.out.lt
            have F3 : Hid (XW v5 (w.heap.size + 3) a3) := F3.out.below hb F3.out.lt
            have FB : Hid (Below w.heap.size w v5) := FB.out.trans (hb.mono FB.out.size)
            clear hb
            obtain ⟨x0_0, x0_1, x0_2, x0_3, x0_4, x0_5, x0_6, x0_7, x0_8, x0_9, x0_10, x0_11⟩ := F0.out
            obtain ⟨x1_0, x1_1, x1_2, x1_3, x1_4, x1_5, y1_0, y1_1, y1_2, y1_3, y1_4, y1_5⟩ := F1.out
            obtain ⟨x2_0, x2_1, x2_2, y2_0, y2_1, y2_2⟩ := F2.out
            obtain ⟨x3_0, x3_1, x3_2, y3_0, y3_1, y3_2⟩ := F3.out
            try go_wp2_with fail
            refine hK.out _ _ (by (try dsimp only); first | exact ⟨x0_0, x0_1, x0_2, x0_3, x0_4, x0_5, x0_6, x0_7, x0_8, x0_9, x0_10, x0_11, x1_0, x1_1, x1_2, x1_3, x1_4, x1_5, x2_0, x2_1, x2_2, x3_0, x3_1, x3_2⟩ | go_keep) (fun hHeld => ?_)
            clear hK K
            try simp only [Act.put, List.getElem_toArray, List.getElem_cons_succ, List.getElem_cons_zero, List.setIfInBounds_toArray, List.set_cons_zero, List.set_cons_succ]
            refine wpAnyH_ready (rs := [10, 11]) (by kernel_rfl) (by simp) ?_
            refine (AllReadyH.cons rfl (fun K hK => ?_) (AllReadyH.cons rfl (fun K hK => ?_) AllReadyH.nil))
            · go_simp
              refine (specStepShaft_any a0 a1 a2 a3 a4 a5 _).mono ?_
              rintro e v6 ⟨rfl, hb⟩
              have F0 : Hid (HAt v6 w.heap.size a0) := F0.out.below hb F0.out.lt
              have F1 : Hid (SW v6 (w.heap.size + 1) a1) := F1.out.below hb F1.out.lt
              have F2 : Hid (XW v6 (w.heap.size + 2) a2) := F2.out.below hb F2.out.lt
              have F3 : Hid (XW v6 (w.heap.size + 3) a3) := F3.out.below hb F3.out.lt
              have FB : Hid (Below w.heap.size w v6) := FB.out.trans (hb.mono FB.out.size)
              clear hb
              obtain ⟨x0_0, x0_1, x0_2, x0_3, x0_4, x0_5, x0_6, x0_7, x0_8, x0_9, x0_10, x0_11⟩ := F0.out
              obtain ⟨x1_0, x1_1, x1_2, x1_3, x1_4, x1_5, y1_0, y1_1, y1_2, y1_3, y1_4, y1_5⟩ := F1.out
              obtain ⟨x2_0, x2_1, x2_2, y2_0, y2_1, y2_2⟩ := F2.out
              obtain ⟨x3_0, x3_1, x3_2, y3_0, y3_1, y3_2⟩ := F3.out
              try go_wp2_with fail
              refine hK.out _ _ (by (try dsimp only); first | exact ⟨x0_0, x0_1, x0_2, x0_3, x0_4, x0_5, x0_6, x0_7, x0_8, x0_9, x0_10, x0_11, x1_0, x1_1, x1_2, x1_3, x1_4, x1_5, x2_0, x2_1, x2_2, x3_0, x3_1, x3_2⟩ | go_keep) (fun hHeld => ?_)
              clear hK K
              try simp only [Act.put, List.getElem_toArray, List.getElem_cons_succ, List.getElem_cons_zero, List.setIfInBounds_toArray, List.set_cons_zero, List.set_cons_succ]
              refine wpAnyH_ready (rs := [11]) (by kernel_rfl) (by simp) ?_
              refine (AllReadyH.cons rfl (fun K hK => ?_) AllReadyH.nil)
              go_simp
              obtain ⟨b, hbb⟩ : ∃ b, b = v6.heap.size := ⟨_, rfl⟩
              obtain ⟨v7, hw2⟩ : ∃ v7, v7 = v6.alloc (.cells #[.int .i64 0, .int .i64 0, .int .i64 0, .int .i64 0, .int .i64 0, .int .i64 0, .int .i64 0] 55) := ⟨_, rfl⟩
              have n0 : w.heap.size < b := by rw [hbb]; exact F0.out.lt
              have n1 : (w.heap.size + 1) < b := by rw [hbb]; exact F1.out.lt
              have n2 : (w.heap.size + 2) < b := by rw [hbb]; exact F2.out.lt
              have n3 : (w.heap.size + 3) < b := by rw [hbb]; exact F3.out.lt
              have FA : Hid (R7 v7 b) := by rw [hw2]; exact R7.at_ _ _ _ hbb
              have F0 : Hid (HAt v7 w.heap.size a0) := by rw [hw2]; exact F0.out.alloc _
              have F1 : Hid (SW v7 (w.heap.size + 1) a1) := by rw [hw2]; exact F1.out.alloc _
              have F2 : Hid (XW v7 (w.heap.size + 2) a2) := by rw [hw2]; exact F2.out.alloc _
              have F3 : Hid (XW v7 (w.heap.size + 3) a3) := by rw [hw2]; exact F3.out.alloc _
              have FB : Hid (Below w.heap.size w v7) := by rw [hw2]; exact FB.out.alloc FB.out.size _
              rw [← hw2, ← hbb]
              clear hbb hw2
              obtain ⟨x0_0, x0_1, x0_2, x0_3, x0_4, x0_5, x0_6, x0_7, x0_8, x0_9, x0_10, x0_11⟩ := F0.out
              obtain ⟨x1_0, x1_1, x1_2, x1_3, x1_4, x1_5, y1_0, y1_1, y1_2, y1_3, y1_4, y1_5⟩ := F1.out
              obtain ⟨x2_0, x2_1, x2_2, y2_0, y2_1, y2_2⟩ := F2.out
              obtain ⟨x3_0, x3_1, x3_2, y3_0, y3_1, y3_2⟩ := F3.out
              refine hK.out _ _ (by (try dsimp only); first | exact ⟨x0_0, x0_1, x0_2, x0_3, x0_4, x0_5, x0_6, x0_7, x0_8, x0_9, x0_10, x0_11, x1_0, x1_1, x1_2, x1_3, x1_4, x1_5, x2_0, x2_1, x2_2, x3_0, x3_1, x3_2⟩ | go_keep) (fun hHeld => ?_)
              clear hK K
              try simp only [Act.put, List.getElem_toArray, List.getElem_cons_succ, List.getElem_cons_zero, List.setIfInBounds_toArray, List.set_cons_zero, List.set_cons_succ]
              refine wpAnyH_ready (rs := [12]) (by kernel_rfl) (by simp) ?_
              refine (AllReadyH.cons rfl (fun K hK => ?_) AllReadyH.nil)
              have r0_ := FA.out.c0
              have s0_ := FA.out.f0
              have r1_ := FA.out.c1
              have s1_ := FA.out.f1
              have r2_ := FA.out.c2
              have s2_ := FA.out.f2
              have r3_ := FA.out.c3
              have s3_ := FA.out.f3
              have r4_ := FA.out.c4
              have s4_ := FA.out.f4
              have r5_ := FA.out.c5
              have s5_ := FA.out.f5
              have r6_ := FA.out.c6
              have s6_ := FA.out.f6
              go_simp
              refine hK.out _ _ (by (try dsimp only); first | ((repeat' apply And.intro) <;> ((repeat rw [cellS (by omega)]); assumption)) | go_keep) (fun hHeld => ?_)
              clear hK K
              try simp only [Act.put, List.getElem_toArray, List.getElem_cons_succ, List.getElem_cons_zero, List.setIfInBounds_toArray, List.set_cons_zero, List.set_cons_succ]
              refine wpAnyH_done (by kernel_rfl) ?_ _
              go_wp2_with fail
              go_meet
              case rel => exact ⟨b, rfl, FA.out.put (Hs.stepK a0 a1 a2 a3 a4 a5) (Hs.stepV a0 a1 a2 a3 a4 a5), F0.out.below (below_put7 (Below.refl _ _) (Nat.le_refl _) (Hs.stepK a0 a1 a2 a3 a4 a5) (Hs.stepV a0 a1 a2 a3 a4 a5)) n0, F1.out.below (below_put7 (Below.refl _ _) (Nat.le_refl _) (Hs.stepK a0 a1 a2 a3 a4 a5) (Hs.stepV a0 a1 a2 a3 a4 a5)) n1, F2.out.below (below_put7 (Below.refl _ _) (Nat.le_refl _) (Hs.stepK a0 a1 a2 a3 a4 a5) (Hs.stepV a0 a1 a2 a3 a4 a5)) n2, F3.out.below (below_put7 (Below.refl _ _) (Nat.le_refl _) (Hs.stepK a0 a1 a2 a3 a4 a5) (Hs.stepV a0 a1 a2 a3 a4 a5)) n3, below_put7 FB.out (by omega) (Hs.stepK a0 a1 a2 a3 a4 a5) (Hs.stepV a0 a1 a2 a3 a4 a5)⟩
            · go_simp
              obtain ⟨b, hbb⟩ : ∃ b, b = v5.heap.size := ⟨_, rfl⟩
              obtain ⟨v8, hw2⟩ : ∃ v8, v8 = v5.alloc (.cells #[.int .i64 0, .int .i64 0, .int .i64 0, .int .i64 0, .int .i64 0, .int .i64 0, .int .i64 0] 55) := ⟨_, rfl⟩
              have n0 : w.heap.size < b := by rw [hbb]; exact F0.out.lt
              have n1 : (w.heap.size + 1) < b := by rw [hbb]; exact F1.out.lt
              have n2 : (w.heap.size + 2) < b := by rw [hbb]; exact F2.out.lt
              have n3 : (w.heap.size + 3) < b := by rw [hbb]; exact F3.out.lt
              have FA : Hid (R7 v8 b) := by rw [hw2]; exact R7.at_ _ _ _ hbb
              have F0 : Hid (HAt v8 w.heap.size a0) := by rw [hw2]; exact F0.out.alloc _
              have F1 : Hid (SW v8 (w.heap.size + 1) a1) := by rw [hw2]; exact F1.out.alloc _
              have F2 : Hid (XW v8 (w.heap.size + 2) a2) := by rw [hw2]; exact F2.out.alloc _
              have F3 : Hid (XW v8 (w.heap.size + 3) a3) := by rw [hw2]; exact F3.out.alloc _
              have FB : Hid (Below w.heap.size w v8) := by rw [hw2]; exact FB.out.alloc FB.out.size _
              rw [← hw2, ← hbb]
              clear hbb hw2
              obtain ⟨x0_0, x0_1, x0_2, x0_3, x0_4, x0_5, x0_6, x0_7, x0_8, x0_9, x0_10, x0_11⟩ := F0.out
              obtain ⟨x1_0, x1_1, x1_2, x1_3, x1_4, x1_5, y1_0, y1_1, y1_2, y1_3, y1_4, y1_5⟩ := F1.out
              obtain ⟨x2_0, x2_1, x2_2, y2_0, y2_1, y2_2⟩ := F2.out
              obtain ⟨x3_0, x3_1, x3_2, y3_0, y3_1, y3_2⟩ := F3.out
              refine hK.out _ _ (by (try dsimp only); first | exact ⟨x0_0, x0_1, x0_2, x0_3, x0_4, x0_5, x0_6, x0_7, x0_8, x0_9, x0_10, x0_11, x1_0, x1_1, x1_2, x1_3, x1_4, x1_5, x2_0, x2_1, x2_2, x3_0, x3_1, x3_2⟩ | go_keep) (fun hHeld => ?_)
              clear hK K
              try simp only [Act.put, List.getElem_toArray, List.getElem_cons_succ, List.getElem_cons_zero, List.setIfInBounds_toArray, List.set_cons_zero, List.set_cons_succ]
              refine wpAnyH_ready (rs := [10]) (by kernel_rfl) (by simp) ?_
              refine (AllReadyH.cons rfl (fun K hK => ?_) AllReadyH.nil)
              go_simp
              refine (specStepShaft_any a0 a1 a2 a3 a4 a5 _).mono ?_
              rintro e v9 ⟨rfl, hb⟩
              have F0 : Hid (HAt v9 w.heap.size a0) := F0.out.below hb F0.out.lt
              have F1 : Hid (SW v9 (w.heap.size + 1) a1) := F1.out.below hb F1.out.lt
              have F2 : Hid (XW v9 (w.heap.size + 2) a2) := F2.out.below hb F2.out.lt
              have F3 : Hid (XW v9 (w.heap.size + 3) a3) := F3.out.below hb F3.out.lt
              have FA : Hid (R7 v9 b) := FA.out.below hb FA.out.lt
              have FB : Hid (Below w.heap.size w v9) := FB.out.trans (hb.mono FB.out.size)
              clear hb
              obtain ⟨x0_0, x0_1, x0_2, x0_3, x0_4, x0_5, x0_6, x0_7, x0_8, x0_9, x0_10, x0_11⟩ := F0.out
              obtain ⟨x1_0, x1_1, x1_2, x1_3, x1_4, x1_5, y1_0, y1_1, y1_2, y1_3, y1_4, y1_5⟩ := F1.out
              obtain ⟨x2_0, x2_1, x2_2, y2_0, y2_1, y2_2⟩ := F2.out
              obtain ⟨x3_0, x3_1, x3_2, y3_0, y3_1, y3_2⟩ := F3.out
              try go_wp2_with fail
              refine hK.out _ _ (by (try dsimp only); first | exact ⟨x0_0, x0_1, x0_2, x0_3, x0_4, x0_5, x0_6, x0_7, x0_8, x0_9, x0_10, x0_11, x1_0, x1_1, x1_2, x1_3, x1_4, x1_5, x2_0, x2_1, x2_2, x3_0, x3_1, x3_2⟩ | go_keep) (fun hHeld => ?_)
              clear hK K
              try simp only [Act.put, List.getElem_toArray, List.getElem_cons_succ, List.getElem_cons_zero, List.setIfInBounds_toArray, List.set_cons_zero, List.set_cons_succ]
              refine wpAnyH_ready (rs := [12]) (by kernel_rfl) (by simp) ?_
              refine (AllReadyH.cons rfl (fun K hK => ?_) AllReadyH.nil)
              have r0_ := FA.out.c0
              have s0_ := FA.out.f0
              have r1_ := FA.out.c1
              have s1_ := FA.out.f1
              have r2_ := FA.out.c2
              have s2_ := FA.out.f2
              have r3_ := FA.out.c3
              have s3_ := FA.out.f3
              have r4_ := FA.out.c4
              have s4_ := FA.out.f4
              have r5_ := FA.out.c5
              have s5_ := FA.out.f5
              have r6_ := FA.out.c6
              have s6_ := FA.out.f6
              go_simp
              refine hK.out _ _ (by (try dsimp only); first | ((repeat' apply And.intro) <;> ((repeat rw [cellS (by omega)]); assumption)) | go_keep) (fun hHeld => ?_)
              clear hK K
              try simp only [Act.put, List.getElem_toArray, List.getElem_cons_succ, List.getElem_cons_zero, List.setIfInBounds_toArray, List.set_cons_zero, List.set_cons_succ]
              refine wpAnyH_done (by kernel_rfl) ?_ _
              go_wp2_with fail
              go_meet
              case rel => exact ⟨b, rfl, FA.out.put (Hs.stepK a0 a1 a2 a3 a4 a5) (Hs.stepV a0 a1 a2 a3 a4 a5), F0.out.below (below_put7 (Below.refl _ _) (Nat.le_refl _) (Hs.stepK a0 a1 a2 a3 a4 a5) (Hs.stepV a0 a1 a2 a3 a4 a5)) n0, F1.out.below (below_put7 (Below.refl _ _) (Nat.le_refl _) (Hs.stepK a0 a1 a2 a3 a4 a5) (Hs.stepV a0 a1 a2 a3 a4 a5)) n1, F2.out.below (below_put7 (Below.refl _ _) (Nat.le_refl _) (Hs.stepK a0 a1 a2 a3 a4 a5) (Hs.stepV a0 a1 a2 a3 a4 a5)) n2, F3.out.below (below_put7 (Below.refl _ _) (Nat.le_refl _) (Hs.stepK a0 a1 a2 a3 a4 a5) (Hs.stepV a0 a1 a2 a3 a4 a5)) n3, below_put7 FB.out (by omega) (Hs.stepK a0 a1 a2 a3 a4 a5) (Hs.stepV a0 a1 a2 a3 a4 a5)⟩
          · go_simp
            obtain ⟨b, hbb⟩ : ∃ b, b = v4.heap.size := ⟨_, rfl⟩
            obtain ⟨v10, hw2⟩ : ∃ v10, v10 = v4.alloc (.cells #[.int .i64 0, .int .i64 0, .int .i64 0, .int .i64 0, .int .i64 0, .int .i64 0, .int .i64 0] 55) := ⟨_, rfl⟩
            have n0 : w.heap.size < b := by rw [hbb]; exact F0.out.lt
            have n1 : (w.heap.size + 1) < b := by rw [hbb]; exact F1.out.lt
            have n2 : (w.heap.size + 2) < b := by rw [hbb]; exact F2.out.lt
            have n3 : (w.heap.size + 3) < b := by rw [hbb]; exact F3.out.lt
            have FA : Hid (R7 v10 b) := by rw [hw2]; exact R7.at_ _ _ _ hbb
            have F0 : Hid (HAt v10 w.heap.size a0) := by rw [hw2]; exact F0.out.alloc _
            have F1 : Hid (SW v10 (w.heap.size + 1) a1) := by rw [hw2]; exact F1.out.alloc _
            have F2 : Hid (XW v10 (w.heap.size + 2) a2) := by rw [hw2]; exact F2.out.alloc _
            have F3 : Hid (XW v10 (w.heap.size + 3) a3) := by rw [hw2]; exact F3.out.alloc _
            have FB : Hid (Below w.heap.size w v10) := by rw [hw2]; exact FB.out.alloc FB.out.size _
            rw [← hw2, ← hbb]
            clear hbb hw2
            obtain ⟨x0_0, x0_1, x0_2, x0_3, x0_4, x0_5, x0_6, x0_7, x0_8, x0_9, x0_10, x0_11⟩ := F0.out
            obtain ⟨x1_0, x1_1, x1_2, x1_3, x1_4, x1_5, y1_0, y1_1, y1_2, y1_3, y1_4, y1_5⟩ := F1.out
            obtain ⟨x2_0, x2_1, x2_2, y2_0, y2_1, y2_2⟩ := F2.out
            obtain ⟨x3_0, x3_1, x3_2, y3_0, y3_1, y3_2⟩ := F3.out
            refine hK.out _ _ (by (try dsimp only); first | exact ⟨x0_0, x0_1, x0_2, x0_3, x0_4, x0_5, x0_6, x0_7, x0_8, x0_9, x0_10, x0_11, x1_0, x1_1, x1_2, x1_3, x1_4, x1_5, x2_0, x2_1, x2_2, x3_0, x3_1, x3_2⟩ | go_keep) (fun hHeld => ?_)
            clear hK K
            try simp only [Act.put, List.getElem_toArray, List.getElem_cons_succ, List.getElem_cons_zero, List.setIfInBounds_toArray, List.set_cons_zero, List.set_cons_succ]
            refine wpAnyH_ready (rs := [7]) (by kernel_rfl) (by simp) ?_
            refine (AllReadyH.cons rfl (fun K hK => ?_) AllReadyH.nil)
            go_simp
            refine (toCommand_any a3 _).mono ?_
            rintro e v11 ⟨rfl, hb⟩
            have F0 : Hid (HAt v11 w.heap.size a0) := F0.out.below hb F0.out.lt
            have F1 : Hid (SW v11 (w.heap.size + 1) a1) := F1.out.below hb F1.out.lt
            have F2 : Hid (XW v11 (w.heap.size + 2) a2) := F2.out.below hb F2.out.lt
            have F3 : Hid (XW v11 (w.heap.size + 3) a3) := F3.out.below hb F3.out.lt
            have FA : Hid (R7 v11 b) := FA.out.below hb FA.out.lt
            have FB : Hid (Below w.heap.size w v11) := FB.out.trans (hb.mono FB.out.size)
            clear hb
            obtain ⟨x0_0, x0_1, x0_2, x0_3, x0_4, x0_5, x0_6, x0_7, x0_8, x0_9, x0_10, x0_11⟩ := F0.out
            obtain ⟨x1_0, x1_1, x1_2, x1_3, x1_4, x1_5, y1_0, y1_1, y1_2, y1_3, y1_4, y1_5⟩ := F1.out
            obtain ⟨x2_0, x2_1, x2_2, y2_0, y2_1, y2_2⟩ := F2.out
            obtain ⟨x3_0, x3_1, x3_2, y3_0, y3_1, y3_2⟩ := F3.out
            try go_wp2_with fail
            refine hK.out _ _ (by (try dsimp only); first | exact ⟨x0_0, x0_1, x0_2, x0_3, x0_4, x0_5, x0_6, x0_7, x0_8, x0_9, x0_10, x0_11, x1_0, x1_1, x1_2, x1_3, x1_4, x1_5, x2_0, x2_1, x2_2, x3_0, x3_1, x3_2⟩ | go_keep) (fun hHeld => ?_)
            clear hK K
            try simp only [Act.put, List.getElem_toArray, List.getElem_cons_succ, List.getElem_cons_zero, List.setIfInBounds_toArray, List.set_cons_zero, List.set_cons_succ]
            refine wpAnyH_ready (rs := [10]) (by kernel_rfl) (by simp) ?_
            refine (AllReadyH.cons rfl (fun K hK => ?_) AllReadyH.nil)
            go_simp
            refine (specStepShaft_any a0 a1 a2 a3 a4 a5 _).mono ?_
            rintro e v12 ⟨rfl, hb⟩
            have F0 : Hid (HAt v12 w.heap.size a0) := F0.out.below hb F0.out.lt
            have F1 : Hid (SW v12 (w.heap.size + 1) a1) := F1.out.below hb F1.out.lt
            have F2 : Hid (XW v12 (w.heap.size + 2) a2) := F2.out.below hb F2.out.lt
            have F3 : Hid (XW v12 (w.heap.size + 3) a3) := F3.out.below hb F3.out.lt
            have FA : Hid (R7 v12 b) := FA.out.below hb FA.out.lt
            have FB : Hid (Below w.heap.size w v12) := FB.out.trans (hb.mono FB.out.size)
            clear hb
            obtain ⟨x0_0, x0_1, x0_2, x0_3, x0_4, x0_5, x0_6, x0_7, x0_8, x0_9, x0_10, x0_11⟩ := F0.out
            obtain ⟨x1_0, x1_1, x1_2, x1_3, x1_4, x1_5, y1_0, y1_1, y1_2, y1_3, y1_4, y1_5⟩ := F1.out
            obtain ⟨x2_0, x2_1, x2_2, y2_0, y2_1, y2_2⟩ := F2.out
            obtain ⟨x3_0, x3_1, x3_2, y3_0, y3_1, y3_2⟩ := F3.out
            try go_wp2_with fail
            refine hK.out _ _ (by (try dsimp only); first | exact ⟨x0_0, x0_1, x0_2, x0_3, x0_4, x0_5, x0_6, x0_7, x0_8, x0_9, x0_10, x0_11, x1_0, x1_1, x1_2, x1_3, x1_4, x1_5, x2_0, x2_1, x2_2, x3_0, x3_1, x3_2⟩ | go_keep) (fun hHeld => ?_)
            clear hK K
            try simp only [Act.put, List.getElem_toArray, List.getElem_cons_succ, List.getElem_cons_zero, List.setIfInBounds_toArray, List.set_cons_zero, List.set_cons_succ]
            refine wpAnyH_ready (rs := [12]) (by kernel_rfl) (by simp) ?_
            refine (AllReadyH.cons rfl (fun K hK => ?_) AllReadyH.nil)
            have r0_ := FA.out.c0
            have s0_ := FA.out.f0
            have r1_ := FA.out.c1
            have s1_ := FA.out.f1
            have r2_ := FA.out.c2
            have s2_ := FA.out.f2
            have r3_ := FA.out.c3
            have s3_ := FA.out.f3
            have r4_ := FA.out.c4
            have s4_ := FA.out.f4
            have r5_ := FA.out.c5
            have s5_ := FA.out.f5
            have r6_ := FA.out.c6
            have s6_ := FA.out.f6
            go_simp
            refine hK.out _ _ (by (try dsimp only); first | ((repeat' apply And.intro) <;> ((repeat rw [cellS (by omega)]); assumption)) | go_keep) (fun hHeld => ?_)
            clear hK K
            try simp only [Act.put, List.getElem_toArray, List.getElem_cons_succ, List.getElem_cons_zero, List.setIfInBounds_toArray, List.set_cons_zero, List.set_cons_succ]
            refine wpAnyH_done (by kernel_rfl) ?_ _
            go_wp2_with fail
            go_meet
            case rel => exact ⟨b, rfl, FA.out.put (Hs.stepK a0 a1 a2 a3 a4 a5) (Hs.stepV a0 a1 a2 a3 a4 a5), F0.out.below (below_put7 (Below.refl _ _) (Nat.le_refl _) (Hs.stepK a0 a1 a2 a3 a4 a5) (Hs.stepV a0 a1 a2 a3 a4 a5)) n0, F1.out.below (below_put7 (Below.refl _ _) (Nat.le_refl _) (Hs.stepK a0 a1 a2 a3 a4 a5) (Hs.stepV a0 a1 a2 a3 a4 a5)) n1, F2.out.below (below_put7 (Below.refl _ _) (Nat.le_refl _) (Hs.stepK a0 a1 a2 a3 a4 a5) (Hs.stepV a0 a1 a2 a3 a4 a5)) n2, F3.out.below (below_put7 (Below.refl _ _) (Nat.le_refl _) (Hs.stepK a0 a1 a2 a3 a4 a5) (Hs.stepV a0 a1 a2 a3 a4 a5)) n3, below_put7 FB.out (by omega) (Hs.stepK a0 a1 a2 a3 a4 a5) (Hs.stepV a0 a1 a2 a3 a4 a5)⟩
        · go_simp
          obtain ⟨b, hbb⟩ : ∃ b, b = v3.heap.size := ⟨_, rfl⟩
          obtain ⟨v13, hw2⟩ : ∃ v13, v13 = v3.alloc (.cells #[.int .i64 0, .int .i64 0, .int .i64 0, .int .i64 0, .int .i64 0, .int .i64 0, .int .i64 0] 55) := ⟨_, rfl⟩
          have n0 : w.heap.size < b := by rw [hbb]; exact F0.out.lt
          have n1 : (w.heap.size + 1) < b := by rw [hbb]; exact F1.out.lt
          have n2 : (w.heap.size + 2) < b := by rw [hbb]; exact F2.out.lt
          have n3 : (w.heap.size + 3) < b := by rw [hbb]; exact F3.out.lt
          have FA : Hid (R7 v13 b) := by rw [hw2]; exact R7.at_ _ _ _ hbb
          have F0 : Hid (HAt v13 w.heap.size a0) := by rw [hw2]; exact F0.out.alloc _
          have F1 : Hid (SW v13 (w.heap.size + 1) a1) := by rw [hw2]; exact F1.out.alloc _
          have F2 : Hid (XW v13 (w.heap.size + 2) a2) := by rw [hw2]; exact F2.out.alloc _
          have F3 : Hid (XW v13 (w.heap.size + 3) a3) := by rw [hw2]; exact F3.out.alloc _
          have FB : Hid (Below w.heap.size w v13) := by rw [hw2]; exact FB.out.alloc FB.out.size _
          rw [← hw2, ← hbb]
          clear hbb hw2
          obtain ⟨x0_0, x0_1, x0_2, x0_3, x0_4, x0_5, x0_6, x0_7, x0_8, x0_9, x0_10, x0_11⟩ := F0.out
          obtain ⟨x1_0, x1_1, x1_2, x1_3, x1_4, x1_5, y1_0, y1_1, y1_2, y1_3, y1_4, y1_5⟩ := F1.out
          obtain ⟨x2_0, x2_1, x2_2, y2_0, y2_1, y2_2⟩ := F2.out
          obtain ⟨x3_0, x3_1, x3_2, y3_0, y3_1, y3_2⟩ := F3.out
          refine hK.out _ _ (by (try dsimp only); first | exact ⟨x0_0, x0_1, x0_2, x0_3, x0_4, x0_5, x0_6, x0_7, x0_8, x0_9, x0_10, x0_11, x1_0, x1_1, x1_2, x1_3, x1_4, x1_5, x2_0, x2_1, x2_2, x3_0, x3_1, x3_2⟩ | go_keep) (fun hHeld => ?_)
          clear hK K
          try simp only [Act.put, List.getElem_toArray, List.getElem_cons_succ, List.getElem_cons_zero, List.setIfInBounds_toArray, List.set_cons_zero, List.set_cons_succ]
          refine wpAnyH_ready (rs := [5]) (by kernel_rfl) (by simp) ?_
          refine (AllReadyH.cons rfl (fun K hK => ?_) AllReadyH.nil)
          go_simp
          refine (toCommand_any a2 _).mono ?_
          rintro e v14 ⟨rfl, hb⟩
          have F0 : Hid (HAt v14 w.heap.size a0) := F0.out.below hb F0.out.lt
          have F1 : Hid (SW v14 (w.heap.size + 1) a1) := F1.out.below hb F1.out.lt
          have F2 : Hid (XW v14 (w.heap.size + 2) a2) := F2.out.below hb F2.out.lt
          have F3 : Hid (XW v14 (w.heap.size + 3) a3) := F3.out.below hb F3.out.lt
          have FA : Hid (R7 v14 b) := FA.out.below hb FA.out.lt
          have FB : Hid (Below w.heap.size w v14) := FB.out.trans (hb.mono FB.out.size)
          clear hb
          obtain ⟨x0_0, x0_1, x0_2, x0_3, x0_4, x0_5, x0_6, x0_7, x0_8, x0_9, x0_10, x0_11⟩ := F0.out
          obtain ⟨x1_0, x1_1, x1_2, x1_3, x1_4, x1_5, y1_0, y1_1, y1_2, y1_3, y1_4, y1_5⟩ := F1.out
          obtain ⟨x2_0, x2_1, x2_2, y2_0, y2_1, y2_2⟩ := F2.out
          obtain ⟨x3_0, x3_1, x3_2, y3_0, y3_1, y3_2⟩ := F3.out
          try go_wp2_with fail
          refine hK.out _ _ (by (try dsimp only); first | exact ⟨x0_0, x0_1, x0_2, x0_3, x0_4, x0_5, x0_6, x0_7, x0_8, x0_9, x0_10, x0_11, x1_0, x1_1, x1_2, x1_3, x1_4, x1_5, x2_0, x2_1, x2_2, x3_0, x3_1, x3_2⟩ | go_keep) (fun hHeld => ?_)
          clear hK K
          try simp only [Act.put, List.getElem_toArray, List.getElem_cons_succ, List.getElem_cons_zero, List.setIfInBounds_toArray, List.set_cons_zero, List.set_cons_succ]
          refine wpAnyH_ready (rs := [7]) (by kernel_rfl) (by simp) ?_
          refine (AllReadyH.cons rfl (fun K hK => ?_) AllReadyH.nil)
          go_simp
          refine (toCommand_any a3 _).mono ?_
          rintro e v15 ⟨rfl, hb⟩
          have F0 : Hid (HAt v15 w.heap.size a0) := F0.out.below hb F0.out.lt
          have F1 : Hid (SW v15 (w.heap.size + 1) a1) := F1.out.below hb F1.out.lt
          have F2 : Hid (XW v15 (w.heap.size + 2) a2) := F2.out.below hb F2.out.lt
          have F3 : Hid (XW v15 (w.heap.size + 3) a3) := F3.out.below hb F3.out.lt
          have FA : Hid (R7 v15 b) := FA.out.below hb FA.out.lt
          have FB : Hid (Below w.heap.size w v15) := FB.out.trans (hb.mono FB.out.size)
          clear hb
          obtain ⟨x0_0, x0_1, x0_2, x0_3, x0_4, x0_5, x0_6, x0_7, x0_8, x0_9, x0_10, x0_11⟩ := F0.out
          obtain ⟨x1_0, x1_1, x1_2, x1_3, x1_4, x1_5, y1_0, y1_1, y1_2, y1_3, y1_4, y1_5⟩ := F1.out
          obtain ⟨x2_0, x2_1, x2_2, y2_0, y2_1, y2_2⟩ := F2.out
          obtain ⟨x3_0, x3_1, x3_2, y3_0, y3_1, y3_2⟩ := F3.out
          try go_wp2_with fail
          refine hK.out _ _ (by (try dsimp only); first | exact ⟨x0_0, x0_1, x0_2, x0_3, x0_4, x0_5, x0_6, x0_7, x0_8, x0_9, x0_10, x0_11, x1_0, x1_1, x1_2, x1_3, x1_4, x1_5, x2_0, x2_1, x2_2, x3_0, x3_1, x3_2⟩ | go_keep) (fun hHeld => ?_)
          clear hK K
          try simp only [Act.put, List.getElem_toArray, List.getElem_cons_succ, List.getElem_cons_zero, List.setIfInBounds_toArray, List.set_cons_zero, List.set_cons_succ]
          refine wpAnyH_ready (rs := [10]) (by kernel_rfl) (by simp) ?_
          refine (AllReadyH.cons rfl (fun K hK => ?_) AllReadyH.nil)
          go_simp
          refine (specStepShaft_any a0 a1 a2 a3 a4 a5 _).mono ?_
          rintro e v16 ⟨rfl, hb⟩
          have F0 : Hid (HAt v16 w.heap.size a0) := F0.out.below hb F0.out.lt
          have F1 : Hid (SW v16 (w.heap.size + 1) a1) := F1.out.below hb F1.out.lt
          have F2 : Hid (XW v16 (w.heap.size + 2) a2) := F2.out.below hb F2.out.lt
          have F3 : Hid (XW v16 (w.heap.size + 3) a3) := F3.out.below hb F3.out.lt
          have FA : Hid (R7 v16 b) := FA.out.below hb FA.out.lt
          have FB : Hid (Below w.heap.size w v16) := FB.out.trans (hb.mono FB.out.size)
          clear hb
          obtain ⟨x0_0, x0_1, x0_2, x0_3, x0_4, x0_5, x0_6, x0_7, x0_8, x0_9, x0_10, x0_11⟩ := F0.out
          obtain ⟨x1_0, x1_1, x1_2, x1_3, x1_4, x1_5, y1_0, y1_1, y1_2, y1_3, y1_4, y1_5⟩ := F1.out
          obtain ⟨x2_0, x2_1, x2_2, y2_0, y2_1, y2_2⟩ := F2.out
          obtain ⟨x3_0, x3_1, x3_2, y3_0, y3_1, y3_2⟩ := F3.out
          try go_wp2_with fail
          refine hK.out _ _ (by (try dsimp only); first | exact ⟨x0_0, x0_1, x0_2, x0_3, x0_4, x0_5, x0_6, x0_7, x0_8, x0_9, x0_10, x0_11, x1_0, x1_1, x1_2, x1_3, x1_4, x1_5, x2_0, x2_1, x2_2, x3_0, x3_1, x3_2⟩ | go_keep) (fun hHeld => ?_)
          clear hK K
          try simp only [Act.put, List.getElem_toArray, List.getElem_cons_succ, List.getElem_cons_zero, List.setIfInBounds_toArray, List.set_cons_zero, List.set_cons_succ]
          refine wpAnyH_ready (rs := [12]) (by kernel_rfl) (by simp) ?_
          refine (AllReadyH.cons rfl (fun K hK => ?_) AllReadyH.nil)
          have r0_ := FA.out.c0
          have s0_ := FA.out.f0
          have r1_ := FA.out.c1
          have s1_ := FA.out.f1
          have r2_ := FA.out.c2
          have s2_ := FA.out.f2
          have r3_ := FA.out.c3
          have s3_ := FA.out.f3
          have r4_ := FA.out.c4
          have s4_ := FA.out.f4
          have r5_ := FA.out.c5
          have s5_ := FA.out.f5
          have r6_ := FA.out.c6
          have s6_ := FA.out.f6
          go_simp
          refine hK.out _ _ (by (try dsimp only); first | ((repeat' apply And.intro) <;> ((repeat rw [cellS (by omega)]); assumption)) | go_keep) (fun hHeld => ?_)
          clear hK K
          try simp only [Act.put, List.getElem_toArray, List.getElem_cons_succ, List.getElem_cons_zero, List.setIfInBounds_toArray, List.set_cons_zero, List.set_cons_succ]
          refine wpAnyH_done (by kernel_rfl) ?_ _
          go_wp2_with fail
          go_meet
          case rel => exact ⟨b, rfl, FA.out.put (Hs.stepK a0 a1 a2 a3 a4 a5) (Hs.stepV a0 a1 a2 a3 a4 a5), F0.out.below (below_put7 (Below.refl _ _) (Nat.le_refl _) (Hs.stepK a0 a1 a2 a3 a4 a5) (Hs.stepV a0 a1 a2 a3 a4 a5)) n0, F1.out.below (below_put7 (Below.refl _ _) (Nat.le_refl _) (Hs.stepK a0 a1 a2 a3 a4 a5) (Hs.stepV a0 a1 a2 a3 a4 a5)) n1, F2.out.below (below_put7 (Below.refl _ _) (Nat.le_refl _) (Hs.stepK a0 a1 a2 a3 a4 a5) (Hs.stepV a0 a1 a2 a3 a4 a5)) n2, F3.out.below (below_put7 (Below.refl _ _) (Nat.le_refl _) (Hs.stepK a0 a1 a2 a3 a4 a5) (Hs.stepV a0 a1 a2 a3 a4 a5)) n3, below_put7 FB.out (by omega) (Hs.stepK a0 a1 a2 a3 a4 a5) (Hs.stepV a0 a1 a2 a3 a4 a5)⟩
      · go_simp
        obtain ⟨b, hbb⟩ : ∃ b, b = v2.heap.size := ⟨_, rfl⟩
        obtain ⟨v17, hw2⟩ : ∃ v17, v17 = v2.alloc (.cells #[.int .i64 0, .int .i64 0, .int .i64 0, .int .i64 0, .int .i64 0, .int .i64 0, .int .i64 0] 55) := ⟨_, rfl⟩
        have n0 : w.heap.size < b := by rw [hbb]; exact F0.out.lt
        have n1 : (w.heap.size + 1) < b := by rw [hbb]; exact F1.out.lt
        have n2 : (w.heap.size + 2) < b := by rw [hbb]; exact F2.out.lt
        have n3 : (w.heap.size + 3) < b := by rw [hbb]; exact F3.out.lt
        have FA : Hid (R7 v17 b) := by rw [hw2]; exact R7.at_ _ _ _ hbb
        have F0 : Hid (HAt v17 w.heap.size a0) := by rw [hw2]; exact F0.out.alloc _
        have F1 : Hid (SW v17 (w.heap.size + 1) a1) := by rw [hw2]; exact F1.out.alloc _
        have F2 : Hid (XW v17 (w.heap.size + 2) a2) := by rw [hw2]; exact F2.out.alloc _
        have F3 : Hid (XW v17 (w.heap.size + 3) a3) := by rw [hw2]; exact F3.out.alloc _
        have FB : Hid (Below w.heap.size w v17) := by rw [hw2]; exact FB.out.alloc FB.out.size _
        rw [← hw2, ← hbb]
        clear hbb hw2
        obtain ⟨x0_0, x0_1, x0_2, x0_3, x0_4, x0_5, x0_6, x0_7, x0_8, x0_9, x0_10, x0_11⟩ := F0.out
        obtain ⟨x1_0, x1_1, x1_2, x1_3, x1_4, x1_5, y1_0, y1_1, y1_2, y1_3, y1_4, y1_5⟩ := F1.out
        obtain ⟨x2_0, x2_1, x2_2, y2_0, y2_1, y2_2⟩ := F2.out
        obtain ⟨x3_0, x3_1, x3_2, y3_0, y3_1, y3_2⟩ := F3.out
        refine hK.out _ _ (by (try dsimp only); first | exact ⟨x0_0, x0_1, x0_2, x0_3, x0_4, x0_5, x0_6, x0_7, x0_8, x0_9, x0_10, x0_11, x1_0, x1_1, x1_2, x1_3, x1_4, x1_5, x2_0, x2_1, x2_2, x3_0, x3_1, x3_2⟩ | go_keep) (fun hHeld => ?_)
        clear hK K
        try simp only [Act.put, List.getElem_toArray, List.getElem_cons_succ, List.getElem_cons_zero, List.setIfInBounds_toArray, List.set_cons_zero, List.set_cons_succ]
        refine wpAnyH_ready (rs := [3]) (by kernel_rfl) (by simp) ?_
        refine (AllReadyH.cons rfl (fun K hK => ?_) AllReadyH.nil)
        go_simp
        refine (toShaft_any a1 _).mono ?_
        rintro e v18 ⟨rfl, hb⟩
        have F0 : Hid (HAt v18 w.heap.size a0) := F0.out.below hb F0.out.lt
        have F1 : Hid (SW v18 (w.heap.size + 1) a1) := F1.out.below hb F1.out.lt
        have F2 : Hid (XW v18 (w.heap.size + 2) a2) := F2.out.below hb F2.out.lt
        have F3 : Hid (XW v18 (w.heap.size + 3) a3) := F3.out.below hb F3.out.lt
        have FA : Hid (R7 v18 b) := FA.out.below hb FA.out.lt
        have FB : Hid (Below w.heap.size w v18) := FB.out.trans (hb.mono FB.out.size)
        clear hb
        obtain ⟨x0_0, x0_1, x0_2, x0_3, x0_4, x0_5, x0_6, x0_7, x0_8, x0_9, x0_10, x0_11⟩ := F0.out
        obtain ⟨x1_0, x1_1, x1_2, x1_3, x1_4, x1_5, y1_0, y1_1, y1_2, y1_3, y1_4, y1_5⟩ := F1.out
        obtain ⟨x2_0, x2_1, x2_2, y2_0, y2_1, y2_2⟩ := F2.out
        obtain ⟨x3_0, x3_1, x3_2, y3_0, y3_1, y3_2⟩ := F3.out
        try go_wp2_with fail
        refine hK.out _ _ (by (try dsimp only); first | exact ⟨x0_0, x0_1, x0_2, x0_3, x0_4, x0_5, x0_6, x0_7, x0_8, x0_9, x0_10, x0_11, x1_0, x1_1, x1_2, x1_3, x1_4, x1_5, x2_0, x2_1, x2_2, x3_0, x3_1, x3_2⟩ | go_keep) (fun hHeld => ?_)
        clear hK K
        try simp only [Act.put, List.getElem_toArray, List.getElem_cons_succ, List.getElem_cons_zero, List.setIfInBounds_toArray, List.set_cons_zero, List.set_cons_succ]
        refine wpAnyH_ready (rs := [5]) (by kernel_rfl) (by simp) ?_
        refine (AllReadyH.cons rfl (fun K hK => ?_) AllReadyH.nil)
        go_simp
        refine (toCommand_any a2 _).mono ?_
        rintro e v19 ⟨rfl, hb⟩
        have F0 : Hid (HAt v19 w.heap.size a0) := F0.out.below hb F0.out.lt
        have F1 : Hid (SW v19 (w.heap.size + 1) a1) := F1.out.below hb F1.out.lt
        have F2 : Hid (XW v19 (w.heap.size + 2) a2) := F2.out.below hb F2.out.lt
        have F3 : Hid (XW v19 (w.heap.size + 3) a3) := F3.out.below hb F3.out.lt
        have FA : Hid (R7 v19 b) := FA.out.below hb FA.out.lt
        have FB : Hid (Below w.heap.size w v19) := FB.out.trans (hb.mono FB.out.size)
        clear hb
        obtain ⟨x0_0, x0_1, x0_2, x0_3, x0_4, x0_5, x0_6, x0_7, x0_8, x0_9, x0_10, x0_11⟩ := F0.out
        obtain ⟨x1_0, x1_1, x1_2, x1_3, x1_4, x1_5, y1_0, y1_1, y1_2, y1_3, y1_4, y1_5⟩ := F1.out
        obtain ⟨x2_0, x2_1, x2_2, y2_0, y2_1, y2_2⟩ := F2.out
        obtain ⟨x3_0, x3_1, x3_2, y3_0, y3_1, y3_2⟩ := F3.out
        try go_wp2_with fail
        refine hK.out _ _ (by (try dsimp only); first | exact ⟨x0_0, x0_1, x0_2, x0_3, x0_4, x0_5, x0_6, x0_7, x0_8, x0_9, x0_10, x0_11, x1_0, x1_1, x1_2, x1_3, x1_4, x1_5, x2_0, x2_1, x2_2, x3_0, x3_1, x3_2⟩ | go_keep) (fun hHeld => ?_)
        clear hK K
        try simp only [Act.put, List.getElem_toArray, List.getElem_cons_succ, List.getElem_cons_zero, List.setIfInBounds_toArray, List.set_cons_zero, List.set_cons_succ]
        refine wpAnyH_ready (rs := [7]) (by kernel_rfl) (by simp) ?_
        refine (AllReadyH.cons rfl (fun K hK => ?_) AllReadyH.nil)
        go_simp
        refine (toCommand_any a3 _).mono ?_
        rintro e v20 ⟨rfl, hb⟩
        have F0 : Hid (HAt v20 w.heap.size a0) := F0.out.below hb F0.out.lt
        have F1 : Hid (SW v20 (w.heap.size + 1) a1) := F1.out.below hb F1.out.lt
        have F2 : Hid (XW v20 (w.heap.size + 2) a2) := F2.out.below hb F2.out.lt
        have F3 : Hid (XW v20 (w.heap.size + 3) a3) := F3.out.below hb F3.out.lt
        have FA : Hid (R7 v20 b) := FA.out.below hb FA.out.lt
        have FB : Hid (Below w.heap.size w v20) := FB.out.trans (hb.mono FB.out.size)
        clear hb
        obtain ⟨x0_0, x0_1, x0_2, x0_3, x0_4, x0_5, x0_6, x0_7, x0_8, x0_9, x0_10, x0_11⟩ := F0.out
        obtain ⟨x1_0, x1_1, x1_2, x1_3, x1_4, x1_5, y1_0, y1_1, y1_2, y1_3, y1_4, y1_5⟩ := F1.out
        obtain ⟨x2_0, x2_1, x2_2, y2_0, y2_1, y2_2⟩ := F2.out
        obtain ⟨x3_0, x3_1, x3_2, y3_0, y3_1, y3_2⟩ := F3.out
        try go_wp2_with fail
        refine hK.out _ _ (by (try dsimp only); first | exact ⟨x0_0, x0_1, x0_2, x0_3, x0_4, x0_5, x0_6, x0_7, x0_8, x0_9, x0_10, x0_11, x1_0, x1_1, x1_2, x1_3, x1_4, x1_5, x2_0, x2_1, x2_2, x3_0, x3_1, x3_2⟩ | go_keep) (fun hHeld => ?_)
        clear hK K
        try simp only [Act.put, List.getElem_toArray, List.getElem_cons_succ, List.getElem_cons_zero, List.setIfInBounds_toArray, List.set_cons_zero, List.set_cons_succ]
        refine wpAnyH_ready (rs := [10]) (by kernel_rfl) (by simp) ?_
        refine (AllReadyH.cons rfl (fun K hK => ?_) AllReadyH.nil)
        go_simp
        refine (specStepShaft_any a0 a1 a2 a3 a4 a5 _).mono ?_
        rintro e v21 ⟨rfl, hb⟩
        have F0 : Hid (HAt v21 w.heap.size a0) := F0.out.below hb F0.out.lt
        have F1 : Hid (SW v21 (w.heap.size + 1) a1) := F1.out.below hb F1.out.lt
        have F2 : Hid (XW v21 (w.heap.size + 2) a2) := F2.out.below hb F2.out.lt
        have F3 : Hid (XW v21 (w.heap.size + 3) a3) := F3.out.below hb F3.out.lt
        have FA : Hid (R7 v21 b) := FA.out.below hb FA.out.lt
        have FB : Hid (Below w.heap.size w v21) := FB.out.trans (hb.mono FB.out.size)
        clear hb
        obtain ⟨x0_0, x0_1, x0_2, x0_3, x0_4, x0_5, x0_6, x0_7, x0_8, x0_9, x0_10, x0_11⟩ := F0.out
        obtain ⟨x1_0, x1_1, x1_2, x1_3, x1_4, x1_5, y1_0, y1_1, y1_2, y1_3, y1_4, y1_5⟩ := F1.out
        obtain ⟨x2_0, x2_1, x2_2, y2_0, y2_1, y2_2⟩ := F2.out
        obtain ⟨x3_0, x3_1, x3_2, y3_0, y3_1, y3_2⟩ := F3.out
        try go_wp2_with fail
        refine hK.out _ _ (by (try dsimp only); first | exact ⟨x0_0, x0_1, x0_2, x0_3, x0_4, x0_5, x0_6, x0_7, x0_8, x0_9, x0_10, x0_11, x1_0, x1_1, x1_2, x1_3, x1_4, x1_5, x2_0, x2_1, x2_2, x3_0, x3_1, x3_2⟩ | go_keep) (fun hHeld => ?_)
        clear hK K
        try simp only [Act.put, List.getElem_toArray, List.getElem_cons_succ, List.getElem_cons_zero, List.setIfInBounds_toArray, List.set_cons_zero, List.set_cons_succ]
        refine wpAnyH_ready (rs := [12]) (by kernel_rfl) (by simp) ?_
        refine (AllReadyH.cons rfl (fun K hK => ?_) AllReadyH.nil)
        have r0_ := FA.out.c0
        have s0_ := FA.out.f0
        have r1_ := FA.out.c1
        have s1_ := FA.out.f1
        have r2_ := FA.out.c2
        have s2_ := FA.out.f2
        have r3_ := FA.out.c3
        have s3_ := FA.out.f3
        have r4_ := FA.out.c4
        have s4_ := FA.out.f4
        have r5_ := FA.out.c5
        have s5_ := FA.out.f5
        have r6_ := FA.out.c6
        have s6_ := FA.out.f6
        go_simp
        refine hK.out _ _ (by (try dsimp only); first | ((repeat' apply And.intro) <;> ((repeat rw [cellS (by omega)]); assumption)) | go_keep) (fun hHeld => ?_)
        clear hK K
        try simp only [Act.put, List.getElem_toArray, List.getElem_cons_succ, List.getElem_cons_zero, List.setIfInBounds_toArray, List.set_cons_zero, List.set_cons_succ]
        refine wpAnyH_done (by kernel_rfl) ?_ _
        go_wp2_with fail
        go_meet
        case rel => exact ⟨b, rfl, FA.out.put (Hs.stepK a0 a1 a2 a3 a4 a5) (Hs.stepV a0 a1 a2 a3 a4 a5), F0.out.below (below_put7 (Below.refl _ _) (Nat.le_refl _) (Hs.stepK a0 a1 a2 a3 a4 a5) (Hs.stepV a0 a1 a2 a3 a4 a5)) n0, F1.out.below (below_put7 (Below.refl _ _) (Nat.le_refl _) (Hs.stepK a0 a1 a2 a3 a4 a5) (Hs.stepV a0 a1 a2 a3 a4 a5)) n1, F2.out.below (below_put7 (Below.refl _ _) (Nat.le_refl _) (Hs.stepK a0 a1 a2 a3 a4 a5) (Hs.stepV a0 a1 a2 a3 a4 a5)) n2, F3.out.below (below_put7 (Below.refl _ _) (Nat.le_refl _) (Hs.stepK a0 a1 a2 a3 a4 a5) (Hs.stepV a0 a1 a2 a3 a4 a5)) n3, below_put7 FB.out (by omega) (Hs.stepK a0 a1 a2 a3 a4 a5) (Hs.stepV a0 a1 a2 a3 a4 a5)⟩
    · go_simp
      obtain ⟨b, hbb⟩ : ∃ b, b = v1.heap.size := ⟨_, rfl⟩
      obtain ⟨v22, hw2⟩ : ∃ v22, v22 = v1.alloc (.cells #[.int .i64 0, .int .i64 0, .int .i64 0, .int .i64 0, .int .i64 0, .int .i64 0, .int .i64 0] 55) := ⟨_, rfl⟩
      have n0 : w.heap.size < b := by rw [hbb]; exact F0.out.lt
      have n1 : (w.heap.size + 1) < b := by rw [hbb]; exact F1.out.lt
      have n2 : (w.heap.size + 2) < b := by rw [hbb]; exact F2.out.lt
      have n3 : (w.heap.size + 3) < b := by rw [hbb]; exact F3.out.lt
      have FA : Hid (R7 v22 b) := by rw [hw2]; exact R7.at_ _ _ _ hbb
      have F0 : Hid (HAt v22 w.heap.size a0) := by rw [hw2]; exact F0.out.alloc _
      have F1 : Hid (SW v22 (w.heap.size + 1) a1) := by rw [hw2]; exact F1.out.alloc _
      have F2 : Hid (XW v22 (w.heap.size + 2) a2) := by rw [hw2]; exact F2.out.alloc _
      have F3 : Hid (XW v22 (w.heap.size + 3) a3) := by rw [hw2]; exact F3.out.alloc _
      have FB : Hid (Below w.heap.size w v22) := by rw [hw2]; exact FB.out.alloc FB.out.size _
      rw [← hw2, ← hbb]
      clear hbb hw2
      obtain ⟨x0_0, x0_1, x0_2, x0_3, x0_4, x0_5, x0_6, x0_7, x0_8, x0_9, x0_10, x0_11⟩ := F0.out
      obtain ⟨x1_0, x1_1, x1_2, x1_3, x1_4, x1_5, y1_0, y1_1, y1_2, y1_3, y1_4, y1_5⟩ := F1.out
      obtain ⟨x2_0, x2_1, x2_2, y2_0, y2_1, y2_2⟩ := F2.out
      obtain ⟨x3_0, x3_1, x3_2, y3_0, y3_1, y3_2⟩ := F3.out
      refine hK.out _ _ (by (try dsimp only); first | exact ⟨x0_0, x0_1, x0_2, x0_3, x0_4, x0_5, x0_6, x0_7, x0_8, x0_9, x0_10, x0_11, x1_0, x1_1, x1_2, x1_3, x1_4, x1_5, x2_0, x2_1, x2_2, x3_0, x3_1, x3_2⟩ | go_keep) (fun hHeld => ?_)
      clear hK K
      try simp only [Act.put, List.getElem_toArray, List.getElem_cons_succ, List.getElem_cons_zero, List.setIfInBounds_toArray, List.set_cons_zero, List.set_cons_succ]
      refine wpAnyH_ready (rs := [1]) (by kernel_rfl) (by simp) ?_
      refine (AllReadyH.cons rfl (fun K hK => ?_) AllReadyH.nil)
      go_simp
      refine (toHouse_any a0 _).mono ?_
      rintro e v23 ⟨rfl, hb⟩
      have F0 : Hid (HAt v23 w.heap.size a0) := F0.out.below hb F0.out.lt
      have F1 : Hid (SW v23 (w.heap.size + 1) a1) := F1.out.below hb F1.out.lt
      have F2 : Hid (XW v23 (w.heap.size + 2) a2) := F2.out.below hb F2.out.lt
      have F3 : Hid (XW v23 (w.heap.size + 3) a3) := F3.out.below hb F3.out.lt
      have FA : Hid (R7 v23 b) := FA.out.below hb FA.out.lt
      have FB : Hid (Below w.heap.size w v23) := FB.out.trans (hb.mono FB.out.size)
      clear hb
      obtain ⟨x0_0, x0_1, x0_2, x0_3, x0_4, x0_5, x0_6, x0_7, x0_8, x0_9, x0_10, x0_11⟩ := F0.out
      obtain ⟨x1_0, x1_1, x1_2, x1_3, x1_4, x1_5, y1_0, y1_1, y1_2, y1_3, y1_4, y1_5⟩ := F1.out
      obtain ⟨x2_0, x2_1, x2_2, y2_0, y2_1, y2_2⟩ := F2.out
      obtain ⟨x3_0, x3_1, x3_2, y3_0, y3_1, y3_2⟩ := F3.out
      try go_wp2_with fail
      refine hK.out _ _ (by (try dsimp only); first | exact ⟨x0_0, x0_1, x0_2, x0_3, x0_4, x0_5, x0_6, x0_7, x0_8, x0_9, x0_10, x0_11, x1_0, x1_1, x1_2, x1_3, x1_4, x1_5, x2_0, x2_1, x2_2, x3_0, x3_1, x3_2⟩ | go_keep) (fun hHeld => ?_)
      clear hK K
      try simp only [Act.put, List.getElem_toArray, List.getElem_cons_succ, List.getElem_cons_zero, List.setIfInBounds_toArray, List.set_cons_zero, List.set_cons_succ]
      refine wpAnyH_ready (rs := [3]) (by kernel_rfl) (by simp) ?_
      refine (AllReadyH.cons rfl (fun K hK => ?_) AllReadyH.nil)
      go_simp
      refine (toShaft_any a1 _).mono ?_
      rintro e v24 ⟨rfl, hb⟩
      have F0 : Hid (HAt v24 w.heap.size a0) := F0.out.below hb F0.out.lt
      have F1 : Hid (SW v24 (w.heap.size + 1) a1) := F1.out.below hb F1.out.lt
      have F2 : Hid (XW v24 (w.heap.size + 2) a2) := F2.out.below hb F2.out.lt
      have F3 : Hid (XW v24 (w.heap.size + 3) a3) := F3.out.below hb F3.out.lt
      have FA : Hid (R7 v24 b) := FA.out.below hb FA.out.lt
      have FB : Hid (Below w.heap.size w v24) := FB.out.trans (hb.mono FB.out.size)
      clear hb
      obtain ⟨x0_0, x0_1, x0_2, x0_3, x0_4, x0_5, x0_6, x0_7, x0_8, x0_9, x0_10, x0_11⟩ := F0.out
      obtain ⟨x1_0, x1_1, x1_2, x1_3, x1_4, x1_5, y1_0, y1_1, y1_2, y1_3, y1_4, y1_5⟩ := F1.out
      obtain ⟨x2_0, x2_1, x2_2, y2_0, y2_1, y2_2⟩ := F2.out
      obtain ⟨x3_0, x3_1, x3_2, y3_0, y3_1, y3_2⟩ := F3.out
      try go_wp2_with fail
      refine hK.out _ _ (by (try dsimp only); first | exact ⟨x0_0, x0_1, x0_2, x0_3, x0_4, x0_5, x0_6, x0_7, x0_8, x0_9, x0_10, x0_11, x1_0, x1_1, x1_2, x1_3, x1_4, x1_5, x2_0, x2_1, x2_2, x3_0, x3_1, x3_2⟩ | go_keep) (fun hHeld => ?_)
      clear hK K
      try simp only [Act.put, List.getElem_toArray, List.getElem_cons_succ, List.getElem_cons_zero, List.setIfInBounds_toArray, List.set_cons_zero, List.set_cons_succ]
      refine wpAnyH_ready (rs := [5]) (by kernel_rfl) (by simp) ?_
      refine (AllReadyH.cons rfl (fun K hK => ?_) AllReadyH.nil)
      go_simp
      refine (toCommand_any a2 _).mono ?_
      rintro e v25 ⟨rfl, hb⟩
      have F0 : Hid (HAt v25 w.heap.size a0) := F0.out.below hb F0.out.lt
      have F1 : Hid (SW v25 (w.heap.size + 1) a1) := F1.out.below hb F1.out.lt
      have F2 : Hid (XW v25 (w.heap.size + 2) a2) := F2.out.below hb F2.out.lt
      have F3 : Hid (XW v25 (w.heap.size + 3) a3) := F3.out.below hb F3.out.lt
      have FA : Hid (R7 v25 b) := FA.out.below hb FA.out.lt
      have FB : Hid (Below w.heap.size w v25) := FB.out.trans (hb.mono FB.out.size)
      clear hb
      obtain ⟨x0_0, x0_1, x0_2, x0_3, x0_4, x0_5, x0_6, x0_7, x0_8, x0_9, x0_10, x0_11⟩ := F0.out
      obtain ⟨x1_0, x1_1, x1_2, x1_3, x1_4, x1_5, y1_0, y1_1, y1_2, y1_3, y1_4, y1_5⟩ := F1.out
      obtain ⟨x2_0, x2_1, x2_2, y2_0, y2_1, y2_2⟩ := F2.out
      obtain ⟨x3_0, x3_1, x3_2, y3_0, y3_1, y3_2⟩ := F3.out
      try go_wp2_with fail
      refine hK.out _ _ (by (try dsimp only); first | exact ⟨x0_0, x0_1, x0_2, x0_3, x0_4, x0_5, x0_6, x0_7, x0_8, x0_9, x0_10, x0_11, x1_0, x1_1, x1_2, x1_3, x1_4, x1_5, x2_0, x2_1, x2_2, x3_0, x3_1, x3_2⟩ | go_keep) (fun hHeld => ?_)
      clear hK K
      try simp only [Act.put, List.getElem_toArray, List.getElem_cons_succ, List.getElem_cons_zero, List.setIfInBounds_toArray, List.set_cons_zero, List.set_cons_succ]
      refine wpAnyH_ready (rs := [7]) (by kernel_rfl) (by simp) ?_
      refine (AllReadyH.cons rfl (fun K hK => ?_) AllReadyH.nil)
      go_simp
      refine (toCommand_any a3 _).mono ?_
      rintro e v26 ⟨rfl, hb⟩
      have F0 : Hid (HAt v26 w.heap.size a0) := F0.out.below hb F0.out.lt
      have F1 : Hid (SW v26 (w.heap.size + 1) a1) := F1.out.below hb F1.out.lt
      have F2 : Hid (XW v26 (w.heap.size + 2) a2) := F2.out.below hb F2.out.lt
      have F3 : Hid (XW v26 (w.heap.size + 3) a3) := F3.out.below hb F3.out.lt
      have FA : Hid (R7 v26 b) := FA.out.below hb FA.out.lt
      have FB : Hid (Below w.heap.size w v26) := FB.out.trans (hb.mono FB.out.size)
      clear hb
      obtain ⟨x0_0, x0_1, x0_2, x0_3, x0_4, x0_5, x0_6, x0_7, x0_8, x0_9, x0_10, x0_11⟩ := F0.out
      obtain ⟨x1_0, x1_1, x1_2, x1_3, x1_4, x1_5, y1_0, y1_1, y1_2, y1_3, y1_4, y1_5⟩ := F1.out
      obtain ⟨x2_0, x2_1, x2_2, y2_0, y2_1, y2_2⟩ := F2.out
      obtain ⟨x3_0, x3_1, x3_2, y3_0, y3_1, y3_2⟩ := F3.out
      try go_wp2_with fail
      refine hK.out _ _ (by (try dsimp only); first | exact ⟨x0_0, x0_1, x0_2, x0_3, x0_4, x0_5, x0_6, x0_7, x0_8, x0_9, x0_10, x0_11, x1_0, x1_1, x1_2, x1_3, x1_4, x1_5, x2_0, x2_1, x2_2, x3_0, x3_1, x3_2⟩ | go_keep) (fun hHeld => ?_)
      clear hK K
      try simp only [Act.put, List.getElem_toArray, List.getElem_cons_succ, List.getElem_cons_zero, List.setIfInBounds_toArray, List.set_cons_zero, List.set_cons_succ]
      refine wpAnyH_ready (rs := [10]) (by kernel_rfl) (by simp) ?_
      refine (AllReadyH.cons rfl (fun K hK => ?_) AllReadyH.nil)
      go_simp
      refine (specStepShaft_any a0 a1 a2 a3 a4 a5 _).mono ?_
      rintro e v27 ⟨rfl, hb⟩
      have F0 : Hid (HAt v27 w.heap.size a0) := F0.out.below hb F0.out.lt
      have F1 : Hid (SW v27 (w.heap.size + 1) a1) := F1.out.below hb F1.out.lt
      have F2 : Hid (XW v27 (w.heap.size + 2) a2) := F2.out.below hb F2.out.lt
      have F3 : Hid (XW v27 (w.heap.size + 3) a3) := F3.out.below hb F3.out.lt
      have FA : Hid (R7 v27 b) := FA.out.below hb FA.out.lt
      have FB : Hid (Below w.heap.size w v27) := FB.out.trans (hb.mono FB.out.size)
      clear hb
      obtain ⟨x0_0, x0_1, x0_2, x0_3, x0_4, x0_5, x0_6, x0_7, x0_8, x0_9, x0_10, x0_11⟩ := F0.out
      obtain ⟨x1_0, x1_1, x1_2, x1_3, x1_4, x1_5, y1_0, y1_1, y1_2, y1_3, y1_4, y1_5⟩ := F1.out
      obtain ⟨x2_0, x2_1, x2_2, y2_0, y2_1, y2_2⟩ := F2.out
      obtain ⟨x3_0, x3_1, x3_2, y3_0, y3_1, y3_2⟩ := F3.out
      try go_wp2_with fail
      refine hK.out _ _ (by (try dsimp only); first | exact ⟨x0_0, x0_1, x0_2, x0_3, x0_4, x0_5, x0_6, x0_7, x0_8, x0_9, x0_10, x0_11, x1_0, x1_1, x1_2, x1_3, x1_4, x1_5, x2_0, x2_1, x2_2, x3_0, x3_1, x3_2⟩ | go_keep) (fun hHeld => ?_)
      clear hK K
      try simp only [Act.put, List.getElem_toArray, List.getElem_cons_succ, List.getElem_cons_zero, List.setIfInBounds_toArray, List.set_cons_zero, List.set_cons_succ]
      refine wpAnyH_ready (rs := [12]) (by kernel_rfl) (by simp) ?_
      refine (AllReadyH.cons rfl (fun K hK => ?_) AllReadyH.nil)
      have r0_ := FA.out.c0
      have s0_ := FA.out.f0
      have r1_ := FA.out.c1
      have s1_ := FA.out.f1
      have r2_ := FA.out.c2
      have s2_ := FA.out.f2
      have r3_ := FA.out.c3
      have s3_ := FA.out.f3
      have r4_ := FA.out.c4
      have s4_ := FA.out.f4
      have r5_ := FA.out.c5
      have s5_ := FA.out.f5
      have r6_ := FA.out.c6
      have s6_ := FA.out.f6
      go_simp
      refine hK.out _ _ (by (try dsimp only); first | ((repeat' apply And.intro) <;> ((repeat rw [cellS (by omega)]); assumption)) | go_keep) (fun hHeld => ?_)
      clear hK K
      try simp only [Act.put, List.getElem_toArray, List.getElem_cons_succ, List.getElem_cons_zero, List.setIfInBounds_toArray, List.set_cons_zero, List.set_cons_succ]
      refine wpAnyH_done (by kernel_rfl) ?_ _
      go_wp2_with fail
      go_meet
      case rel => exact ⟨b, rfl, FA.out.put (Hs.stepK a0 a1 a2 a3 a4 a5) (Hs.stepV a0 a1 a2 a3 a4 a5), F0.out.below (below_put7 (Below.refl _ _) (Nat.le_refl _) (Hs.stepK a0 a1 a2 a3 a4 a5) (Hs.stepV a0 a1 a2 a3 a4 a5)) n0, F1.out.below (below_put7 (Below.refl _ _) (Nat.le_refl _) (Hs.stepK a0 a1 a2 a3 a4 a5) (Hs.stepV a0 a1 a2 a3 a4 a5)) n1, F2.out.below (below_put7 (Below.refl _ _) (Nat.le_refl _) (Hs.stepK a0 a1 a2 a3 a4 a5) (Hs.stepV a0 a1 a2 a3 a4 a5)) n2, F3.out.below (below_put7 (Below.refl _ _) (Nat.le_refl _) (Hs.stepK a0 a1 a2 a3 a4 a5) (Hs.stepV a0 a1 a2 a3 a4 a5)) n3, below_put7 FB.out (by omega) (Hs.stepK a0 a1 a2 a3 a4 a5) (Hs.stepV a0 a1 a2 a3 a4 a5)⟩
  case rest =>
    obtain ⟨b1, rfl, hv, h0, h1, h2, h3, hB⟩ := hcut
    have FV : Hid (V7 wc b1 (Hs.stepK a0 a1 a2 a3 a4 a5) (Hs.stepV a0 a1 a2 a3 a4 a5)) := hv
    have F0 : Hid (HAt wc w.heap.size a0) := h0
    have F1 : Hid (SW wc (w.heap.size + 1) a1) := h1
    have F2 : Hid (XW wc (w.heap.size + 2) a2) := h2
    have F3 : Hid (XW wc (w.heap.size + 3) a3) := h3
    have FB : Hid (Below w.heap.size w wc) := hB
    clear hv hB h0 h1 h2 h3
    obtain ⟨wd, hwd⟩ : ∃ wd, wd = wc := ⟨_, rfl⟩
    subst hwd
    go_wp2_with fail
    go_cut [14] (fun p wx => ∃ b, p = .pointer (some ⟨b, 0, none⟩) ∧ V7 wx b (Hs.stepK a0 a1 a2 a3 a4 a5) (Hs.stepV a0 a1 a2 a3 a4 a5) ∧ V7 wx b1 (Hs.stepK a0 a1 a2 a3 a4 a5) (Hs.stepV a0 a1 a2 a3 a4 a5) ∧ Below w.heap.size w wx)
    case first =>
      have F0 : Hid (HAt wd.drew w.heap.size a0) := F0.out.below (Below.refl _ _).drew F0.out.lt
      have F1 : Hid (SW wd.drew (w.heap.size + 1) a1) := F1.out.below (Below.refl _ _).drew F1.out.lt
      have F2 : Hid (XW wd.drew (w.heap.size + 2) a2) := F2.out.below (Below.refl _ _).drew F2.out.lt
      have F3 : Hid (XW wd.drew (w.heap.size + 3) a3) := F3.out.below (Below.refl _ _).drew F3.out.lt
      have FV : Hid (V7 wd.drew b1 (Hs.stepK a0 a1 a2 a3 a4 a5) (Hs.stepV a0 a1 a2 a3 a4 a5)) := FV.out.below (Below.refl _ _).drew FV.out.lt
      have FB : Hid (Below w.heap.size w wd.drew) := FB.out.drew
      obtain ⟨x0_0, x0_1, x0_2, x0_3, x0_4, x0_5, x0_6, x0_7, x0_8, x0_9, x0_10, x0_11⟩ := F0.out
      obtain ⟨x1_0, x1_1, x1_2, x1_3, x1_4, x1_5, y1_0, y1_1, y1_2, y1_3, y1_4, y1_5⟩ := F1.out
      obtain ⟨x2_0, x2_1, x2_2, y2_0, y2_1, y2_2⟩ := F2.out
      obtain ⟨x3_0, x3_1, x3_2, y3_0, y3_1, y3_2⟩ := F3.out
      refine wp_region_held_drew (S := (fun w'' => w''.cell? ⟨w.heap.size, 0, none⟩ = some (.int .i64 a0.fl) ∧ w''.cell? ⟨w.heap.size, 1, none⟩ = some (.int .i64 a0.gp) ∧ w''.cell? ⟨w.heap.size, 2, none⟩ = some (.int .i64 a0.ln) ∧ w''.cell? ⟨w.heap.size, 3, none⟩ = some (.int .i64 a0.rf) ∧ w''.cell? ⟨w.heap.size, 4, none⟩ = some (.int .i64 a0.sp) ∧ w''.cell? ⟨w.heap.size, 5, none⟩ = some (.int .i64 a0.pu) ∧ w''.cell? ⟨w.heap.size, 6, none⟩ = some (.int .i64 a0.br) ∧ w''.cell? ⟨w.heap.size, 7, none⟩ = some (.int .i64 a0.dr) ∧ w''.cell? ⟨w.heap.size, 8, none⟩ = some (.int .i64 a0.lv) ∧ w''.cell? ⟨w.heap.size, 9, none⟩ = some (.int .i64 a0.dO) ∧ w''.cell? ⟨w.heap.size, 10, none⟩ = some (.int .i64 a0.ld) ∧ w''.cell? ⟨w.heap.size, 11, none⟩ = some (.int .i64 a0.qu) ∧ w''.cell? ⟨(w.heap.size + 1), 0, none⟩ = some (.int .i64 a1.lo.pos) ∧ w''.cell? ⟨(w.heap.size + 1), 1, none⟩ = some (.int .i64 a1.lo.vel) ∧ w''.cell? ⟨(w.heap.size + 1), 2, none⟩ = some (.int .i64 a1.lo.door) ∧ w''.cell? ⟨(w.heap.size + 1), 3, none⟩ = some (.int .i64 a1.up.pos) ∧ w''.cell? ⟨(w.heap.size + 1), 4, none⟩ = some (.int .i64 a1.up.vel) ∧ w''.cell? ⟨(w.heap.size + 1), 5, none⟩ = some (.int .i64 a1.up.door) ∧ w''.cell? ⟨(w.heap.size + 2), 0, none⟩ = some (.int .i64 a2.push) ∧ w''.cell? ⟨(w.heap.size + 2), 1, none⟩ = some (.bool a2.brk) ∧ w''.cell? ⟨(w.heap.size + 2), 2, none⟩ = some (.bool a2.opn) ∧ w''.cell? ⟨(w.heap.size + 3), 0, none⟩ = some (.int .i64 a3.push) ∧ w''.cell? ⟨(w.heap.size + 3), 1, none⟩ = some (.bool a3.brk) ∧ w''.cell? ⟨(w.heap.size + 3), 2, none⟩ = some (.bool a3.opn))) (by kernel_rfl) (by (try dsimp only); first | exact ⟨x0_0, x0_1, x0_2, x0_3, x0_4, x0_5, x0_6, x0_7, x0_8, x0_9, x0_10, x0_11, x1_0, x1_1, x1_2, x1_3, x1_4, x1_5, x2_0, x2_1, x2_2, x3_0, x3_1, x3_2⟩ | go_keep) (fun hHeld => ?_)
      obtain ⟨v28, hw1⟩ : ∃ v28, v28 = wd.drew := ⟨_, rfl⟩
      have F0 : Hid (HAt v28 w.heap.size a0) := by rw [hw1]; exact F0.out
      have F1 : Hid (SW v28 (w.heap.size + 1) a1) := by rw [hw1]; exact F1.out
      have F2 : Hid (XW v28 (w.heap.size + 2) a2) := by rw [hw1]; exact F2.out
      have F3 : Hid (XW v28 (w.heap.size + 3) a3) := by rw [hw1]; exact F3.out
      have FV : Hid (V7 v28 b1 (Hs.stepK a0 a1 a2 a3 a4 a5) (Hs.stepV a0 a1 a2 a3 a4 a5)) := by rw [hw1]; exact FV.out
      have FB : Hid (Below w.heap.size w v28) := by rw [hw1]; exact FB.out
      rw [← hw1] at hHeld ⊢
      clear hw1
      obtain ⟨x0_0, x0_1, x0_2, x0_3, x0_4, x0_5, x0_6, x0_7, x0_8, x0_9, x0_10, x0_11⟩ := F0.out
      obtain ⟨x1_0, x1_1, x1_2, x1_3, x1_4, x1_5, y1_0, y1_1, y1_2, y1_3, y1_4, y1_5⟩ := F1.out
      obtain ⟨x2_0, x2_1, x2_2, y2_0, y2_1, y2_2⟩ := F2.out
      obtain ⟨x3_0, x3_1, x3_2, y3_0, y3_1, y3_2⟩ := F3.out
      refine wpAnyH_take (i := 0) (v := _) rfl (by kernel_rfl) (by kernel_rfl) (by kernel_rfl) (fun _ _ _ h => h) (Or.inl ⟨by kernel_rfl, by (intro wx hSw; (try dsimp only at hSw); go_simp <;> with_reducible rfl)⟩) (by assumption) ?_
      try simp only [Act.put, List.getElem_toArray, List.getElem_cons_succ, List.getElem_cons_zero, List.setIfInBounds_toArray, List.set_cons_zero, List.set_cons_succ]
      refine wpAnyH_take (i := 2) (v := _) rfl (by kernel_rfl) (by kernel_rfl) (by kernel_rfl) (fun _ _ _ h => h) (Or.inl ⟨by kernel_rfl, by (intro wx hSw; (try dsimp only at hSw); go_simp <;> with_reducible rfl)⟩) (by assumption) ?_
      try simp only [Act.put, List.getElem_toArray, List.getElem_cons_succ, List.getElem_cons_zero, List.setIfInBounds_toArray, List.set_cons_zero, List.set_cons_succ]
      refine wpAnyH_take (i := 4) (v := _) rfl (by kernel_rfl) (by kernel_rfl) (by kernel_rfl) (fun _ _ _ h => h) (Or.inl ⟨by kernel_rfl, by (intro wx hSw; (try dsimp only at hSw); go_simp <;> with_reducible rfl)⟩) (by assumption) ?_
      try simp only [Act.put, List.getElem_toArray, List.getElem_cons_succ, List.getElem_cons_zero, List.setIfInBounds_toArray, List.set_cons_zero, List.set_cons_succ]
      refine wpAnyH_take (i := 6) (v := _) rfl (by kernel_rfl) (by kernel_rfl) (by kernel_rfl) (fun _ _ _ h => h) (Or.inl ⟨by kernel_rfl, by (intro wx hSw; (try dsimp only at hSw); go_simp <;> with_reducible rfl)⟩) (by assumption) ?_
      try simp only [Act.put, List.getElem_toArray, List.getElem_cons_succ, List.getElem_cons_zero, List.setIfInBounds_toArray, List.set_cons_zero, List.set_cons_succ]
      refine wpAnyH_take (i := 8) (v := _) rfl (by kernel_rfl) (by kernel_rfl) (by kernel_rfl) (fun _ _ _ h => h) (Or.inl ⟨by kernel_rfl, by (intro wx hSw; (try dsimp only at hSw); go_simp <;> with_reducible rfl)⟩) (by assumption) ?_
      try simp only [Act.put, List.getElem_toArray, List.getElem_cons_succ, List.getElem_cons_zero, List.setIfInBounds_toArray, List.set_cons_zero, List.set_cons_succ]
      refine wpAnyH_take (i := 9) (v := _) rfl (by kernel_rfl) (by kernel_rfl) (by kernel_rfl) (fun _ _ _ h => h) (Or.inl ⟨by kernel_rfl, by (intro wx hSw; (try dsimp only at hSw); go_simp <;> with_reducible rfl)⟩) (by assumption) ?_
      try simp only [Act.put, List.getElem_toArray, List.getElem_cons_succ, List.getElem_cons_zero, List.setIfInBounds_toArray, List.set_cons_zero, List.set_cons_succ]
      refine wpAnyH_ready (rs := [1, 11]) (by kernel_rfl) (by simp) ?_
      refine (AllReadyH.cons rfl (fun K hK => ?_) (AllReadyH.cons rfl (fun K hK => ?_) AllReadyH.nil))
      · go_simp
        refine (toHouse_any a0 _).mono ?_
        rintro e v29 ⟨rfl, hb⟩
        have F0 : Hid (HAt v29 w.heap.size a0) := F0.out.below hb F0.out.lt
        have F1 : Hid (SW v29 (w.heap.size + 1) a1) := F1.out.below hb F1.out.lt
        have F2 : Hid (XW v29 (w.heap.size + 2) a2) := F2.out.below hb F2.out.lt
        have F3 : Hid (XW v29 (w.heap.size + 3) a3) := F3.out.below hb F3.out.lt
        have FV : Hid (V7 v29 b1 (Hs.stepK a0 a1 a2 a3 a4 a5) (Hs.stepV a0 a1 a2 a3 a4 a5)) := FV.out.below hb FV.out.lt
        have FB : Hid (Below w.heap.size w v29) := FB.out.trans (hb.mono FB.out.size)
        clear hb
        obtain ⟨x0_0, x0_1, x0_2, x0_3, x0_4, x0_5, x0_6, x0_7, x0_8, x0_9, x0_10, x0_11⟩ := F0.out
        obtain ⟨x1_0, x1_1, x1_2, x1_3, x1_4, x1_5, y1_0, y1_1, y1_2, y1_3, y1_4, y1_5⟩ := F1.out
        obtain ⟨x2_0, x2_1, x2_2, y2_0, y2_1, y2_2⟩ := F2.out
        obtain ⟨x3_0, x3_1, x3_2, y3_0, y3_1, y3_2⟩ := F3.out
        try go_wp2_with fail
        refine hK.out _ _ (by (try dsimp only); first | exact ⟨x0_0, x0_1, x0_2, x0_3, x0_4, x0_5, x0_6, x0_7, x0_8, x0_9, x0_10, x0_11, x1_0, x1_1, x1_2, x1_3, x1_4, x1_5, x2_0, x2_1, x2_2, x3_0, x3_1, x3_2⟩ | go_keep) (fun hHeld => ?_)
        clear hK K
        try simp only [Act.put, List.getElem_toArray, List.getElem_cons_succ, List.getElem_cons_zero, List.setIfInBounds_toArray, List.set_cons_zero, List.set_cons_succ]
        refine wpAnyH_ready (rs := [3, 11]) (by kernel_rfl) (by simp) ?_
        refine (AllReadyH.cons rfl (fun K hK => ?_) (AllReadyH.cons rfl (fun K hK => ?_) AllReadyH.nil))
        · go_simp
          refine (toShaft_any a1 _).mono ?_
          rintro e v30 ⟨rfl, hb⟩
          have F0 : Hid (HAt v30 w.heap.size a0) := F0.out.below hb F0.out.lt
          have F1 : Hid (SW v30 (w.heap.size + 1) a1) := F1.out.below hb F1.out.lt
          have F2 : Hid (XW v30 (w.heap.size + 2) a2) := F2.out.below hb F2.out.lt
          have F3 : Hid (XW v30 (w.heap.size + 3) a3) := F3.out.below hb F3.out.lt
          have FV : Hid (V7 v30 b1 (Hs.stepK a0 a1 a2 a3 a4 a5) (Hs.stepV a0 a1 a2 a3 a4 a5)) := FV.out.below hb FV.out.lt
          have FB : Hid (Below w.heap.size w v30) := FB.out.trans (hb.mono FB.out.size)
          clear hb
          obtain ⟨x0_0, x0_1, x0_2, x0_3, x0_4, x0_5, x0_6, x0_7, x0_8, x0_9, x0_10, x0_11⟩ := F0.out
          obtain ⟨x1_0, x1_1, x1_2, x1_3, x1_4, x1_5, y1_0, y1_1, y1_2, y1_3, y1_4, y1_5⟩ := F1.out
          obtain ⟨x2_0, x2_1, x2_2, y2_0, y2_1, y2_2⟩ := F2.out
          obtain ⟨x3_0, x3_1, x3_2, y3_0, y3_1, y3_2⟩ := F3.out
          try go_wp2_with fail
          refine hK.out _ _ (by (try dsimp only); first | exact ⟨x0_0, x0_1, x0_2, x0_3, x0_4, x0_5, x0_6, x0_7, x0_8, x0_9, x0_10, x0_11, x1_0, x1_1, x1_2, x1_3, x1_4, x1_5, x2_0, x2_1, x2_2, x3_0, x3_1, x3_2⟩ | go_keep) (fun hHeld => ?_)
          clear hK K
          try simp only [Act.put, List.getElem_toArray, List.getElem_cons_succ, List.getElem_cons_zero, List.setIfInBounds_toArray, List.set_cons_zero, List.set_cons_succ]
          refine wpAnyH_ready (rs := [5, 11]) (by kernel_rfl) (by simp) ?_
          refine (AllReadyH.cons rfl (fun K hK => ?_) (AllReadyH.cons rfl (fun K hK => ?_) AllReadyH.nil))
          · go_simp
            refine (toCommand_any a2 _).mono ?_
            rintro e v31 ⟨rfl, hb⟩
            have F0 : Hid (HAt v31 w.heap.size a0) := F0.out.below hb F0.out.lt
            have F1 : Hid (SW v31 (w.heap.size + 1) a1) := F1.out.below hb F1.out.lt
            have F2 : Hid (XW v31 (w.heap.size + 2) a2) := F2.out.below hb F2.out.lt
            have F3 : Hid (XW v31 (w.heap.size + 3) a3) := F3.out.below hb F3.out.lt
            have FV : Hid (V7 v31 b1 (Hs.stepK a0 a1 a2 a3 a4 a5) (Hs.stepV a0 a1 a2 a3 a4 a5)) := FV.out.below hb FV.out.lt
            have FB : Hid (Below w.heap.size w v31) := FB.out.trans (hb.mono FB.out.size)
            clear hb
            obtain ⟨x0_0, x0_1, x0_2, x0_3, x0_4, x0_5, x0_6, x0_7, x0_8, x0_9, x0_10, x0_11⟩ := F0.out
            obtain ⟨x1_0, x1_1, x1_2, x1_3, x1_4, x1_5, y1_0, y1_1, y1_2, y1_3, y1_4, y1_5⟩ := F1.out
            obtain ⟨x2_0, x2_1, x2_2, y2_0, y2_1, y2_2⟩ := F2.out
            obtain ⟨x3_0, x3_1, x3_2, y3_0, y3_1, y3_2⟩ := F3.out
            try go_wp2_with fail
            refine hK.out _ _ (by (try dsimp only); first | exact ⟨x0_0, x0_1, x0_2, x0_3, x0_4, x0_5, x0_6, x0_7, x0_8, x0_9, x0_10, x0_11, x1_0, x1_1, x1_2, x1_3, x1_4, x1_5, x2_0, x2_1, x2_2, x3_0, x3_1, x3_2⟩ | go_keep) (fun hHeld => ?_)
            clear hK K
            try simp only [Act.put, List.getElem_toArray, List.getElem_cons_succ, List.getElem_cons_zero, List.setIfInBounds_toArray, List.set_cons_zero, List.set_cons_succ]
            refine wpAnyH_ready (rs := [7, 11]) (by kernel_rfl) (by simp) ?_
            refine (AllReadyH.cons rfl (fun K hK => ?_) (AllReadyH.cons rfl (fun K hK => ?_) AllReadyH.nil))
            · go_simp
              refine (toCommand_any a3 _).mono ?_
              rintro e v32 ⟨rfl, hb⟩
              have F0 : Hid (HAt v32 w.heap.size a0) := F0.out.below hb F0.out.lt
              have F1 : Hid (SW v32 (w.heap.size + 1) a1) := F1.out.below hb F1.out.lt
              have F2 : Hid (XW v32 (w.heap.size + 2) a2) := F2.out.below hb F2.out.lt
              have F3 : Hid (XW v32 (w.heap.size + 3) a3) := F3.out.below hb F3.out.lt
              have FV : Hid (V7 v32 b1 (Hs.stepK a0 a1 a2 a3 a4 a5) (Hs.stepV a0 a1 a2 a3 a4 a5)) := FV.out.below hb FV.out.lt
              have FB : Hid (Below w.heap.size w v32) := FB.out.trans (hb.mono FB.out.size)
              clear hb
              obtain ⟨x0_0, x0_1, x0_2, x0_3, x0_4, x0_5, x0_6, x0_7, x0_8, x0_9, x0_10, x0_11⟩ := F0.out
              obtain ⟨x1_0, x1_1, x1_2, x1_3, x1_4, x1_5, y1_0, y1_1, y1_2, y1_3, y1_4, y1_5⟩ := F1.out
              obtain ⟨x2_0, x2_1, x2_2, y2_0, y2_1, y2_2⟩ := F2.out
              obtain ⟨x3_0, x3_1, x3_2, y3_0, y3_1, y3_2⟩ := F3.out
              try go_wp2_with fail
              refine hK.out _ _ (by (try dsimp only); first | exact ⟨x0_0, x0_1, x0_2, x0_3, x0_4, x0_5, x0_6, x0_7, x0_8, x0_9, x0_10, x0_11, x1_0, x1_1, x1_2, x1_3, x1_4, x1_5, x2_0, x2_1, x2_2, x3_0, x3_1, x3_2⟩ | go_keep) (fun hHeld => ?_)
              clear hK K
              try simp only [Act.put, List.getElem_toArray, List.getElem_cons_succ, List.getElem_cons_zero, List.setIfInBounds_toArray, List.set_cons_zero, List.set_cons_succ]
              refine wpAnyH_ready (rs := [10, 11]) (by kernel_rfl) (by simp) ?_
              refine (AllReadyH.cons rfl (fun K hK => ?_) (AllReadyH.cons rfl (fun K hK => ?_) AllReadyH.nil))
              · go_simp
                refine (implStepShaft_any a0 a1 a2 a3 a4 a5 _).mono ?_
                rintro e v33 ⟨rfl, hb⟩
                have F0 : Hid (HAt v33 w.heap.size a0) := F0.out.below hb F0.out.lt
                have F1 : Hid (SW v33 (w.heap.size + 1) a1) := F1.out.below hb F1.out.lt
                have F2 : Hid (XW v33 (w.heap.size + 2) a2) := F2.out.below hb F2.out.lt
                have F3 : Hid (XW v33 (w.heap.size + 3) a3) := F3.out.below hb F3.out.lt
                have FV : Hid (V7 v33 b1 (Hs.stepK a0 a1 a2 a3 a4 a5) (Hs.stepV a0 a1 a2 a3 a4 a5)) := FV.out.below hb FV.out.lt
                have FB : Hid (Below w.heap.size w v33) := FB.out.trans (hb.mono FB.out.size)
                clear hb
                obtain ⟨x0_0, x0_1, x0_2, x0_3, x0_4, x0_5, x0_6, x0_7, x0_8, x0_9, x0_10, x0_11⟩ := F0.out
                obtain ⟨x1_0, x1_1, x1_2, x1_3, x1_4, x1_5, y1_0, y1_1, y1_2, y1_3, y1_4, y1_5⟩ := F1.out
                obtain ⟨x2_0, x2_1, x2_2, y2_0, y2_1, y2_2⟩ := F2.out
                obtain ⟨x3_0, x3_1, x3_2, y3_0, y3_1, y3_2⟩ := F3.out
                try go_wp2_with fail
                refine hK.out _ _ (by (try dsimp only); first | exact ⟨x0_0, x0_1, x0_2, x0_3, x0_4, x0_5, x0_6, x0_7, x0_8, x0_9, x0_10, x0_11, x1_0, x1_1, x1_2, x1_3, x1_4, x1_5, x2_0, x2_1, x2_2, x3_0, x3_1, x3_2⟩ | go_keep) (fun hHeld => ?_)
                clear hK K
                try simp only [Act.put, List.getElem_toArray, List.getElem_cons_succ, List.getElem_cons_zero, List.setIfInBounds_toArray, List.set_cons_zero, List.set_cons_succ]
                refine wpAnyH_ready (rs := [11]) (by kernel_rfl) (by simp) ?_
                refine (AllReadyH.cons rfl (fun K hK => ?_) AllReadyH.nil)
                go_simp
                obtain ⟨b, hbb⟩ : ∃ b, b = v33.heap.size := ⟨_, rfl⟩
                obtain ⟨v34, hw2⟩ : ∃ v34, v34 = v33.alloc (.cells #[.int .i64 0, .int .i64 0, .int .i64 0, .int .i64 0, .int .i64 0, .int .i64 0, .int .i64 0] 55) := ⟨_, rfl⟩
                have n0 : w.heap.size < b := by rw [hbb]; exact F0.out.lt
                have n1 : (w.heap.size + 1) < b := by rw [hbb]; exact F1.out.lt
                have n2 : (w.heap.size + 2) < b := by rw [hbb]; exact F2.out.lt
                have n3 : (w.heap.size + 3) < b := by rw [hbb]; exact F3.out.lt
                have n4 : b1 < b := by rw [hbb]; exact FV.out.lt
                have FA : Hid (R7 v34 b) := by rw [hw2]; exact R7.at_ _ _ _ hbb
                have F0 : Hid (HAt v34 w.heap.size a0) := by rw [hw2]; exact F0.out.alloc _
                have F1 : Hid (SW v34 (w.heap.size + 1) a1) := by rw [hw2]; exact F1.out.alloc _
                have F2 : Hid (XW v34 (w.heap.size + 2) a2) := by rw [hw2]; exact F2.out.alloc _
                have F3 : Hid (XW v34 (w.heap.size + 3) a3) := by rw [hw2]; exact F3.out.alloc _
                have FV : Hid (V7 v34 b1 (Hs.stepK a0 a1 a2 a3 a4 a5) (Hs.stepV a0 a1 a2 a3 a4 a5)) := by rw [hw2]; exact FV.out.alloc _
                have FB : Hid (Below w.heap.size w v34) := by rw [hw2]; exact FB.out.alloc FB.out.size _
                rw [← hw2, ← hbb]
                clear hbb hw2
                obtain ⟨x0_0, x0_1, x0_2, x0_3, x0_4, x0_5, x0_6, x0_7, x0_8, x0_9, x0_10, x0_11⟩ := F0.out
                obtain ⟨x1_0, x1_1, x1_2, x1_3, x1_4, x1_5, y1_0, y1_1, y1_2, y1_3, y1_4, y1_5⟩ := F1.out
                obtain ⟨x2_0, x2_1, x2_2, y2_0, y2_1, y2_2⟩ := F2.out
                obtain ⟨x3_0, x3_1, x3_2, y3_0, y3_1, y3_2⟩ := F3.out
                refine hK.out _ _ (by (try dsimp only); first | exact ⟨x0_0, x0_1, x0_2, x0_3, x0_4, x0_5, x0_6, x0_7, x0_8, x0_9, x0_10, x0_11, x1_0, x1_1, x1_2, x1_3, x1_4, x1_5, x2_0, x2_1, x2_2, x3_0, x3_1, x3_2⟩ | go_keep) (fun hHeld => ?_)
                clear hK K
                try simp only [Act.put, List.getElem_toArray, List.getElem_cons_succ, List.getElem_cons_zero, List.setIfInBounds_toArray, List.set_cons_zero, List.set_cons_succ]
                refine wpAnyH_ready (rs := [12]) (by kernel_rfl) (by simp) ?_
                refine (AllReadyH.cons rfl (fun K hK => ?_) AllReadyH.nil)
                have r0_ := FA.out.c0
                have s0_ := FA.out.f0
                have r1_ := FA.out.c1
                have s1_ := FA.out.f1
                have r2_ := FA.out.c2
                have s2_ := FA.out.f2
                have r3_ := FA.out.c3
                have s3_ := FA.out.f3
                have r4_ := FA.out.c4
                have s4_ := FA.out.f4
                have r5_ := FA.out.c5
                have s5_ := FA.out.f5
                have r6_ := FA.out.c6
                have s6_ := FA.out.f6
                go_simp
                refine hK.out _ _ (by (try dsimp only); first | ((repeat' apply And.intro) <;> ((repeat rw [cellS (by omega)]); assumption)) | go_keep) (fun hHeld => ?_)
                clear hK K
                try simp only [Act.put, List.getElem_toArray, List.getElem_cons_succ, List.getElem_cons_zero, List.setIfInBounds_toArray, List.set_cons_zero, List.set_cons_succ]
                refine wpAnyH_done (by kernel_rfl) ?_ _
                go_wp2_with fail
                go_meet
                case rel => exact ⟨b, rfl, FA.out.put (Hs.stepK a0 a1 a2 a3 a4 a5) (Hs.stepV a0 a1 a2 a3 a4 a5), FV.out.below (below_put7 (Below.refl _ _) (Nat.le_refl _) (Hs.stepK a0 a1 a2 a3 a4 a5) (Hs.stepV a0 a1 a2 a3 a4 a5)) n4, below_put7 FB.out (by omega) (Hs.stepK a0 a1 a2 a3 a4 a5) (Hs.stepV a0 a1 a2 a3 a4 a5)⟩
              · go_simp
                obtain ⟨b, hbb⟩ : ∃ b, b = v32.heap.size := ⟨_, rfl⟩
                obtain ⟨v35, hw2⟩ : ∃ v35, v35 = v32.alloc (.cells #[.int .i64 0, .int .i64 0, .int .i64 0, .int .i64 0, .int .i64 0, .int .i64 0, .int .i64 0] 55) := ⟨_, rfl⟩
                have n0 : w.heap.size < b := by rw [hbb]; exact F0.out.lt
                have n1 : (w.heap.size + 1) < b := by rw [hbb]; exact F1.out.lt
                have n2 : (w.heap.size + 2) < b := by rw [hbb]; exact F2.out.lt
                have n3 : (w.heap.size + 3) < b := by rw [hbb]; exact F3.out.lt
                have n4 : b1 < b := by rw [hbb]; exact FV.out.lt
                have FA : Hid (R7 v35 b) := by rw [hw2]; exact R7.at_ _ _ _ hbb
                have F0 : Hid (HAt v35 w.heap.size a0) := by rw [hw2]; exact F0.out.alloc _
                have F1 : Hid (SW v35 (w.heap.size + 1) a1) := by rw [hw2]; exact F1.out.alloc _
                have F2 : Hid (XW v35 (w.heap.size + 2) a2) := by rw [hw2]; exact F2.out.alloc _
                have F3 : Hid (XW v35 (w.heap.size + 3) a3) := by rw [hw2]; exact F3.out.alloc _
                have FV : Hid (V7 v35 b1 (Hs.stepK a0 a1 a2 a3 a4 a5) (Hs.stepV a0 a1 a2 a3 a4 a5)) := by rw [hw2]; exact FV.out.alloc _
                have FB : Hid (Below w.heap.size w v35) := by rw [hw2]; exact FB.out.alloc FB.out.size _
                rw [← hw2, ← hbb]
                clear hbb hw2
                obtain ⟨x0_0, x0_1, x0_2, x0_3, x0_4, x0_5, x0_6, x0_7, x0_8, x0_9, x0_10, x0_11⟩ := F0.out
                obtain ⟨x1_0, x1_1, x1_2, x1_3, x1_4, x1_5, y1_0, y1_1, y1_2, y1_3, y1_4, y1_5⟩ := F1.out
                obtain ⟨x2_0, x2_1, x2_2, y2_0, y2_1, y2_2⟩ := F2.out
                obtain ⟨x3_0, x3_1, x3_2, y3_0, y3_1, y3_2⟩ := F3.out
                refine hK.out _ _ (by (try dsimp only); first | exact ⟨x0_0, x0_1, x0_2, x0_3, x0_4, x0_5, x0_6, x0_7, x0_8, x0_9, x0_10, x0_11, x1_0, x1_1, x1_2, x1_3, x1_4, x1_5, x2_0, x2_1, x2_2, x3_0, x3_1, x3_2⟩ | go_keep) (fun hHeld => ?_)
                clear hK K
                try simp only [Act.put, List.getElem_toArray, List.getElem_cons_succ, List.getElem_cons_zero, List.setIfInBounds_toArray, List.set_cons_zero, List.set_cons_succ]
                refine wpAnyH_ready (rs := [10]) (by kernel_rfl) (by simp) ?_
                refine (AllReadyH.cons rfl (fun K hK => ?_) AllReadyH.nil)
                go_simp
                refine (implStepShaft_any a0 a1 a2 a3 a4 a5 _).mono ?_
                rintro e v36 ⟨rfl, hb⟩
                have F0 : Hid (HAt v36 w.heap.size a0) := F0.out.below hb F0.out.lt
                have F1 : Hid (SW v36 (w.heap.size + 1) a1) := F1.out.below hb F1.out.lt
                have F2 : Hid (XW v36 (w.heap.size + 2) a2) := F2.out.below hb F2.out.lt
                have F3 : Hid (XW v36 (w.heap.size + 3) a3) := F3.out.below hb F3.out.lt
                have FV : Hid (V7 v36 b1 (Hs.stepK a0 a1 a2 a3 a4 a5) (Hs.stepV a0 a1 a2 a3 a4 a5)) := FV.out.below hb FV.out.lt
                have FA : Hid (R7 v36 b) := FA.out.below hb FA.out.lt
                have FB : Hid (Below w.heap.size w v36) := FB.out.trans (hb.mono FB.out.size)
                clear hb
                obtain ⟨x0_0, x0_1, x0_2, x0_3, x0_4, x0_5, x0_6, x0_7, x0_8, x0_9, x0_10, x0_11⟩ := F0.out
                obtain ⟨x1_0, x1_1, x1_2, x1_3, x1_4, x1_5, y1_0, y1_1, y1_2, y1_3, y1_4, y1_5⟩ := F1.out
                obtain ⟨x2_0, x2_1, x2_2, y2_0, y2_1, y2_2⟩ := F2.out
                obtain ⟨x3_0, x3_1, x3_2, y3_0, y3_1, y3_2⟩ := F3.out
                try go_wp2_with fail
                refine hK.out _ _ (by (try dsimp only); first | exact ⟨x0_0, x0_1, x0_2, x0_3, x0_4, x0_5, x0_6, x0_7, x0_8, x0_9, x0_10, x0_11, x1_0, x1_1, x1_2, x1_3, x1_4, x1_5, x2_0, x2_1, x2_2, x3_0, x3_1, x3_2⟩ | go_keep) (fun hHeld => ?_)
                clear hK K
                try simp only [Act.put, List.getElem_toArray, List.getElem_cons_succ, List.getElem_cons_zero, List.setIfInBounds_toArray, List.set_cons_zero, List.set_cons_succ]
                refine wpAnyH_ready (rs := [12]) (by kernel_rfl) (by simp) ?_
                refine (AllReadyH.cons rfl (fun K hK => ?_) AllReadyH.nil)
                have r0_ := FA.out.c0
                have s0_ := FA.out.f0
                have r1_ := FA.out.c1
                have s1_ := FA.out.f1
                have r2_ := FA.out.c2
                have s2_ := FA.out.f2
                have r3_ := FA.out.c3
                have s3_ := FA.out.f3
                have r4_ := FA.out.c4
                have s4_ := FA.out.f4
                have r5_ := FA.out.c5
                have s5_ := FA.out.f5
                have r6_ := FA.out.c6
                have s6_ := FA.out.f6
                go_simp
                refine hK.out _ _ (by (try dsimp only); first | ((repeat' apply And.intro) <;> ((repeat rw [cellS (by omega)]); assumption)) | go_keep) (fun hHeld => ?_)
                clear hK K
                try simp only [Act.put, List.getElem_toArray, List.getElem_cons_succ, List.getElem_cons_zero, List.setIfInBounds_toArray, List.set_cons_zero, List.set_cons_succ]
                refine wpAnyH_done (by kernel_rfl) ?_ _
                go_wp2_with fail
                go_meet
                case rel => exact ⟨b, rfl, FA.out.put (Hs.stepK a0 a1 a2 a3 a4 a5) (Hs.stepV a0 a1 a2 a3 a4 a5), FV.out.below (below_put7 (Below.refl _ _) (Nat.le_refl _) (Hs.stepK a0 a1 a2 a3 a4 a5) (Hs.stepV a0 a1 a2 a3 a4 a5)) n4, below_put7 FB.out (by omega) (Hs.stepK a0 a1 a2 a3 a4 a5) (Hs.stepV a0 a1 a2 a3 a4 a5)⟩
            · go_simp
              obtain ⟨b, hbb⟩ : ∃ b, b = v31.heap.size := ⟨_, rfl⟩
              obtain ⟨v37, hw2⟩ : ∃ v37, v37 = v31.alloc (.cells #[.int .i64 0, .int .i64 0, .int .i64 0, .int .i64 0, .int .i64 0, .int .i64 0, .int .i64 0] 55) := ⟨_, rfl⟩
              have n0 : w.heap.size < b := by rw [hbb]; exact F0.out.lt
              have n1 : (w.heap.size + 1) < b := by rw [hbb]; exact F1.out.lt
              have n2 : (w.heap.size + 2) < b := by rw [hbb]; exact F2.out.lt
              have n3 : (w.heap.size + 3) < b := by rw [hbb]; exact F3.out.lt
              have n4 : b1 < b := by rw [hbb]; exact FV.out.lt
              have FA : Hid (R7 v37 b) := by rw [hw2]; exact R7.at_ _ _ _ hbb
              have F0 : Hid (HAt v37 w.heap.size a0) := by rw [hw2]; exact F0.out.alloc _
              have F1 : Hid (SW v37 (w.heap.size + 1) a1) := by rw [hw2]; exact F1.out.alloc _
              have F2 : Hid (XW v37 (w.heap.size + 2) a2) := by rw [hw2]; exact F2.out.alloc _
              have F3 : Hid (XW v37 (w.heap.size + 3) a3) := by rw [hw2]; exact F3.out.alloc _
              have FV : Hid (V7 v37 b1 (Hs.stepK a0 a1 a2 a3 a4 a5) (Hs.stepV a0 a1 a2 a3 a4 a5)) := by rw [hw2]; exact FV.out.alloc _
              have FB : Hid (Below w.heap.size w v37) := by rw [hw2]; exact FB.out.alloc FB.out.size _
              rw [← hw2, ← hbb]
              clear hbb hw2
              obtain ⟨x0_0, x0_1, x0_2, x0_3, x0_4, x0_5, x0_6, x0_7, x0_8, x0_9, x0_10, x0_11⟩ := F0.out
              obtain ⟨x1_0, x1_1, x1_2, x1_3, x1_4, x1_5, y1_0, y1_1, y1_2, y1_3, y1_4, y1_5⟩ := F1.out
              obtain ⟨x2_0, x2_1, x2_2, y2_0, y2_1, y2_2⟩ := F2.out
              obtain ⟨x3_0, x3_1, x3_2, y3_0, y3_1, y3_2⟩ := F3.out
              refine hK.out _ _ (by (try dsimp only); first | exact ⟨x0_0, x0_1, x0_2, x0_3, x0_4, x0_5, x0_6, x0_7, x0_8, x0_9, x0_10, x0_11, x1_0, x1_1, x1_2, x1_3, x1_4, x1_5, x2_0, x2_1, x2_2, x3_0, x3_1, x3_2⟩ | go_keep) (fun hHeld => ?_)
              clear hK K
              try simp only [Act.put, List.getElem_toArray, List.getElem_cons_succ, List.getElem_cons_zero, List.setIfInBounds_toArray, List.set_cons_zero, List.set_cons_succ]
              refine wpAnyH_ready (rs := [7]) (by kernel_rfl) (by simp) ?_
              refine (AllReadyH.cons rfl (fun K hK => ?_) AllReadyH.nil)
              go_simp
              refine (toCommand_any a3 _).mono ?_
              rintro e v38 ⟨rfl, hb⟩
              have F0 : Hid (HAt v38 w.heap.size a0) := F0.out.below hb F0.out.lt
              have F1 : Hid (SW v38 (w.heap.size + 1) a1) := F1.out.below hb F1.out.lt
              have F2 : Hid (XW v38 (w.heap.size + 2) a2) := F2.out.below hb F2.out.lt
              have F3 : Hid (XW v38 (w.heap.size + 3) a3) := F3.out.below hb F3.out.lt
              have FV : Hid (V7 v38 b1 (Hs.stepK a0 a1 a2 a3 a4 a5) (Hs.stepV a0 a1 a2 a3 a4 a5)) := FV.out.below hb FV.out.lt
              have FA : Hid (R7 v38 b) := FA.out.below hb FA.out.lt
              have FB : Hid (Below w.heap.size w v38) := FB.out.trans (hb.mono FB.out.size)
              clear hb
              obtain ⟨x0_0, x0_1, x0_2, x0_3, x0_4, x0_5, x0_6, x0_7, x0_8, x0_9, x0_10, x0_11⟩ := F0.out
              obtain ⟨x1_0, x1_1, x1_2, x1_3, x1_4, x1_5, y1_0, y1_1, y1_2, y1_3, y1_4, y1_5⟩ := F1.out
              obtain ⟨x2_0, x2_1, x2_2, y2_0, y2_1, y2_2⟩ := F2.out
              obtain ⟨x3_0, x3_1, x3_2, y3_0, y3_1, y3_2⟩ := F3.out
              try go_wp2_with fail
              refine hK.out _ _ (by (try dsimp only); first | exact ⟨x0_0, x0_1, x0_2, x0_3, x0_4, x0_5, x0_6, x0_7, x0_8, x0_9, x0_10, x0_11, x1_0, x1_1, x1_2, x1_3, x1_4, x1_5, x2_0, x2_1, x2_2, x3_0, x3_1, x3_2⟩ | go_keep) (fun hHeld => ?_)
              clear hK K
              try simp only [Act.put, List.getElem_toArray, List.getElem_cons_succ, List.getElem_cons_zero, List.setIfInBounds_toArray, List.set_cons_zero, List.set_cons_succ]
              refine wpAnyH_ready (rs := [10]) (by kernel_rfl) (by simp) ?_
              refine (AllReadyH.cons rfl (fun K hK => ?_) AllReadyH.nil)
              go_simp
              refine (implStepShaft_any a0 a1 a2 a3 a4 a5 _).mono ?_
              rintro e v39 ⟨rfl, hb⟩
              have F0 : Hid (HAt v39 w.heap.size a0) := F0.out.below hb F0.out.lt
              have F1 : Hid (SW v39 (w.heap.size + 1) a1) := F1.out.below hb F1.out.lt
              have F2 : Hid (XW v39 (w.heap.size + 2) a2) := F2.out.below hb F2.out.lt
              have F3 : Hid (XW v39 (w.heap.size + 3) a3) := F3.out.below hb F3.out.lt
              have FV : Hid (V7 v39 b1 (Hs.stepK a0 a1 a2 a3 a4 a5) (Hs.stepV a0 a1 a2 a3 a4 a5)) := FV.out.below hb FV.out.lt
              have FA : Hid (R7 v39 b) := FA.out.below hb FA.out.lt
              have FB : Hid (Below w.heap.size w v39) := FB.out.trans (hb.mono FB.out.size)
              clear hb
              obtain ⟨x0_0, x0_1, x0_2, x0_3, x0_4, x0_5, x0_6, x0_7, x0_8, x0_9, x0_10, x0_11⟩ := F0.out
              obtain ⟨x1_0, x1_1, x1_2, x1_3, x1_4, x1_5, y1_0, y1_1, y1_2, y1_3, y1_4, y1_5⟩ := F1.out
              obtain ⟨x2_0, x2_1, x2_2, y2_0, y2_1, y2_2⟩ := F2.out
              obtain ⟨x3_0, x3_1, x3_2, y3_0, y3_1, y3_2⟩ := F3.out
              try go_wp2_with fail
              refine hK.out _ _ (by (try dsimp only); first | exact ⟨x0_0, x0_1, x0_2, x0_3, x0_4, x0_5, x0_6, x0_7, x0_8, x0_9, x0_10, x0_11, x1_0, x1_1, x1_2, x1_3, x1_4, x1_5, x2_0, x2_1, x2_2, x3_0, x3_1, x3_2⟩ | go_keep) (fun hHeld => ?_)
              clear hK K
              try simp only [Act.put, List.getElem_toArray, List.getElem_cons_succ, List.getElem_cons_zero, List.setIfInBounds_toArray, List.set_cons_zero, List.set_cons_succ]
              refine wpAnyH_ready (rs := [12]) (by kernel_rfl) (by simp) ?_
              refine (AllReadyH.cons rfl (fun K hK => ?_) AllReadyH.nil)
              have r0_ := FA.out.c0
              have s0_ := FA.out.f0
              have r1_ := FA.out.c1
              have s1_ := FA.out.f1
              have r2_ := FA.out.c2
              have s2_ := FA.out.f2
              have r3_ := FA.out.c3
              have s3_ := FA.out.f3
              have r4_ := FA.out.c4
              have s4_ := FA.out.f4
              have r5_ := FA.out.c5
              have s5_ := FA.out.f5
              have r6_ := FA.out.c6
              have s6_ := FA.out.f6
              go_simp
              refine hK.out _ _ (by (try dsimp only); first | ((repeat' apply And.intro) <;> ((repeat rw [cellS (by omega)]); assumption)) | go_keep) (fun hHeld => ?_)
              clear hK K
              try simp only [Act.put, List.getElem_toArray, List.getElem_cons_succ, List.getElem_cons_zero, List.setIfInBounds_toArray, List.set_cons_zero, List.set_cons_succ]
              refine wpAnyH_done (by kernel_rfl) ?_ _
              go_wp2_with fail
              go_meet
              case rel => exact ⟨b, rfl, FA.out.put (Hs.stepK a0 a1 a2 a3 a4 a5) (Hs.stepV a0 a1 a2 a3 a4 a5), FV.out.below (below_put7 (Below.refl _ _) (Nat.le_refl _) (Hs.stepK a0 a1 a2 a3 a4 a5) (Hs.stepV a0 a1 a2 a3 a4 a5)) n4, below_put7 FB.out (by omega) (Hs.stepK a0 a1 a2 a3 a4 a5) (Hs.stepV a0 a1 a2 a3 a4 a5)⟩
          · go_simp
            obtain ⟨b, hbb⟩ : ∃ b, b = v30.heap.size := ⟨_, rfl⟩
            obtain ⟨v40, hw2⟩ : ∃ v40, v40 = v30.alloc (.cells #[.int .i64 0, .int .i64 0, .int .i64 0, .int .i64 0, .int .i64 0, .int .i64 0, .int .i64 0] 55) := ⟨_, rfl⟩
            have n0 : w.heap.size < b := by rw [hbb]; exact F0.out.lt
            have n1 : (w.heap.size + 1) < b := by rw [hbb]; exact F1.out.lt
            have n2 : (w.heap.size + 2) < b := by rw [hbb]; exact F2.out.lt
            have n3 : (w.heap.size + 3) < b := by rw [hbb]; exact F3.out.lt
            have n4 : b1 < b := by rw [hbb]; exact FV.out.lt
            have FA : Hid (R7 v40 b) := by rw [hw2]; exact R7.at_ _ _ _ hbb
            have F0 : Hid (HAt v40 w.heap.size a0) := by rw [hw2]; exact F0.out.alloc _
            have F1 : Hid (SW v40 (w.heap.size + 1) a1) := by rw [hw2]; exact F1.out.alloc _
            have F2 : Hid (XW v40 (w.heap.size + 2) a2) := by rw [hw2]; exact F2.out.alloc _
            have F3 : Hid (XW v40 (w.heap.size + 3) a3) := by rw [hw2]; exact F3.out.alloc _
            have FV : Hid (V7 v40 b1 (Hs.stepK a0 a1 a2 a3 a4 a5) (Hs.stepV a0 a1 a2 a3 a4 a5)) := by rw [hw2]; exact FV.out.alloc _
            have FB : Hid (Below w.heap.size w v40) := by rw [hw2]; exact FB.out.alloc FB.out.size _
            rw [← hw2, ← hbb]
            clear hbb hw2
            obtain ⟨x0_0, x0_1, x0_2, x0_3, x0_4, x0_5, x0_6, x0_7, x0_8, x0_9, x0_10, x0_11⟩ := F0.out
            obtain ⟨x1_0, x1_1, x1_2, x1_3, x1_4, x1_5, y1_0, y1_1, y1_2, y1_3, y1_4, y1_5⟩ := F1.out
            obtain ⟨x2_0, x2_1, x2_2, y2_0, y2_1, y2_2⟩ := F2.out
            obtain ⟨x3_0, x3_1, x3_2, y3_0, y3_1, y3_2⟩ := F3.out
            refine hK.out _ _ (by (try dsimp only); first | exact ⟨x0_0, x0_1, x0_2, x0_3, x0_4, x0_5, x0_6, x0_7, x0_8, x0_9, x0_10, x0_11, x1_0, x1_1, x1_2, x1_3, x1_4, x1_5, x2_0, x2_1, x2_2, x3_0, x3_1, x3_2⟩ | go_keep) (fun hHeld => ?_)
            clear hK K
            try simp only [Act.put, List.getElem_toArray, List.getElem_cons_succ, List.getElem_cons_zero, List.setIfInBounds_toArray, List.set_cons_zero, List.set_cons_succ]
            refine wpAnyH_ready (rs := [5]) (by kernel_rfl) (by simp) ?_
            refine (AllReadyH.cons rfl (fun K hK => ?_) AllReadyH.nil)
            go_simp
            refine (toCommand_any a2 _).mono ?_
            rintro e v41 ⟨rfl, hb⟩
            have F0 : Hid (HAt v41 w.heap.size a0) := F0.out.below hb F0.out.lt
            have F1 : Hid (SW v41 (w.heap.size + 1) a1) := F1.out.below hb F1.out.lt
            have F2 : Hid (XW v41 (w.heap.size + 2) a2) := F2.out.below hb F2.out.lt
            have F3 : Hid (XW v41 (w.heap.size + 3) a3) := F3.out.below hb F3.out.lt
            have FV : Hid (V7 v41 b1 (Hs.stepK a0 a1 a2 a3 a4 a5) (Hs.stepV a0 a1 a2 a3 a4 a5)) := FV.out.below hb FV.out.lt
            have FA : Hid (R7 v41 b) := FA.out.below hb FA.out.lt
            have FB : Hid (Below w.heap.size w v41) := FB.out.trans (hb.mono FB.out.size)
            clear hb
            obtain ⟨x0_0, x0_1, x0_2, x0_3, x0_4, x0_5, x0_6, x0_7, x0_8, x0_9, x0_10, x0_11⟩ := F0.out
            obtain ⟨x1_0, x1_1, x1_2, x1_3, x1_4, x1_5, y1_0, y1_1, y1_2, y1_3, y1_4, y1_5⟩ := F1.out
            obtain ⟨x2_0, x2_1, x2_2, y2_0, y2_1, y2_2⟩ := F2.out
            obtain ⟨x3_0, x3_1, x3_2, y3_0, y3_1, y3_2⟩ := F3.out
            try go_wp2_with fail
            refine hK.out _ _ (by (try dsimp only); first | exact ⟨x0_0, x0_1, x0_2, x0_3, x0_4, x0_5, x0_6, x0_7, x0_8, x0_9, x0_10, x0_11, x1_0, x1_1, x1_2, x1_3, x1_4, x1_5, x2_0, x2_1, x2_2, x3_0, x3_1, x3_2⟩ | go_keep) (fun hHeld => ?_)
            clear hK K
            try simp only [Act.put, List.getElem_toArray, List.getElem_cons_succ, List.getElem_cons_zero, List.setIfInBounds_toArray, List.set_cons_zero, List.set_cons_succ]
            refine wpAnyH_ready (rs := [7]) (by kernel_rfl) (by simp) ?_
            refine (AllReadyH.cons rfl (fun K hK => ?_) AllReadyH.nil)
            go_simp
            refine (toCommand_any a3 _).mono ?_
            rintro e v42 ⟨rfl, hb⟩
            have F0 : Hid (HAt v42 w.heap.size a0) := F0.out.below hb F0.out.lt
            have F1 : Hid (SW v42 (w.heap.size + 1) a1) := F1.out.below hb F1.out.lt
            have F2 : Hid (XW v42 (w.heap.size + 2) a2) := F2.out.below hb F2.out.lt
            have F3 : Hid (XW v42 (w.heap.size + 3) a3) := F3.out.below hb F3.out.lt
            have FV : Hid (V7 v42 b1 (Hs.stepK a0 a1 a2 a3 a4 a5) (Hs.stepV a0 a1 a2 a3 a4 a5)) := FV.out.below hb FV.out.lt
            have FA : Hid (R7 v42 b) := FA.out.below hb FA.out.lt
            have FB : Hid (Below w.heap.size w v42) := FB.out.trans (hb.mono FB.out.size)
            clear hb
            obtain ⟨x0_0, x0_1, x0_2, x0_3, x0_4, x0_5, x0_6, x0_7, x0_8, x0_9, x0_10, x0_11⟩ := F0.out
            obtain ⟨x1_0, x1_1, x1_2, x1_3, x1_4, x1_5, y1_0, y1_1, y1_2, y1_3, y1_4, y1_5⟩ := F1.out
            obtain ⟨x2_0, x2_1, x2_2, y2_0, y2_1, y2_2⟩ := F2.out
            obtain ⟨x3_0, x3_1, x3_2, y3_0, y3_1, y3_2⟩ := F3.out
            try go_wp2_with fail
            refine hK.out _ _ (by (try dsimp only); first | exact ⟨x0_0, x0_1, x0_2, x0_3, x0_4, x0_5, x0_6, x0_7, x0_8, x0_9, x0_10, x0_11, x1_0, x1_1, x1_2, x1_3, x1_4, x1_5, x2_0, x2_1, x2_2, x3_0, x3_1, x3_2⟩ | go_keep) (fun hHeld => ?_)
            clear hK K
            try simp only [Act.put, List.getElem_toArray, List.getElem_cons_succ, List.getElem_cons_zero, List.setIfInBounds_toArray, List.set_cons_zero, List.set_cons_succ]
            refine wpAnyH_ready (rs := [10]) (by kernel_rfl) (by simp) ?_
            refine (AllReadyH.cons rfl (fun K hK => ?_) AllReadyH.nil)
            go_simp
            refine (implStepShaft_any a0 a1 a2 a3 a4 a5 _).mono ?_
            rintro e v43 ⟨rfl, hb⟩
            have F0 : Hid (HAt v43 w.heap.size a0) := F0.out.below hb F0.out.lt
            have F1 : Hid (SW v43 (w.heap.size + 1) a1) := F1.out.below hb F1.out.lt
            have F2 : Hid (XW v43 (w.heap.size + 2) a2) := F2.out.below hb F2.out.lt
            have F3 : Hid (XW v43 (w.heap.size + 3) a3) := F3.out.below hb F3.out.lt
            have FV : Hid (V7 v43 b1 (Hs.stepK a0 a1 a2 a3 a4 a5) (Hs.stepV a0 a1 a2 a3 a4 a5)) := FV.out.below hb FV.out.lt
            have FA : Hid (R7 v43 b) := FA.out.below hb FA.out.lt
            have FB : Hid (Below w.heap.size w v43) := FB.out.trans (hb.mono FB.out.size)
            clear hb
            obtain ⟨x0_0, x0_1, x0_2, x0_3, x0_4, x0_5, x0_6, x0_7, x0_8, x0_9, x0_10, x0_11⟩ := F0.out
            obtain ⟨x1_0, x1_1, x1_2, x1_3, x1_4, x1_5, y1_0, y1_1, y1_2, y1_3, y1_4, y1_5⟩ := F1.out
            obtain ⟨x2_0, x2_1, x2_2, y2_0, y2_1, y2_2⟩ := F2.out
            obtain ⟨x3_0, x3_1, x3_2, y3_0, y3_1, y3_2⟩ := F3.out
            try go_wp2_with fail
            refine hK.out _ _ (by (try dsimp only); first | exact ⟨x0_0, x0_1, x0_2, x0_3, x0_4, x0_5, x0_6, x0_7, x0_8, x0_9, x0_10, x0_11, x1_0, x1_1, x1_2, x1_3, x1_4, x1_5, x2_0, x2_1, x2_2, x3_0, x3_1, x3_2⟩ | go_keep) (fun hHeld => ?_)
            clear hK K
            try simp only [Act.put, List.getElem_toArray, List.getElem_cons_succ, List.getElem_cons_zero, List.setIfInBounds_toArray, List.set_cons_zero, List.set_cons_succ]
            refine wpAnyH_ready (rs := [12]) (by kernel_rfl) (by simp) ?_
            refine (AllReadyH.cons rfl (fun K hK => ?_) AllReadyH.nil)
            have r0_ := FA.out.c0
            have s0_ := FA.out.f0
            have r1_ := FA.out.c1
            have s1_ := FA.out.f1
            have r2_ := FA.out.c2
            have s2_ := FA.out.f2
            have r3_ := FA.out.c3
            have s3_ := FA.out.f3
            have r4_ := FA.out.c4
            have s4_ := FA.out.f4
            have r5_ := FA.out.c5
            have s5_ := FA.out.f5
            have r6_ := FA.out.c6
            have s6_ := FA.out.f6
            go_simp
            refine hK.out _ _ (by (try dsimp only); first | ((repeat' apply And.intro) <;> ((repeat rw [cellS (by omega)]); assumption)) | go_keep) (fun hHeld => ?_)
            clear hK K
            try simp only [Act.put, List.getElem_toArray, List.getElem_cons_succ, List.getElem_cons_zero, List.setIfInBounds_toArray, List.set_cons_zero, List.set_cons_succ]
            refine wpAnyH_done (by kernel_rfl) ?_ _
            go_wp2_with fail
            go_meet
            case rel => exact ⟨b, rfl, FA.out.put (Hs.stepK a0 a1 a2 a3 a4 a5) (Hs.stepV a0 a1 a2 a3 a4 a5), FV.out.below (below_put7 (Below.refl _ _) (Nat.le_refl _) (Hs.stepK a0 a1 a2 a3 a4 a5) (Hs.stepV a0 a1 a2 a3 a4 a5)) n4, below_put7 FB.out (by omega) (Hs.stepK a0 a1 a2 a3 a4 a5) (Hs.stepV a0 a1 a2 a3 a4 a5)⟩
        · go_simp
          obtain ⟨b, hbb⟩ : ∃ b, b = v29.heap.size := ⟨_, rfl⟩
          obtain ⟨v44, hw2⟩ : ∃ v44, v44 = v29.alloc (.cells #[.int .i64 0, .int .i64 0, .int .i64 0, .int .i64 0, .int .i64 0, .int .i64 0, .int .i64 0] 55) := ⟨_, rfl⟩
          have n0 : w.heap.size < b := by rw [hbb]; exact F0.out.lt
          have n1 : (w.heap.size + 1) < b := by rw [hbb]; exact F1.out.lt
          have n2 : (w.heap.size + 2) < b := by rw [hbb]; exact F2.out.lt
          have n3 : (w.heap.size + 3) < b := by rw [hbb]; exact F3.out.lt
          have n4 : b1 < b := by rw [hbb]; exact FV.out.lt
          have FA : Hid (R7 v44 b) := by rw [hw2]; exact R7.at_ _ _ _ hbb
          have F0 : Hid (HAt v44 w.heap.size a0) := by rw [hw2]; exact F0.out.alloc _
          have F1 : Hid (SW v44 (w.heap.size + 1) a1) := by rw [hw2]; exact F1.out.alloc _
          have F2 : Hid (XW v44 (w.heap.size + 2) a2) := by rw [hw2]; exact F2.out.alloc _
          have F3 : Hid (XW v44 (w.heap.size + 3) a3) := by rw [hw2]; exact F3.out.alloc _
          have FV : Hid (V7 v44 b1 (Hs.stepK a0 a1 a2 a3 a4 a5) (Hs.stepV a0 a1 a2 a3 a4 a5)) := by rw [hw2]; exact FV.out.alloc _
          have FB : Hid (Below w.heap.size w v44) := by rw [hw2]; exact FB.out.alloc FB.out.size _
          rw [← hw2, ← hbb]
          clear hbb hw2
          obtain ⟨x0_0, x0_1, x0_2, x0_3, x0_4, x0_5, x0_6, x0_7, x0_8, x0_9, x0_10, x0_11⟩ := F0.out
          obtain ⟨x1_0, x1_1, x1_2, x1_3, x1_4, x1_5, y1_0, y1_1, y1_2, y1_3, y1_4, y1_5⟩ := F1.out
          obtain ⟨x2_0, x2_1, x2_2, y2_0, y2_1, y2_2⟩ := F2.out
          obtain ⟨x3_0, x3_1, x3_2, y3_0, y3_1, y3_2⟩ := F3.out
          refine hK.out _ _ (by (try dsimp only); first | exact ⟨x0_0, x0_1, x0_2, x0_3, x0_4, x0_5, x0_6, x0_7, x0_8, x0_9, x0_10, x0_11, x1_0, x1_1, x1_2, x1_3, x1_4, x1_5, x2_0, x2_1, x2_2, x3_0, x3_1, x3_2⟩ | go_keep) (fun hHeld => ?_)
          clear hK K
          try simp only [Act.put, List.getElem_toArray, List.getElem_cons_succ, List.getElem_cons_zero, List.setIfInBounds_toArray, List.set_cons_zero, List.set_cons_succ]
          refine wpAnyH_ready (rs := [3]) (by kernel_rfl) (by simp) ?_
          refine (AllReadyH.cons rfl (fun K hK => ?_) AllReadyH.nil)
          go_simp
          refine (toShaft_any a1 _).mono ?_
          rintro e v45 ⟨rfl, hb⟩
          have F0 : Hid (HAt v45 w.heap.size a0) := F0.out.below hb F0.out.lt
          have F1 : Hid (SW v45 (w.heap.size + 1) a1) := F1.out.below hb F1.out.lt
          have F2 : Hid (XW v45 (w.heap.size + 2) a2) := F2.out.below hb F2.out.lt
          have F3 : Hid (XW v45 (w.heap.size + 3) a3) := F3.out.below hb F3.out.lt
          have FV : Hid (V7 v45 b1 (Hs.stepK a0 a1 a2 a3 a4 a5) (Hs.stepV a0 a1 a2 a3 a4 a5)) := FV.out.below hb FV.out.lt
          have FA : Hid (R7 v45 b) := FA.out.below hb FA.out.lt
          have FB : Hid (Below w.heap.size w v45) := FB.out.trans (hb.mono FB.out.size)
          clear hb
          obtain ⟨x0_0, x0_1, x0_2, x0_3, x0_4, x0_5, x0_6, x0_7, x0_8, x0_9, x0_10, x0_11⟩ := F0.out
          obtain ⟨x1_0, x1_1, x1_2, x1_3, x1_4, x1_5, y1_0, y1_1, y1_2, y1_3, y1_4, y1_5⟩ := F1.out
          obtain ⟨x2_0, x2_1, x2_2, y2_0, y2_1, y2_2⟩ := F2.out
          obtain ⟨x3_0, x3_1, x3_2, y3_0, y3_1, y3_2⟩ := F3.out
          try go_wp2_with fail
          refine hK.out _ _ (by (try dsimp only); first | exact ⟨x0_0, x0_1, x0_2, x0_3, x0_4, x0_5, x0_6, x0_7, x0_8, x0_9, x0_10, x0_11, x1_0, x1_1, x1_2, x1_3, x1_4, x1_5, x2_0, x2_1, x2_2, x3_0, x3_1, x3_2⟩ | go_keep) (fun hHeld => ?_)
          clear hK K
          try simp only [Act.put, List.getElem_toArray, List.getElem_cons_succ, List.getElem_cons_zero, List.setIfInBounds_toArray, List.set_cons_zero, List.set_cons_succ]
          refine wpAnyH_ready (rs := [5]) (by kernel_rfl) (by simp) ?_
          refine (AllReadyH.cons rfl (fun K hK => ?_) AllReadyH.nil)
          go_simp
          refine (toCommand_any a2 _).mono ?_
          rintro e v46 ⟨rfl, hb⟩
          have F0 : Hid (HAt v46 w.heap.size a0) := F0.out.below hb F0.out.lt
          have F1 : Hid (SW v46 (w.heap.size + 1) a1) := F1.out.below hb F1.out.lt
          have F2 : Hid (XW v46 (w.heap.size + 2) a2) := F2.out.below hb F2.out.lt
          have F3 : Hid (XW v46 (w.heap.size + 3) a3) := F3.out.below hb F3.out.lt
          have FV : Hid (V7 v46 b1 (Hs.stepK a0 a1 a2 a3 a4 a5) (Hs.stepV a0 a1 a2 a3 a4 a5)) := FV.out.below hb FV.out.lt
          have FA : Hid (R7 v46 b) := FA.out.below hb FA.out.lt
          have FB : Hid (Below w.heap.size w v46) := FB.out.trans (hb.mono FB.out.size)
          clear hb
          obtain ⟨x0_0, x0_1, x0_2, x0_3, x0_4, x0_5, x0_6, x0_7, x0_8, x0_9, x0_10, x0_11⟩ := F0.out
          obtain ⟨x1_0, x1_1, x1_2, x1_3, x1_4, x1_5, y1_0, y1_1, y1_2, y1_3, y1_4, y1_5⟩ := F1.out
          obtain ⟨x2_0, x2_1, x2_2, y2_0, y2_1, y2_2⟩ := F2.out
          obtain ⟨x3_0, x3_1, x3_2, y3_0, y3_1, y3_2⟩ := F3.out
          try go_wp2_with fail
          refine hK.out _ _ (by (try dsimp only); first | exact ⟨x0_0, x0_1, x0_2, x0_3, x0_4, x0_5, x0_6, x0_7, x0_8, x0_9, x0_10, x0_11, x1_0, x1_1, x1_2, x1_3, x1_4, x1_5, x2_0, x2_1, x2_2, x3_0, x3_1, x3_2⟩ | go_keep) (fun hHeld => ?_)
          clear hK K
          try simp only [Act.put, List.getElem_toArray, List.getElem_cons_succ, List.getElem_cons_zero, List.setIfInBounds_toArray, List.set_cons_zero, List.set_cons_succ]
          refine wpAnyH_ready (rs := [7]) (by kernel_rfl) (by simp) ?_
          refine (AllReadyH.cons rfl (fun K hK => ?_) AllReadyH.nil)
          go_simp
          refine (toCommand_any a3 _).mono ?_
          rintro e v47 ⟨rfl, hb⟩
          have F0 : Hid (HAt v47 w.heap.size a0) := F0.out.below hb F0.out.lt
          have F1 : Hid (SW v47 (w.heap.size + 1) a1) := F1.out.below hb F1.out.lt
          have F2 : Hid (XW v47 (w.heap.size + 2) a2) := F2.out.below hb F2.out.lt
          have F3 : Hid (XW v47 (w.heap.size + 3) a3) := F3.out.below hb F3.out.lt
          have FV : Hid (V7 v47 b1 (Hs.stepK a0 a1 a2 a3 a4 a5) (Hs.stepV a0 a1 a2 a3 a4 a5)) := FV.out.below hb FV.out.lt
          have FA : Hid (R7 v47 b) := FA.out.below hb FA.out.lt
          have FB : Hid (Below w.heap.size w v47) := FB.out.trans (hb.mono FB.out.size)
          clear hb
          obtain ⟨x0_0, x0_1, x0_2, x0_3, x0_4, x0_5, x0_6, x0_7, x0_8, x0_9, x0_10, x0_11⟩ := F0.out
          obtain ⟨x1_0, x1_1, x1_2, x1_3, x1_4, x1_5, y1_0, y1_1, y1_2, y1_3, y1_4, y1_5⟩ := F1.out
          obtain ⟨x2_0, x2_1, x2_2, y2_0, y2_1, y2_2⟩ := F2.out
          obtain ⟨x3_0, x3_1, x3_2, y3_0, y3_1, y3_2⟩ := F3.out
          try go_wp2_with fail
          refine hK.out _ _ (by (try dsimp only); first | exact ⟨x0_0, x0_1, x0_2, x0_3, x0_4, x0_5, x0_6, x0_7, x0_8, x0_9, x0_10, x0_11, x1_0, x1_1, x1_2, x1_3, x1_4, x1_5, x2_0, x2_1, x2_2, x3_0, x3_1, x3_2⟩ | go_keep) (fun hHeld => ?_)
          clear hK K
          try simp only [Act.put, List.getElem_toArray, List.getElem_cons_succ, List.getElem_cons_zero, List.setIfInBounds_toArray, List.set_cons_zero, List.set_cons_succ]
          refine wpAnyH_ready (rs := [10]) (by kernel_rfl) (by simp) ?_
          refine (AllReadyH.cons rfl (fun K hK => ?_) AllReadyH.nil)
          go_simp
          refine (implStepShaft_any a0 a1 a2 a3 a4 a5 _).mono ?_
          rintro e v48 ⟨rfl, hb⟩
          have F0 : Hid (HAt v48 w.heap.size a0) := F0.out.below hb F0.out.lt
          have F1 : Hid (SW v48 (w.heap.size + 1) a1) := F1.out.below hb F1.out.lt
          have F2 : Hid (XW v48 (w.heap.size + 2) a2) := F2.out.below hb F2.out.lt
          have F3 : Hid (XW v48 (w.heap.size + 3) a3) := F3.out.below hb F3.out.lt
          have FV : Hid (V7 v48 b1 (Hs.stepK a0 a1 a2 a3 a4 a5) (Hs.stepV a0 a1 a2 a3 a4 a5)) := FV.out.below hb FV.out.lt
          have FA : Hid (R7 v48 b) := FA.out.below hb FA.out.lt
          have FB : Hid (Below w.heap.size w v48) := FB.out.trans (hb.mono FB.out.size)
          clear hb
          obtain ⟨x0_0, x0_1, x0_2, x0_3, x0_4, x0_5, x0_6, x0_7, x0_8, x0_9, x0_10, x0_11⟩ := F0.out
          obtain ⟨x1_0, x1_1, x1_2, x1_3, x1_4, x1_5, y1_0, y1_1, y1_2, y1_3, y1_4, y1_5⟩ := F1.out
          obtain ⟨x2_0, x2_1, x2_2, y2_0, y2_1, y2_2⟩ := F2.out
          obtain ⟨x3_0, x3_1, x3_2, y3_0, y3_1, y3_2⟩ := F3.out
          try go_wp2_with fail
          refine hK.out _ _ (by (try dsimp only); first | exact ⟨x0_0, x0_1, x0_2, x0_3, x0_4, x0_5, x0_6, x0_7, x0_8, x0_9, x0_10, x0_11, x1_0, x1_1, x1_2, x1_3, x1_4, x1_5, x2_0, x2_1, x2_2, x3_0, x3_1, x3_2⟩ | go_keep) (fun hHeld => ?_)
          clear hK K
          try simp only [Act.put, List.getElem_toArray, List.getElem_cons_succ, List.getElem_cons_zero, List.setIfInBounds_toArray, List.set_cons_zero, List.set_cons_succ]
          refine wpAnyH_ready (rs := [12]) (by kernel_rfl) (by simp) ?_
          refine (AllReadyH.cons rfl (fun K hK => ?_) AllReadyH.nil)
          have r0_ := FA.out.c0
          have s0_ := FA.out.f0
          have r1_ := FA.out.c1
          have s1_ := FA.out.f1
          have r2_ := FA.out.c2
          have s2_ := FA.out.f2
          have r3_ := FA.out.c3
          have s3_ := FA.out.f3
          have r4_ := FA.out.c4
          have s4_ := FA.out.f4
          have r5_ := FA.out.c5
          have s5_ := FA.out.f5
          have r6_ := FA.out.c6
          have s6_ := FA.out.f6
          go_simp
          refine hK.out _ _ (by (try dsimp only); first | ((repeat' apply And.intro) <;> ((repeat rw [cellS (by omega)]); assumption)) | go_keep) (fun hHeld => ?_)
          clear hK K
          try simp only [Act.put, List.getElem_toArray, List.getElem_cons_succ, List.getElem_cons_zero, List.setIfInBounds_toArray, List.set_cons_zero, List.set_cons_succ]
          refine wpAnyH_done (by kernel_rfl) ?_ _
          go_wp2_with fail
          go_meet
          case rel => exact ⟨b, rfl, FA.out.put (Hs.stepK a0 a1 a2 a3 a4 a5) (Hs.stepV a0 a1 a2 a3 a4 a5), FV.out.below (below_put7 (Below.refl _ _) (Nat.le_refl _) (Hs.stepK a0 a1 a2 a3 a4 a5) (Hs.stepV a0 a1 a2 a3 a4 a5)) n4, below_put7 FB.out (by omega) (Hs.stepK a0 a1 a2 a3 a4 a5) (Hs.stepV a0 a1 a2 a3 a4 a5)⟩
      · go_simp
        obtain ⟨b, hbb⟩ : ∃ b, b = v28.heap.size := ⟨_, rfl⟩
        obtain ⟨v49, hw2⟩ : ∃ v49, v49 = v28.alloc (.cells #[.int .i64 0, .int .i64 0, .int .i64 0, .int .i64 0, .int .i64 0, .int .i64 0, .int .i64 0] 55) := ⟨_, rfl⟩
        have n0 : w.heap.size < b := by rw [hbb]; exact F0.out.lt
        have n1 : (w.heap.size + 1) < b := by rw [hbb]; exact F1.out.lt
        have n2 : (w.heap.size + 2) < b := by rw [hbb]; exact F2.out.lt
        have n3 : (w.heap.size + 3) < b := by rw [hbb]; exact F3.out.lt
        have n4 : b1 < b := by rw [hbb]; exact FV.out.lt
        have FA : Hid (R7 v49 b) := by rw [hw2]; exact R7.at_ _ _ _ hbb
        have F0 : Hid (HAt v49 w.heap.size a0) := by rw [hw2]; exact F0.out.alloc _
        have F1 : Hid (SW v49 (w.heap.size + 1) a1) := by rw [hw2]; exact F1.out.alloc _
        have F2 : Hid (XW v49 (w.heap.size + 2) a2) := by rw [hw2]; exact F2.out.alloc _
        have F3 : Hid (XW v49 (w.heap.size + 3) a3) := by rw [hw2]; exact F3.out.alloc _
        have FV : Hid (V7 v49 b1 (Hs.stepK a0 a1 a2 a3 a4 a5) (Hs.stepV a0 a1 a2 a3 a4 a5)) := by rw [hw2]; exact FV.out.alloc _
        have FB : Hid (Below w.heap.size w v49) := by rw [hw2]; exact FB.out.alloc FB.out.size _
        rw [← hw2, ← hbb]
        clear hbb hw2
        obtain ⟨x0_0, x0_1, x0_2, x0_3, x0_4, x0_5, x0_6, x0_7, x0_8, x0_9, x0_10, x0_11⟩ := F0.out
        obtain ⟨x1_0, x1_1, x1_2, x1_3, x1_4, x1_5, y1_0, y1_1, y1_2, y1_3, y1_4, y1_5⟩ := F1.out
        obtain ⟨x2_0, x2_1, x2_2, y2_0, y2_1, y2_2⟩ := F2.out
        obtain ⟨x3_0, x3_1, x3_2, y3_0, y3_1, y3_2⟩ := F3.out
        refine hK.out _ _ (by (try dsimp only); first | exact ⟨x0_0, x0_1, x0_2, x0_3, x0_4, x0_5, x0_6, x0_7, x0_8, x0_9, x0_10, x0_11, x1_0, x1_1, x1_2, x1_3, x1_4, x1_5, x2_0, x2_1, x2_2, x3_0, x3_1, x3_2⟩ | go_keep) (fun hHeld => ?_)
        clear hK K
        try simp only [Act.put, List.getElem_toArray, List.getElem_cons_succ, List.getElem_cons_zero, List.setIfInBounds_toArray, List.set_cons_zero, List.set_cons_succ]
        refine wpAnyH_ready (rs := [1]) (by kernel_rfl) (by simp) ?_
        refine (AllReadyH.cons rfl (fun K hK => ?_) AllReadyH.nil)
        go_simp
        refine (toHouse_any a0 _).mono ?_
        rintro e v50 ⟨rfl, hb⟩
        have F0 : Hid (HAt v50 w.heap.size a0) := F0.out.below hb F0.out.lt
        have F1 : Hid (SW v50 (w.heap.size + 1) a1) := F1.out.below hb F1.out.lt
        have F2 : Hid (XW v50 (w.heap.size + 2) a2) := F2.out.below hb F2.out.lt
        have F3 : Hid (XW v50 (w.heap.size + 3) a3) := F3.out.below hb F3.out.lt
        have FV : Hid (V7 v50 b1 (Hs.stepK a0 a1 a2 a3 a4 a5) (Hs.stepV a0 a1 a2 a3 a4 a5)) := FV.out.below hb FV.out.lt
        have FA : Hid (R7 v50 b) := FA.out.below hb FA.out.lt
        have FB : Hid (Below w.heap.size w v50) := FB.out.trans (hb.mono FB.out.size)
        clear hb
        obtain ⟨x0_0, x0_1, x0_2, x0_3, x0_4, x0_5, x0_6, x0_7, x0_8, x0_9, x0_10, x0_11⟩ := F0.out
        obtain ⟨x1_0, x1_1, x1_2, x1_3, x1_4, x1_5, y1_0, y1_1, y1_2, y1_3, y1_4, y1_5⟩ := F1.out
        obtain ⟨x2_0, x2_1, x2_2, y2_0, y2_1, y2_2⟩ := F2.out
        obtain ⟨x3_0, x3_1, x3_2, y3_0, y3_1, y3_2⟩ := F3.out
        try go_wp2_with fail
        refine hK.out _ _ (by (try dsimp only); first | exact ⟨x0_0, x0_1, x0_2, x0_3, x0_4, x0_5, x0_6, x0_7, x0_8, x0_9, x0_10, x0_11, x1_0, x1_1, x1_2, x1_3, x1_4, x1_5, x2_0, x2_1, x2_2, x3_0, x3_1, x3_2⟩ | go_keep) (fun hHeld => ?_)
        clear hK K
        try simp only [Act.put, List.getElem_toArray, List.getElem_cons_succ, List.getElem_cons_zero, List.setIfInBounds_toArray, List.set_cons_zero, List.set_cons_succ]
        refine wpAnyH_ready (rs := [3]) (by kernel_rfl) (by simp) ?_
        refine (AllReadyH.cons rfl (fun K hK => ?_) AllReadyH.nil)
        go_simp
        refine (toShaft_any a1 _).mono ?_
        rintro e v51 ⟨rfl, hb⟩
        have F0 : Hid (HAt v51 w.heap.size a0) := F0.out.below hb F0.out.lt
        have F1 : Hid (SW v51 (w.heap.size + 1) a1) := F1.out.below hb F1.out.lt
        have F2 : Hid (XW v51 (w.heap.size + 2) a2) := F2.out.below hb F2.out.lt
        have F3 : Hid (XW v51 (w.heap.size + 3) a3) := F3.out.below hb F3.out.lt
        have FV : Hid (V7 v51 b1 (Hs.stepK a0 a1 a2 a3 a4 a5) (Hs.stepV a0 a1 a2 a3 a4 a5)) := FV.out.below hb FV.out.lt
        have FA : Hid (R7 v51 b) := FA.out.below hb FA.out.lt
        have FB : Hid (Below w.heap.size w v51) := FB.out.trans (hb.mono FB.out.size)
        clear hb
        obtain ⟨x0_0, x0_1, x0_2, x0_3, x0_4, x0_5, x0_6, x0_7, x0_8, x0_9, x0_10, x0_11⟩ := F0.out
        obtain ⟨x1_0, x1_1, x1_2, x1_3, x1_4, x1_5, y1_0, y1_1, y1_2, y1_3, y1_4, y1_5⟩ := F1.out
        obtain ⟨x2_0, x2_1, x2_2, y2_0, y2_1, y2_2⟩ := F2.out
        obtain ⟨x3_0, x3_1, x3_2, y3_0, y3_1, y3_2⟩ := F3.out
        try go_wp2_with fail
        refine hK.out _ _ (by (try dsimp only); first | exact ⟨x0_0, x0_1, x0_2, x0_3, x0_4, x0_5, x0_6, x0_7, x0_8, x0_9, x0_10, x0_11, x1_0, x1_1, x1_2, x1_3, x1_4, x1_5, x2_0, x2_1, x2_2, x3_0, x3_1, x3_2⟩ | go_keep) (fun hHeld => ?_)
        clear hK K
        try simp only [Act.put, List.getElem_toArray, List.getElem_cons_succ, List.getElem_cons_zero, List.setIfInBounds_toArray, List.set_cons_zero, List.set_cons_succ]
        refine wpAnyH_ready (rs := [5]) (by kernel_rfl) (by simp) ?_
        refine (AllReadyH.cons rfl (fun K hK => ?_) AllReadyH.nil)
        go_simp
        refine (toCommand_any a2 _).mono ?_
        rintro e v52 ⟨rfl, hb⟩
        have F0 : Hid (HAt v52 w.heap.size a0) := F0.out.below hb F0.out.lt
        have F1 : Hid (SW v52 (w.heap.size + 1) a1) := F1.out.below hb F1.out.lt
        have F2 : Hid (XW v52 (w.heap.size + 2) a2) := F2.out.below hb F2.out.lt
        have F3 : Hid (XW v52 (w.heap.size + 3) a3) := F3.out.below hb F3.out.lt
        have FV : Hid (V7 v52 b1 (Hs.stepK a0 a1 a2 a3 a4 a5) (Hs.stepV a0 a1 a2 a3 a4 a5)) := FV.out.below hb FV.out.lt
        have FA : Hid (R7 v52 b) := FA.out.below hb FA.out.lt
        have FB : Hid (Below w.heap.size w v52) := FB.out.trans (hb.mono FB.out.size)
        clear hb
        obtain ⟨x0_0, x0_1, x0_2, x0_3, x0_4, x0_5, x0_6, x0_7, x0_8, x0_9, x0_10, x0_11⟩ := F0.out
        obtain ⟨x1_0, x1_1, x1_2, x1_3, x1_4, x1_5, y1_0, y1_1, y1_2, y1_3, y1_4, y1_5⟩ := F1.out
        obtain ⟨x2_0, x2_1, x2_2, y2_0, y2_1, y2_2⟩ := F2.out
        obtain ⟨x3_0, x3_1, x3_2, y3_0, y3_1, y3_2⟩ := F3.out
        try go_wp2_with fail
        refine hK.out _ _ (by (try dsimp only); first | exact ⟨x0_0, x0_1, x0_2, x0_3, x0_4, x0_5, x0_6, x0_7, x0_8, x0_9, x0_10, x0_11, x1_0, x1_1, x1_2, x1_3, x1_4, x1_5, x2_0, x2_1, x2_2, x3_0, x3_1, x3_2⟩ | go_keep) (fun hHeld => ?_)
        clear hK K
        try simp only [Act.put, List.getElem_toArray, List.getElem_cons_succ, List.getElem_cons_zero, List.setIfInBounds_toArray, List.set_cons_zero, List.set_cons_succ]
        refine wpAnyH_ready (rs := [7]) (by kernel_rfl) (by simp) ?_
        refine (AllReadyH.cons rfl (fun K hK => ?_) AllReadyH.nil)
        go_simp
        refine (toCommand_any a3 _).mono ?_
        rintro e v53 ⟨rfl, hb⟩
        have F0 : Hid (HAt v53 w.heap.size a0) := F0.out.below hb F0.out.lt
        have F1 : Hid (SW v53 (w.heap.size + 1) a1) := F1.out.below hb F1.out.lt
        have F2 : Hid (XW v53 (w.heap.size + 2) a2) := F2.out.below hb F2.out.lt
        have F3 : Hid (XW v53 (w.heap.size + 3) a3) := F3.out.below hb F3.out.lt
        have FV : Hid (V7 v53 b1 (Hs.stepK a0 a1 a2 a3 a4 a5) (Hs.stepV a0 a1 a2 a3 a4 a5)) := FV.out.below hb FV.out.lt
        have FA : Hid (R7 v53 b) := FA.out.below hb FA.out.lt
        have FB : Hid (Below w.heap.size w v53) := FB.out.trans (hb.mono FB.out.size)
        clear hb
        obtain ⟨x0_0, x0_1, x0_2, x0_3, x0_4, x0_5, x0_6, x0_7, x0_8, x0_9, x0_10, x0_11⟩ := F0.out
        obtain ⟨x1_0, x1_1, x1_2, x1_3, x1_4, x1_5, y1_0, y1_1, y1_2, y1_3, y1_4, y1_5⟩ := F1.out
        obtain ⟨x2_0, x2_1, x2_2, y2_0, y2_1, y2_2⟩ := F2.out
        obtain ⟨x3_0, x3_1, x3_2, y3_0, y3_1, y3_2⟩ := F3.out
        try go_wp2_with fail
        refine hK.out _ _ (by (try dsimp only); first | exact ⟨x0_0, x0_1, x0_2, x0_3, x0_4, x0_5, x0_6, x0_7, x0_8, x0_9, x0_10, x0_11, x1_0, x1_1, x1_2, x1_3, x1_4, x1_5, x2_0, x2_1, x2_2, x3_0, x3_1, x3_2⟩ | go_keep) (fun hHeld => ?_)
        clear hK K
        try simp only [Act.put, List.getElem_toArray, List.getElem_cons_succ, List.getElem_cons_zero, List.setIfInBounds_toArray, List.set_cons_zero, List.set_cons_succ]
        refine wpAnyH_ready (rs := [10]) (by kernel_rfl) (by simp) ?_
        refine (AllReadyH.cons rfl (fun K hK => ?_) AllReadyH.nil)
        go_simp
        refine (implStepShaft_any a0 a1 a2 a3 a4 a5 _).mono ?_
        rintro e v54 ⟨rfl, hb⟩
        have F0 : Hid (HAt v54 w.heap.size a0) := F0.out.below hb F0.out.lt
        have F1 : Hid (SW v54 (w.heap.size + 1) a1) := F1.out.below hb F1.out.lt
        have F2 : Hid (XW v54 (w.heap.size + 2) a2) := F2.out.below hb F2.out.lt
        have F3 : Hid (XW v54 (w.heap.size + 3) a3) := F3.out.below hb F3.out.lt
        have FV : Hid (V7 v54 b1 (Hs.stepK a0 a1 a2 a3 a4 a5) (Hs.stepV a0 a1 a2 a3 a4 a5)) := FV.out.below hb FV.out.lt
        have FA : Hid (R7 v54 b) := FA.out.below hb FA.out.lt
        have FB : Hid (Below w.heap.size w v54) := FB.out.trans (hb.mono FB.out.size)
        clear hb
        obtain ⟨x0_0, x0_1, x0_2, x0_3, x0_4, x0_5, x0_6, x0_7, x0_8, x0_9, x0_10, x0_11⟩ := F0.out
        obtain ⟨x1_0, x1_1, x1_2, x1_3, x1_4, x1_5, y1_0, y1_1, y1_2, y1_3, y1_4, y1_5⟩ := F1.out
        obtain ⟨x2_0, x2_1, x2_2, y2_0, y2_1, y2_2⟩ := F2.out
        obtain ⟨x3_0, x3_1, x3_2, y3_0, y3_1, y3_2⟩ := F3.out
        try go_wp2_with fail
        refine hK.out _ _ (by (try dsimp only); first | exact ⟨x0_0, x0_1, x0_2, x0_3, x0_4, x0_5, x0_6, x0_7, x0_8, x0_9, x0_10, x0_11, x1_0, x1_1, x1_2, x1_3, x1_4, x1_5, x2_0, x2_1, x2_2, x3_0, x3_1, x3_2⟩ | go_keep) (fun hHeld => ?_)
        clear hK K
        try simp only [Act.put, List.getElem_toArray, List.getElem_cons_succ, List.getElem_cons_zero, List.setIfInBounds_toArray, List.set_cons_zero, List.set_cons_succ]
        refine wpAnyH_ready (rs := [12]) (by kernel_rfl) (by simp) ?_
        refine (AllReadyH.cons rfl (fun K hK => ?_) AllReadyH.nil)
        have r0_ := FA.out.c0
        have s0_ := FA.out.f0
        have r1_ := FA.out.c1
        have s1_ := FA.out.f1
        have r2_ := FA.out.c2
        have s2_ := FA.out.f2
        have r3_ := FA.out.c3
        have s3_ := FA.out.f3
        have r4_ := FA.out.c4
        have s4_ := FA.out.f4
        have r5_ := FA.out.c5
        have s5_ := FA.out.f5
        have r6_ := FA.out.c6
        have s6_ := FA.out.f6
        go_simp
        refine hK.out _ _ (by (try dsimp only); first | ((repeat' apply And.intro) <;> ((repeat rw [cellS (by omega)]); assumption)) | go_keep) (fun hHeld => ?_)
        clear hK K
        try simp only [Act.put, List.getElem_toArray, List.getElem_cons_succ, List.getElem_cons_zero, List.setIfInBounds_toArray, List.set_cons_zero, List.set_cons_succ]
        refine wpAnyH_done (by kernel_rfl) ?_ _
        go_wp2_with fail
        go_meet
        case rel => exact ⟨b, rfl, FA.out.put (Hs.stepK a0 a1 a2 a3 a4 a5) (Hs.stepV a0 a1 a2 a3 a4 a5), FV.out.below (below_put7 (Below.refl _ _) (Nat.le_refl _) (Hs.stepK a0 a1 a2 a3 a4 a5) (Hs.stepV a0 a1 a2 a3 a4 a5)) n4, below_put7 FB.out (by omega) (Hs.stepK a0 a1 a2 a3 a4 a5) (Hs.stepV a0 a1 a2 a3 a4 a5)⟩
    case rest =>
      obtain ⟨b2, rfl, hg, hv, hB⟩ := hcut
      have FB : Hid (Below w.heap.size w wc) := hB
      clear hB
      obtain ⟨g0, g1, g2, g3, g4, g5, g6⟩ := hg
      obtain ⟨u0_, u1_, u2_, u3_, u4_, u5_, u6_⟩ := hv
      go_wp2_with (go_at_call 27; refine (eqShaftResult_same (Hs.stepK a0 a1 a2 a3 a4 a5) (Hs.stepV a0 a1 a2 a3 a4 a5) _).mono ?_; rintro e w9 ⟨rfl, hb⟩; have FB : Hid (Below w.heap.size w w9) := FB.out.trans (hb.mono FB.out.size); clear hb)
      go_ret
      exact ⟨rfl, FB.out⟩

set_option maxRecDepth 100000 in
theorem lifted (os : Os) (started : os.Started) (H : Type) (enc : TypeId × Value → H) :
    ReturnsInHanded {} Try.checked os 8 .any (Rows.fnExactStepShaftSpec.pre6 enc Try.prog Try.f8 Rows.fnExactStepShaftRow.domain false) (Rows.fnExactStepShaftSpec.post enc Try.prog Try.f8 false true false false) := by
  refine returnsInHanded_of_change (C := Try.checked) own started (by kernel_rfl) Try.func8
    (ChangeSpec.witness6 (enc := enc) (C := Try.checked) false ⟨#[], #[.agg #[.int .i64 0, .int .i64 0, .int .i64 0, .int .i64 0, .int .i64 0, .int .i64 0, .int .i64 0, .int .i64 0, .int .i64 0, .int .i64 0, .int .i64 0, .int .i64 0], .agg #[.int .i64 0, .int .i64 0, .int .i64 0, .int .i64 0, .int .i64 0, .int .i64 0], .agg #[.int .i64 0, .bool false, .bool false], .agg #[.int .i64 0, .bool false, .bool false], .int .i64 0, .int .i64 0], []⟩ 8 (by kernel_rfl) (by kernel_rfl) (by kernel_rfl) (by kernel_rfl)) ?_
  intro W base args ds gs before hval0 hW hcnd _
  have hval : ∀ (j : Nat) t v, Try.f8.params[j]? = some t → args[j]? = some v → Value.okWide Try.prog W .any base t v := hval0
  have hW' := hW
  obtain ⟨p, q, hA0, hV, rfl, hfz, hnd⟩ := hW
  have hA : DataW.TrodAll enc Try.prog W 0 (fun _ => true) true Try.f8.params.toList args.toList ds p := hA0
  rw [Try.params8] at hA hval
  obtain ⟨v0, vs0, d0, ds0, p0, q0, hargs, rfl, rfl, h0, r0⟩ := trodAll_cons hA
  obtain ⟨v1, vs1, d1, ds1, p1, q1, rfl, rfl, rfl, h1, r1⟩ := trodAll_cons r0
  obtain ⟨v2, vs2, d2, ds2, p2, q2, rfl, rfl, rfl, h2, r2⟩ := trodAll_cons r1
  obtain ⟨v3, vs3, d3, ds3, p3, q3, rfl, rfl, rfl, h3, r3⟩ := trodAll_cons r2
  obtain ⟨v4, vs4, d4, ds4, p4, q4, rfl, rfl, rfl, h4, r4⟩ := trodAll_cons r3
  obtain ⟨v5, vs5, d5, ds5, p5, q5, rfl, rfl, rfl, h5, r5⟩ := trodAll_cons r4
  obtain ⟨rfl, rfl, rfl⟩ := trodAll_nil r5
  obtain rfl : args = #[v0, v1, v2, v3, v4, v5] := by cases args; simp_all
  obtain ⟨rfl, rfl⟩ := trodVars_none hV
  have k0 := h0
  have lt0 : ∀ x ∈ p0, x.block < W.heap.size := by obtain ⟨m, hm⟩ := k0; exact DataW.trod_lt m _ _ _ hm
  obtain ⟨xs0, hl0, rfl, w0⟩ := open_i64s Try.underlying38 Try.underlying2 (by kernel_rfl) (by kernel_rfl) (by kernel_rfl) (hval 0 38 v0 rfl rfl) h0
  obtain ⟨x0_0, x0_1, x0_2, x0_3, x0_4, x0_5, x0_6, x0_7, x0_8, x0_9, x0_10, x0_11, rfl⟩ := list12 hl0
  have k1 := h1
  have lt1 : ∀ x ∈ p1, x.block < W.heap.size := by obtain ⟨m, hm⟩ := k1; exact DataW.trod_lt m _ _ _ hm
  obtain ⟨xs1, ys1, hl1, hm1, rfl, wx1, wy1⟩ := open_two (tc := 39) (n := 3) Try.underlying50 Try.underlying39 Try.underlying2 (by kernel_rfl) (by kernel_rfl) (by kernel_rfl) (by kernel_rfl) rfl rfl rfl rfl rfl rfl (hval 1 50 v1 rfl rfl) h1
  obtain ⟨x1_0, x1_1, x1_2, rfl⟩ := list3 hl1
  obtain ⟨x1_3, x1_4, x1_5, rfl⟩ := list3 hm1
  have w1 : ∀ x ∈ [x1_0, x1_1, x1_2, x1_3, x1_4, x1_5], (Lit.int .i64 x).wf = true := by
    intro x hx
    rcases List.mem_append.1 (show x ∈ [x1_0, x1_1, x1_2] ++ [x1_3, x1_4, x1_5] from hx) with h | h
    · exact wx1 x h
    · exact wy1 x h
  have k2 := h2
  have lt2 : ∀ x ∈ p2, x.block < W.heap.size := by obtain ⟨m, hm⟩ := k2; exact DataW.trod_lt m _ _ _ hm
  obtain ⟨x2_0, x2_1, x2_2, rfl, w2⟩ := open_cmd Try.underlying40 Try.underlying2 Try.underlying4 (by kernel_rfl) (by kernel_rfl) (by kernel_rfl) (by kernel_rfl) (hval 2 40 v2 rfl rfl) h2
  have k3 := h3
  have lt3 : ∀ x ∈ p3, x.block < W.heap.size := by obtain ⟨m, hm⟩ := k3; exact DataW.trod_lt m _ _ _ hm
  obtain ⟨x3_0, x3_1, x3_2, rfl, w3⟩ := open_cmd Try.underlying40 Try.underlying2 Try.underlying4 (by kernel_rfl) (by kernel_rfl) (by kernel_rfl) (by kernel_rfl) (hval 3 40 v3 rfl rfl) h3
  have k4 := h4
  have lt4 : ∀ x ∈ p4, x.block < W.heap.size := by obtain ⟨m, hm⟩ := k4; exact DataW.trod_lt m _ _ _ hm
  obtain ⟨a4, rfl, _, _, w4⟩ := open_int Try.underlying2 (hval 4 2 v4 rfl rfl) h4
  have k5 := h5
  have lt5 : ∀ x ∈ p5, x.block < W.heap.size := by obtain ⟨m, hm⟩ := k5; exact DataW.trod_lt m _ _ _ hm
  obtain ⟨a5, rfl, _, _, w5⟩ := open_int Try.underlying2 (hval 5 2 v5 rfl rfl) h5
  clear hA0 hval0
  refine (walk ⟨x0_0, x0_1, x0_2, x0_3, x0_4, x0_5, x0_6, x0_7, x0_8, x0_9, x0_10, x0_11⟩ ⟨⟨x1_0, x1_1, x1_2⟩, ⟨x1_3, x1_4, x1_5⟩⟩ ⟨x2_0, x2_1, x2_2⟩ ⟨x3_0, x3_1, x3_2⟩ a4 a5 w0 w1 w2 w3 w4 w5 W).mono fun e W' ⟨he, bel⟩ => ?_
  subst he
  exact ⟨_, rfl, _, _, _, [], _, [], hW', trodAll_mk1 (shut_bool Try.underlying4 _), (trodAll_cons_mk (Below.trod laidOut (by kernel_rfl) (of_decide_eq_true (by kernel_rfl)) k0 bel lt0) (trodAll_cons_mk (Below.trod laidOut (by kernel_rfl) (of_decide_eq_true (by kernel_rfl)) k1 bel lt1) (trodAll_cons_mk (Below.trod laidOut (by kernel_rfl) (of_decide_eq_true (by kernel_rfl)) k2 bel lt2) (trodAll_cons_mk (Below.trod laidOut (by kernel_rfl) (of_decide_eq_true (by kernel_rfl)) k3 bel lt3) (trodAll_cons_mk (Below.trod laidOut (by kernel_rfl) (of_decide_eq_true (by kernel_rfl)) k4 bel lt4) (trodAll_cons_mk (Below.trod laidOut (by kernel_rfl) (of_decide_eq_true (by kernel_rfl)) k5 bel lt5) trodAll_mk0)))))), rfl, bel.frame _, fun h => by cases h⟩

theorem over : Rows.fnExactStepShaftRow.holds Try.pinned (OpenSpec.ofChange Rows.fnExactStepShaftSpec) :=
  OpenClaim.holds_of_wide 8 Try.f8 rfl rfl rfl rfl rfl rfl rfl ⟨rfl, rfl, rfl, rfl, rfl⟩ rfl rfl rfl rfl rfl (by kernel_rfl) Try.func8 (by kernel_rfl)
    (of_decide_eq_true (by kernel_rfl)) (by unfold Func.isWrapper; first | (rw [if_pos (by decide +kernel)]; kernel_rfl) | (rw [if_neg (by decide +kernel)]; exact ⟨rfl, rfl⟩))
    (fun os started H enc _ => lifted os started H enc)

theorem proved : Rows.FnExactStepShaftSaid := over
end Go.Proofs.Ytkiohienbchffaa.fnExactStepShaft

namespace Go.Proofs.Ytkiohienbchffaa
theorem fnExactStepShaft_holds : Rows.FnExactStepShaftSaid := fnExactStepShaft.proved
#print axioms fnExactStepShaft_holds
end Go.Proofs.Ytkiohienbchffaa
