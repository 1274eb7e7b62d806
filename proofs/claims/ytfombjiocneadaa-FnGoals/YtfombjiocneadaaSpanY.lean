/-
  The house, the shaft and the goals that the bytes draw; the law FnGoals.
-/
import Derived.Test.YtfombjiocneadaaGuardY
import Derived.Test.YtfombjiocneadaaAt
namespace Go.Proofs.Ytfombjiocneadaa
open Go.RowKit Pl
set_option linter.unusedSimpArgs false
set_option linter.unusedVariables false

set_option maxRecDepth 20000 in
set_option maxHeartbeats 16000000 in
theorem DrawGoalsFor_any (a : Option Addr) (len cap : Nat) (w : World) (hc : CodeIn w w.heap.size a len) :
    Calls Try.prog 15 #[.slice a len cap] w fun e w' => ∃ (h : Hs) (s : Sh) (l g o : Int), e = .returned (.tuple #[.agg #[.int .i64 h.fl, .int .i64 h.gp, .int .i64 h.ln, .int .i64 h.rf, .int .i64 h.sp, .int .i64 h.pu, .int .i64 h.br, .int .i64 h.dr, .int .i64 h.lv, .int .i64 h.dO, .int .i64 h.ld, .int .i64 h.qu], .agg #[.int .i64 s.lo.pos, .int .i64 s.lo.vel, .int .i64 s.lo.door, .int .i64 s.up.pos, .int .i64 s.up.vel, .int .i64 s.up.door], .int .i64 l, .int .i64 g, .int .i64 o]) ∧ Below w.heap.size w w' := by
  obtain ⟨W0, hW0⟩ : ∃ W0, W0 = ((w.alloc (.cells #[.int .i64 0, .int .i64 0, .int .i64 0, .int .i64 0, .int .i64 0, .int .i64 0, .int .i64 0, .int .i64 0, .int .i64 0, .int .i64 0, .int .i64 0, .int .i64 0] 25)).alloc (.cells #[.int .i64 0, .int .i64 0, .int .i64 0, .int .i64 0, .int .i64 0, .int .i64 0] 37)) := ⟨_, rfl⟩
  obtain ⟨sb, hsb⟩ : ∃ sb, sb = W0.heap.size := ⟨_, rfl⟩
  have hsz : w.heap.size + 1 < sb := by rw [hsb, hW0]; simp
  have HC : Hid (CodeIn W0 w.heap.size a len) := by rw [hW0]; exact hc.keep fun b off _ hb => (World.cell?_alloc_past _ _ _ (by simp; omega)).trans (World.cell?_alloc_past _ _ _ hb)
  have G0 : Hid (HW W0 w.heap.size (⟨0, 0, 0, 0, 0, 0, 0, 0, 0, 0, 0, 0⟩ : Hs)) := by rw [hW0]; exact (HW.new w (⟨0, 0, 0, 0, 0, 0, 0, 0, 0, 0, 0, 0⟩ : Hs) _).alloc _
  have G1 : Hid (R6 W0 (w.heap.size + 1)) := by rw [hW0]; exact R6.at_ _ _ _ (by simp)
  have FK : Hid (Keeps sb w W0) := by rw [hW0]; exact ((Keeps.refl _ _).alloc _).alloc _
  have HW0 : Hid (W0 = ((w.alloc (.cells #[.int .i64 0, .int .i64 0, .int .i64 0, .int .i64 0, .int .i64 0, .int .i64 0, .int .i64 0, .int .i64 0, .int .i64 0, .int .i64 0, .int .i64 0, .int .i64 0] 25)).alloc (.cells #[.int .i64 0, .int .i64 0, .int .i64 0, .int .i64 0, .int .i64 0, .int .i64 0] 37))) := hW0
  have HSB : Hid (sb = W0.heap.size) := hsb
  clear hW0 hsb hc
  go_enter Try.func15, Try.ntmps15
  go_wp2_with fail
  rw [← HW0.out]
  clear HW0
  refine (l1Source_t w.heap.size a len cap _ (by have := HSB.out; omega) HC.out).mono ?_
  rw [← HSB.out]
  rintro e w1 ⟨rfl, hs, hk⟩
  clear HSB
  have G0 : Hid (HW w1 w.heap.size (⟨0, 0, 0, 0, 0, 0, 0, 0, 0, 0, 0, 0⟩ : Hs)) := G0.out.keeps hk (by omega)
  have G1 : Hid (R6 w1 (w.heap.size + 1)) := G1.out.keeps hk (by omega)
  have FS : Hid (SrcT w1 sb w.heap.size a len cap (0)) := hs
  have FK : Hid (Keeps sb w w1) := FK.out.trans hk
  clear hs hk
  go_wp2_with fail
  refine (l5Draw_t sb _ a len cap _ _ FS.out (by omega)).mono ?_
  rintro e w2 ⟨h, s, x, y, rfl, ho, hs, hk⟩
  have f1 := ho.fl1
  have f2 := ho.fl2
  have e0 : IntKind.i64.wrap (h.fl + 1) = h.fl + 1 := IntWalk.i64_in _ (by omega)
  clear ho
  have G0 : Hid (HW w2 w.heap.size (⟨0, 0, 0, 0, 0, 0, 0, 0, 0, 0, 0, 0⟩ : Hs)) := G0.out.keeps hk (by omega)
  have G1 : Hid (R6 w2 (w.heap.size + 1)) := G1.out.keeps hk (by omega)
  have FS : Hid (SrcT w2 sb w.heap.size a len cap (0 + 200)) := hs
  have FK : Hid (Keeps sb w w2) := FK.out.trans hk
  clear hs hk
  go_upto_region 3 with fail
  have lG0 := G0.out.lt
  have lG1 := G1.out.lt
  have lFS := FS.out.lt
  obtain ⟨w3, hw3⟩ : ∃ w3, w3 = (((w2.alloc (.cells #[.int .i64 h.fl, .int .i64 h.gp, .int .i64 h.ln, .int .i64 h.rf, .int .i64 h.sp, .int .i64 h.pu, .int .i64 h.br, .int .i64 h.dr, .int .i64 h.lv, .int .i64 h.dO, .int .i64 h.ld, .int .i64 h.qu] 25)).alloc (.cells #[.int .i64 s.lo.pos, .int .i64 s.lo.vel, .int .i64 s.lo.door, .int .i64 s.up.pos, .int .i64 s.up.vel, .int .i64 s.up.door] 37)).alloc (.cells #[.int .i64 x.push, .bool x.brk, .bool x.opn] 29)).alloc (.cells #[.int .i64 y.push, .bool y.brk, .bool y.opn] 29) := ⟨_, rfl⟩
  obtain ⟨b1, hb1⟩ : ∃ b1, b1 = w2.heap.size := ⟨_, rfl⟩
  obtain ⟨b2, hb2⟩ : ∃ b2, b2 = w2.heap.size + 1 := ⟨_, rfl⟩
  have l12 : b1 < b2 := by omega
  have F0 : Hid (HAt w3 b1 h) := by rw [hw3]; exact (((HAt.at_ w2 h _ _ hb1).alloc _).alloc _).alloc _
  have F1 : Hid (SW w3 b2 s) := by rw [hw3]; exact ((SW.at_ _ s _ _ (by simp; omega)).alloc _).alloc _
  have G0 : Hid (HW w3 w.heap.size (⟨0, 0, 0, 0, 0, 0, 0, 0, 0, 0, 0, 0⟩ : Hs)) := by rw [hw3]; exact (((G0.out.alloc _).alloc _).alloc _).alloc _
  have G1 : Hid (R6 w3 (w.heap.size + 1)) := by rw [hw3]; exact (((G1.out.alloc _).alloc _).alloc _).alloc _
  have FS : Hid (SrcT w3 sb w.heap.size a len cap (0 + 200)) := by rw [hw3]; exact (((FS.out.alloc _).alloc _).alloc _).alloc _
  have FK : Hid (Keeps sb w w3) := by rw [hw3]; exact (((FK.out.alloc _).alloc _).alloc _).alloc _
  rw [← hb1] at lG0 lG1 lFS
  rw [← hw3, ← hb2, ← hb1]
  clear hw3 hb1 hb2
  replace F0 : Hid (HAt w3.drew b1 h) := F0.out.below (Below.refl _ _).drew F0.out.lt
  replace F1 : Hid (SW w3.drew b2 s) := F1.out.below (Below.refl _ _).drew F1.out.lt
  replace G0 : Hid (HW w3.drew w.heap.size (⟨0, 0, 0, 0, 0, 0, 0, 0, 0, 0, 0, 0⟩ : Hs)) := G0.out.below (Below.refl _ _).drew G0.out.lt
  replace G1 : Hid (R6 w3.drew (w.heap.size + 1)) := G1.out.below (Below.refl _ _).drew G1.out.lt
  replace FS : Hid (SrcT w3.drew sb w.heap.size a len cap (0 + 200)) := FS.out.drew
  replace FK : Hid (Keeps sb w w3.drew) := FK.out.of_below (Below.refl _ _).drew
  obtain ⟨x0_0, x0_1, x0_2, x0_3, x0_4, x0_5, x0_6, x0_7, x0_8, x0_9, x0_10, x0_11⟩ := F0.out
  obtain ⟨x1_0, x1_1, x1_2, x1_3, x1_4, x1_5, y1_0, y1_1, y1_2, y1_3, y1_4, y1_5⟩ := F1.out
  refine wp_region_held_drew (S := (fun w'' => w''.cell? ⟨b1, 0, none⟩ = some (.int .i64 h.fl) ∧ w''.cell? ⟨b1, 1, none⟩ = some (.int .i64 h.gp) ∧ w''.cell? ⟨b1, 2, none⟩ = some (.int .i64 h.ln) ∧ w''.cell? ⟨b1, 3, none⟩ = some (.int .i64 h.rf) ∧ w''.cell? ⟨b1, 4, none⟩ = some (.int .i64 h.sp) ∧ w''.cell? ⟨b1, 5, none⟩ = some (.int .i64 h.pu) ∧ w''.cell? ⟨b1, 6, none⟩ = some (.int .i64 h.br) ∧ w''.cell? ⟨b1, 7, none⟩ = some (.int .i64 h.dr) ∧ w''.cell? ⟨b1, 8, none⟩ = some (.int .i64 h.lv) ∧ w''.cell? ⟨b1, 9, none⟩ = some (.int .i64 h.dO) ∧ w''.cell? ⟨b1, 10, none⟩ = some (.int .i64 h.ld) ∧ w''.cell? ⟨b1, 11, none⟩ = some (.int .i64 h.qu) ∧ w''.cell? ⟨b2, 0, none⟩ = some (.int .i64 s.lo.pos) ∧ w''.cell? ⟨b2, 1, none⟩ = some (.int .i64 s.lo.vel) ∧ w''.cell? ⟨b2, 2, none⟩ = some (.int .i64 s.lo.door) ∧ w''.cell? ⟨b2, 3, none⟩ = some (.int .i64 s.up.pos) ∧ w''.cell? ⟨b2, 4, none⟩ = some (.int .i64 s.up.vel) ∧ w''.cell? ⟨b2, 5, none⟩ = some (.int .i64 s.up.door))) (by kernel_rfl) (by (try dsimp only); first | exact ⟨x0_0, x0_1, x0_2, x0_3, x0_4, x0_5, x0_6, x0_7, x0_8, x0_9, x0_10, x0_11, x1_0, x1_1, x1_2, x1_3, x1_4, x1_5⟩ | go_keep) (fun hHeld => ?_)
  obtain ⟨v_1, hw1⟩ : ∃ v_1, v_1 = w3.drew := ⟨_, rfl⟩
  replace F0 : Hid (HAt v_1 b1 h) := by rw [hw1]; exact F0.out
  replace F1 : Hid (SW v_1 b2 s) := by rw [hw1]; exact F1.out
  replace G0 : Hid (HW v_1 w.heap.size (⟨0, 0, 0, 0, 0, 0, 0, 0, 0, 0, 0, 0⟩ : Hs)) := by rw [hw1]; exact G0.out
  replace G1 : Hid (R6 v_1 (w.heap.size + 1)) := by rw [hw1]; exact G1.out
  replace FS : Hid (SrcT v_1 sb w.heap.size a len cap (0 + 200)) := by rw [hw1]; exact FS.out
  replace FK : Hid (Keeps sb w v_1) := by rw [hw1]; exact FK.out
  rw [← hw1] at hHeld ⊢
  clear hw1
  clear x0_0 x0_1 x0_2 x0_3 x0_4 x0_5 x0_6 x0_7 x0_8 x0_9 x0_10 x0_11 x1_0 x1_1 x1_2 x1_3 x1_4 x1_5
  obtain ⟨x0_0, x0_1, x0_2, x0_3, x0_4, x0_5, x0_6, x0_7, x0_8, x0_9, x0_10, x0_11⟩ := F0.out
  obtain ⟨x1_0, x1_1, x1_2, x1_3, x1_4, x1_5, y1_0, y1_1, y1_2, y1_3, y1_4, y1_5⟩ := F1.out
  refine wpAnyH_take (i := 0) (v := _) rfl (by kernel_rfl) (by kernel_rfl) (by kernel_rfl) (fun _ _ _ h => h) (Or.inl ⟨by kernel_rfl, by (intro wx hSw; (try dsimp only at hSw); go_simp <;> with_reducible rfl)⟩) (by assumption) ?_
  try simp only [Act.put, List.getElem_toArray, List.getElem_cons_succ, List.getElem_cons_zero, List.setIfInBounds_toArray, List.set_cons_zero, List.set_cons_succ]
  refine wpAnyH_take (i := 1) (v := _) rfl (by kernel_rfl) (by kernel_rfl) (by kernel_rfl) (fun _ _ _ h => h) (Or.inl ⟨by kernel_rfl, by (intro wx hSw; (try dsimp only at hSw); go_simp <;> with_reducible rfl)⟩) (by assumption) ?_
  try simp only [Act.put, List.getElem_toArray, List.getElem_cons_succ, List.getElem_cons_zero, List.setIfInBounds_toArray, List.set_cons_zero, List.set_cons_succ]
  refine wpAnyH_take (i := 2) (v := _) rfl (by kernel_rfl) (by kernel_rfl) (by kernel_rfl) (fun _ _ _ h => h) (Or.inl ⟨by kernel_rfl, by (intro wx hSw; (try dsimp only at hSw); go_simp <;> with_reducible rfl)⟩) (by assumption) ?_
  try simp only [Act.put, List.getElem_toArray, List.getElem_cons_succ, List.getElem_cons_zero, List.setIfInBounds_toArray, List.set_cons_zero, List.set_cons_succ]
  refine wpAnyH_take (i := 5) (v := _) rfl (by kernel_rfl) (by kernel_rfl) (by kernel_rfl) (fun _ _ _ h => h) (Or.inl ⟨by kernel_rfl, by (intro wx hSw; (try dsimp only at hSw); go_simp <;> with_reducible rfl)⟩) (by assumption) ?_
  try simp only [Act.put, List.getElem_toArray, List.getElem_cons_succ, List.getElem_cons_zero, List.setIfInBounds_toArray, List.set_cons_zero, List.set_cons_succ]
  refine wpAnyH_take (i := 6) (v := _) rfl (by kernel_rfl) (by kernel_rfl) (by kernel_rfl) (fun _ _ _ h => h) (Or.inl ⟨by kernel_rfl, by (intro wx hSw; (try dsimp only at hSw); go_simp <;> with_reducible rfl)⟩) (by assumption) ?_
  try simp only [Act.put, List.getElem_toArray, List.getElem_cons_succ, List.getElem_cons_zero, List.setIfInBounds_toArray, List.set_cons_zero, List.set_cons_succ]
  refine wpAnyH_take (i := 7) (v := _) rfl (by kernel_rfl) (by kernel_rfl) (by kernel_rfl) (fun _ _ _ h => h) (Or.inl ⟨by kernel_rfl, by (intro wx hSw; (try dsimp only at hSw); go_simp <;> with_reducible rfl)⟩) (by assumption) ?_
  try simp only [Act.put, List.getElem_toArray, List.getElem_cons_succ, List.getElem_cons_zero, List.setIfInBounds_toArray, List.set_cons_zero, List.set_cons_succ]
  refine wpAnyH_take (i := 8) (v := _) rfl (by kernel_rfl) (by kernel_rfl) (by kernel_rfl) (fun _ _ _ h => h) (Or.inl ⟨by kernel_rfl, by (intro wx hSw; (try dsimp only at hSw); go_simp <;> with_reducible rfl)⟩) (by assumption) ?_
  try simp only [Act.put, List.getElem_toArray, List.getElem_cons_succ, List.getElem_cons_zero, List.setIfInBounds_toArray, List.set_cons_zero, List.set_cons_succ]
  refine wpAnyH_take (i := 10) (v := _) rfl (by kernel_rfl) (by kernel_rfl) (by kernel_rfl) (fun _ _ _ h => h) (Or.inl ⟨by kernel_rfl, by (intro wx hSw; (try dsimp only at hSw); go_simp <;> with_reducible rfl)⟩) (by assumption) ?_
  try simp only [Act.put, List.getElem_toArray, List.getElem_cons_succ, List.getElem_cons_zero, List.setIfInBounds_toArray, List.set_cons_zero, List.set_cons_succ]
  refine wpAnyH_take (i := 11) (v := _) rfl (by kernel_rfl) (by kernel_rfl) (by kernel_rfl) (fun _ _ _ h => h) (Or.inl ⟨by kernel_rfl, by (intro wx hSw; (try dsimp only at hSw); go_simp <;> with_reducible rfl)⟩) (by assumption) ?_
  try simp only [Act.put, List.getElem_toArray, List.getElem_cons_succ, List.getElem_cons_zero, List.setIfInBounds_toArray, List.set_cons_zero, List.set_cons_succ]
  refine wpAnyH_take (i := 12) (v := _) rfl (by kernel_rfl) (by kernel_rfl) (by kernel_rfl) (fun _ _ _ h => h) (Or.inl ⟨by kernel_rfl, by (intro wx hSw; (try dsimp only at hSw); go_simp <;> with_reducible rfl)⟩) (by assumption) ?_
  try simp only [Act.put, List.getElem_toArray, List.getElem_cons_succ, List.getElem_cons_zero, List.setIfInBounds_toArray, List.set_cons_zero, List.set_cons_succ]
  refine wpAnyH_take (i := 14) (v := _) rfl (by kernel_rfl) (by kernel_rfl) (by kernel_rfl) (fun _ _ _ h => h) (Or.inl ⟨by kernel_rfl, by (intro wx hSw; (try dsimp only at hSw); go_simp <;> with_reducible rfl)⟩) (by assumption) ?_
  try simp only [Act.put, List.getElem_toArray, List.getElem_cons_succ, List.getElem_cons_zero, List.setIfInBounds_toArray, List.set_cons_zero, List.set_cons_succ]
  refine wpAnyH_take (i := 15) (v := _) rfl (by kernel_rfl) (by kernel_rfl) (by kernel_rfl) (fun _ _ _ h => h) (Or.inl ⟨by kernel_rfl, by (intro wx hSw; (try dsimp only at hSw); go_simp <;> with_reducible rfl)⟩) (by assumption) ?_
  try simp only [Act.put, List.getElem_toArray, List.getElem_cons_succ, List.getElem_cons_zero, List.setIfInBounds_toArray, List.set_cons_zero, List.set_cons_succ]
  refine wpAnyH_take (i := 18) (v := _) rfl (by kernel_rfl) (by kernel_rfl) (by kernel_rfl) (fun _ _ _ h => h) (Or.inl ⟨by kernel_rfl, by (intro wx hSw; (try dsimp only at hSw); go_simp <;> with_reducible rfl)⟩) (by assumption) ?_
  try simp only [Act.put, List.getElem_toArray, List.getElem_cons_succ, List.getElem_cons_zero, List.setIfInBounds_toArray, List.set_cons_zero, List.set_cons_succ]
  refine wpAnyH_take (i := 19) (v := _) rfl (by kernel_rfl) (by kernel_rfl) (by kernel_rfl) (fun _ _ _ h => h) (Or.inl ⟨by kernel_rfl, by (intro wx hSw; (try dsimp only at hSw); go_simp <;> with_reducible rfl)⟩) (by assumption) ?_
  try simp only [Act.put, List.getElem_toArray, List.getElem_cons_succ, List.getElem_cons_zero, List.setIfInBounds_toArray, List.set_cons_zero, List.set_cons_succ]
  refine wpAnyH_take (i := 20) (v := _) rfl (by kernel_rfl) (by kernel_rfl) (by kernel_rfl) (fun _ _ _ h => h) (Or.inl ⟨by kernel_rfl, by (intro wx hSw; (try dsimp only at hSw); go_simp <;> with_reducible rfl)⟩) (by assumption) ?_
  try simp only [Act.put, List.getElem_toArray, List.getElem_cons_succ, List.getElem_cons_zero, List.setIfInBounds_toArray, List.set_cons_zero, List.set_cons_succ]
  refine wpAnyH_take (i := 21) (v := _) rfl (by kernel_rfl) (by kernel_rfl) (by kernel_rfl) (fun _ _ _ h => h) (Or.inl ⟨by kernel_rfl, by (intro wx hSw; (try dsimp only at hSw); go_simp <;> with_reducible rfl)⟩) (by assumption) ?_
  try simp only [Act.put, List.getElem_toArray, List.getElem_cons_succ, List.getElem_cons_zero, List.setIfInBounds_toArray, List.set_cons_zero, List.set_cons_succ]
  refine wpAnyH_take (i := 23) (v := _) rfl (by kernel_rfl) (by kernel_rfl) (by kernel_rfl) (fun _ _ _ h => h) (Or.inl ⟨by kernel_rfl, by (intro wx hSw; (try dsimp only at hSw); go_simp <;> with_reducible rfl)⟩) (by assumption) ?_
  try simp only [Act.put, List.getElem_toArray, List.getElem_cons_succ, List.getElem_cons_zero, List.setIfInBounds_toArray, List.set_cons_zero, List.set_cons_succ]
  refine wpAnyH_take (i := 24) (v := _) rfl (by kernel_rfl) (by kernel_rfl) (by kernel_rfl) (fun _ _ _ h => h) (Or.inl ⟨by kernel_rfl, by (intro wx hSw; (try dsimp only at hSw); go_simp <;> with_reducible rfl)⟩) (by assumption) ?_
  try simp only [Act.put, List.getElem_toArray, List.getElem_cons_succ, List.getElem_cons_zero, List.setIfInBounds_toArray, List.set_cons_zero, List.set_cons_succ]
  refine wpAnyH_take (i := 25) (v := _) rfl (by kernel_rfl) (by kernel_rfl) (by kernel_rfl) (fun _ _ _ h => h) (Or.inl ⟨by kernel_rfl, by (intro wx hSw; (try dsimp only at hSw); go_simp <;> with_reducible rfl)⟩) (by assumption) ?_
  try simp only [Act.put, List.getElem_toArray, List.getElem_cons_succ, List.getElem_cons_zero, List.setIfInBounds_toArray, List.set_cons_zero, List.set_cons_succ]
  refine wpAnyH_take (i := 27) (v := _) rfl (by kernel_rfl) (by kernel_rfl) (by kernel_rfl) (fun _ _ _ h => h) (Or.inl ⟨by kernel_rfl, by (intro wx hSw; (try dsimp only at hSw); go_simp <;> with_reducible rfl)⟩) (by assumption) ?_
  try simp only [Act.put, List.getElem_toArray, List.getElem_cons_succ, List.getElem_cons_zero, List.setIfInBounds_toArray, List.set_cons_zero, List.set_cons_succ]
  refine wpAnyH_take (i := 28) (v := _) rfl (by kernel_rfl) (by kernel_rfl) (by kernel_rfl) (fun _ _ _ h => h) (Or.inl ⟨by kernel_rfl, by (intro wx hSw; (try dsimp only at hSw); go_simp <;> with_reducible rfl)⟩) (by assumption) ?_
  try simp only [Act.put, List.getElem_toArray, List.getElem_cons_succ, List.getElem_cons_zero, List.setIfInBounds_toArray, List.set_cons_zero, List.set_cons_succ]
  refine wpAnyH_take (i := 29) (v := _) rfl (by kernel_rfl) (by kernel_rfl) (by kernel_rfl) (fun _ _ _ h => h) (Or.inl ⟨by kernel_rfl, by (intro wx hSw; (try dsimp only at hSw); go_simp <;> with_reducible rfl)⟩) (by assumption) ?_
  try simp only [Act.put, List.getElem_toArray, List.getElem_cons_succ, List.getElem_cons_zero, List.setIfInBounds_toArray, List.set_cons_zero, List.set_cons_succ]
  refine wpAnyH_take (i := 30) (v := _) rfl (by kernel_rfl) (by kernel_rfl) (by kernel_rfl) (fun _ _ _ h => h) (Or.inl ⟨by kernel_rfl, by (intro wx hSw; (try dsimp only at hSw); go_simp <;> with_reducible rfl)⟩) (by assumption) ?_
  try simp only [Act.put, List.getElem_toArray, List.getElem_cons_succ, List.getElem_cons_zero, List.setIfInBounds_toArray, List.set_cons_zero, List.set_cons_succ]
  refine wpAnyH_take (i := 31) (v := _) rfl (by kernel_rfl) (by kernel_rfl) (by kernel_rfl) (fun _ _ _ h => h) (Or.inl ⟨by kernel_rfl, by (intro wx hSw; (try dsimp only at hSw); go_simp <;> with_reducible rfl)⟩) (by assumption) ?_
  try simp only [Act.put, List.getElem_toArray, List.getElem_cons_succ, List.getElem_cons_zero, List.setIfInBounds_toArray, List.set_cons_zero, List.set_cons_succ]
  refine wpAnyH_ready (rs := [3]) (by kernel_rfl) (by simp) ?_
  refine (AllReadyH.cons rfl (fun K hK => ?_) AllReadyH.nil)
  go_simp
  obtain ⟨lb0, hbb⟩ : ∃ lb0, lb0 = v_1.heap.size := ⟨_, rfl⟩
  obtain ⟨v_2, hw2⟩ : ∃ v_2, v_2 = v_1.alloc (.cells #[.int .i64 0, .int .i64 1, .int .i64 0, .int .i64 1, .int .i64 2, .int .i64 (-1)] 2) := ⟨_, rfl⟩
  have nlb0_0 := F0.out.lt
  rw [← hbb] at nlb0_0
  have nlb0_1 := F1.out.lt
  rw [← hbb] at nlb0_1
  have nlb0_2 := G0.out.lt
  rw [← hbb] at nlb0_2
  have nlb0_3 := G1.out.lt
  rw [← hbb] at nlb0_3
  have nlb0_s := FS.out.lt
  rw [← hbb] at nlb0_s
  have FL0 : Hid (LstAt v_2 lb0 [0, 1, 0, 1, 2, (-1)]) := by rw [hw2]; exact LstAt.new v_1 [0, 1, 0, 1, 2, (-1)] 2 lb0 hbb (by simp)
  replace F0 : Hid (HAt v_2 b1 h) := by rw [hw2]; exact F0.out.alloc _
  replace F1 : Hid (SW v_2 b2 s) := by rw [hw2]; exact F1.out.alloc _
  replace G0 : Hid (HW v_2 w.heap.size (⟨0, 0, 0, 0, 0, 0, 0, 0, 0, 0, 0, 0⟩ : Hs)) := by rw [hw2]; exact G0.out.alloc _
  replace G1 : Hid (R6 v_2 (w.heap.size + 1)) := by rw [hw2]; exact G1.out.alloc _
  replace FS : Hid (SrcT v_2 sb w.heap.size a len cap (0 + 200)) := by rw [hw2]; exact FS.out.alloc _
  replace FK : Hid (Keeps sb w v_2) := by rw [hw2]; exact FK.out.alloc _
  rw [← hw2, ← hbb]
  clear hbb hw2
  clear x0_0 x0_1 x0_2 x0_3 x0_4 x0_5 x0_6 x0_7 x0_8 x0_9 x0_10 x0_11 x1_0 x1_1 x1_2 x1_3 x1_4 x1_5
  obtain ⟨x0_0, x0_1, x0_2, x0_3, x0_4, x0_5, x0_6, x0_7, x0_8, x0_9, x0_10, x0_11⟩ := F0.out
  obtain ⟨x1_0, x1_1, x1_2, x1_3, x1_4, x1_5, y1_0, y1_1, y1_2, y1_3, y1_4, y1_5⟩ := F1.out
  refine hK.out _ _ (by (try dsimp only); first | exact ⟨x0_0, x0_1, x0_2, x0_3, x0_4, x0_5, x0_6, x0_7, x0_8, x0_9, x0_10, x0_11, x1_0, x1_1, x1_2, x1_3, x1_4, x1_5⟩ | go_keep) (fun hHeld => ?_)
  clear hK K
  try simp only [Act.put, List.getElem_toArray, List.getElem_cons_succ, List.getElem_cons_zero, List.setIfInBounds_toArray, List.set_cons_zero, List.set_cons_succ]
  refine wpAnyH_ready (rs := [4]) (by kernel_rfl) (by simp) ?_
  refine (AllReadyH.cons rfl (fun K hK => ?_) AllReadyH.nil)
  go_simp
  refine (l1Pick_t sb _ lb0 [0, 1, 0, 1, 2, (-1)] (fun _ => True) (fun _ _ => trivial) a len cap _ _ FS.out (by omega) FL0.out (by simp) (by omega)).mono ?_
  rintro e v_3 ⟨ld, rfl, -, hs, hk⟩
  replace F0 : Hid (HAt v_3 b1 h) := F0.out.keeps hk (by omega)
  replace F1 : Hid (SW v_3 b2 s) := F1.out.keeps hk (by omega)
  replace G0 : Hid (HW v_3 w.heap.size (⟨0, 0, 0, 0, 0, 0, 0, 0, 0, 0, 0, 0⟩ : Hs)) := G0.out.keeps hk (by omega)
  replace G1 : Hid (R6 v_3 (w.heap.size + 1)) := G1.out.keeps hk (by omega)
  replace FS : Hid (SrcT v_3 sb w.heap.size a len cap ((0 + 200) + 1)) := hs
  replace FK : Hid (Keeps sb w v_3) := FK.out.trans hk
  replace FL0 : Hid (LstAt v_3 lb0 [0, 1, 0, 1, 2, (-1)]) := FL0.out.keeps hk (by omega)
  clear hs hk
  clear x0_0 x0_1 x0_2 x0_3 x0_4 x0_5 x0_6 x0_7 x0_8 x0_9 x0_10 x0_11 x1_0 x1_1 x1_2 x1_3 x1_4 x1_5
  obtain ⟨x0_0, x0_1, x0_2, x0_3, x0_4, x0_5, x0_6, x0_7, x0_8, x0_9, x0_10, x0_11⟩ := F0.out
  obtain ⟨x1_0, x1_1, x1_2, x1_3, x1_4, x1_5, y1_0, y1_1, y1_2, y1_3, y1_4, y1_5⟩ := F1.out
  try dsimp only
  refine hK.out _ _ (by (try dsimp only); first | exact ⟨x0_0, x0_1, x0_2, x0_3, x0_4, x0_5, x0_6, x0_7, x0_8, x0_9, x0_10, x0_11, x1_0, x1_1, x1_2, x1_3, x1_4, x1_5⟩ | go_keep) (fun hHeld => ?_)
  clear hK K
  try simp only [Act.put, List.getElem_toArray, List.getElem_cons_succ, List.getElem_cons_zero, List.setIfInBounds_toArray, List.set_cons_zero, List.set_cons_succ]
  refine wpAnyH_ready (rs := [9]) (by kernel_rfl) (by simp) ?_
  refine (AllReadyH.cons rfl (fun K hK => ?_) AllReadyH.nil)
  go_simp
  refine (l1Next_t sb w.heap.size a len cap _ _ _ FS.out (by omega) (by omega) (by omega)).mono ?_
  rintro e v_4 ⟨v0, rfl, hv0, hs, hk⟩
  replace F0 : Hid (HAt v_4 b1 h) := F0.out.keeps hk (by omega)
  replace F1 : Hid (SW v_4 b2 s) := F1.out.keeps hk (by omega)
  replace G0 : Hid (HW v_4 w.heap.size (⟨0, 0, 0, 0, 0, 0, 0, 0, 0, 0, 0, 0⟩ : Hs)) := G0.out.keeps hk (by omega)
  replace G1 : Hid (R6 v_4 (w.heap.size + 1)) := G1.out.keeps hk (by omega)
  replace FS : Hid (SrcT v_4 sb w.heap.size a len cap (((0 + 200) + 1) + 1)) := hs
  replace FK : Hid (Keeps sb w v_4) := FK.out.trans hk
  replace FL0 : Hid (LstAt v_4 lb0 [0, 1, 0, 1, 2, (-1)]) := FL0.out.keeps hk (by omega)
  clear hs hk
  clear x0_0 x0_1 x0_2 x0_3 x0_4 x0_5 x0_6 x0_7 x0_8 x0_9 x0_10 x0_11 x1_0 x1_1 x1_2 x1_3 x1_4 x1_5
  obtain ⟨x0_0, x0_1, x0_2, x0_3, x0_4, x0_5, x0_6, x0_7, x0_8, x0_9, x0_10, x0_11⟩ := F0.out
  obtain ⟨x1_0, x1_1, x1_2, x1_3, x1_4, x1_5, y1_0, y1_1, y1_2, y1_3, y1_4, y1_5⟩ := F1.out
  try dsimp only
  refine hK.out _ _ (by (try dsimp only); first | exact ⟨x0_0, x0_1, x0_2, x0_3, x0_4, x0_5, x0_6, x0_7, x0_8, x0_9, x0_10, x0_11, x1_0, x1_1, x1_2, x1_3, x1_4, x1_5⟩ | go_keep) (fun hHeld => ?_)
  clear hK K
  try simp only [Act.put, List.getElem_toArray, List.getElem_cons_succ, List.getElem_cons_zero, List.setIfInBounds_toArray, List.set_cons_zero, List.set_cons_succ]
  refine wpAnyH_ready (rs := [13]) (by kernel_rfl) (by simp) ?_
  refine (AllReadyH.cons rfl (fun K hK => ?_) AllReadyH.nil)
  go_simp
  refine (l1Next_t sb w.heap.size a len cap _ _ _ FS.out (by omega) (by omega) (by omega)).mono ?_
  rintro e v_5 ⟨v1, rfl, hv1, hs, hk⟩
  replace F0 : Hid (HAt v_5 b1 h) := F0.out.keeps hk (by omega)
  replace F1 : Hid (SW v_5 b2 s) := F1.out.keeps hk (by omega)
  replace G0 : Hid (HW v_5 w.heap.size (⟨0, 0, 0, 0, 0, 0, 0, 0, 0, 0, 0, 0⟩ : Hs)) := G0.out.keeps hk (by omega)
  replace G1 : Hid (R6 v_5 (w.heap.size + 1)) := G1.out.keeps hk (by omega)
  replace FS : Hid (SrcT v_5 sb w.heap.size a len cap ((((0 + 200) + 1) + 1) + 1)) := hs
  replace FK : Hid (Keeps sb w v_5) := FK.out.trans hk
  replace FL0 : Hid (LstAt v_5 lb0 [0, 1, 0, 1, 2, (-1)]) := FL0.out.keeps hk (by omega)
  clear hs hk
  clear x0_0 x0_1 x0_2 x0_3 x0_4 x0_5 x0_6 x0_7 x0_8 x0_9 x0_10 x0_11 x1_0 x1_1 x1_2 x1_3 x1_4 x1_5
  obtain ⟨x0_0, x0_1, x0_2, x0_3, x0_4, x0_5, x0_6, x0_7, x0_8, x0_9, x0_10, x0_11⟩ := F0.out
  obtain ⟨x1_0, x1_1, x1_2, x1_3, x1_4, x1_5, y1_0, y1_1, y1_2, y1_3, y1_4, y1_5⟩ := F1.out
  try dsimp only
  refine hK.out _ _ (by (try dsimp only); first | exact ⟨x0_0, x0_1, x0_2, x0_3, x0_4, x0_5, x0_6, x0_7, x0_8, x0_9, x0_10, x0_11, x1_0, x1_1, x1_2, x1_3, x1_4, x1_5⟩ | go_keep) (fun hHeld => ?_)
  clear hK K
  try simp only [Act.put, List.getElem_toArray, List.getElem_cons_succ, List.getElem_cons_zero, List.setIfInBounds_toArray, List.set_cons_zero, List.set_cons_succ]
  refine wpAnyH_ready (rs := [16]) (by kernel_rfl) (by simp) ?_
  refine (AllReadyH.cons rfl (fun K hK => ?_) AllReadyH.nil)
  go_simp
  obtain ⟨lb1, hbb⟩ : ∃ lb1, lb1 = v_5.heap.size := ⟨_, rfl⟩
  obtain ⟨v_6, hw2⟩ : ∃ v_6, v_6 = v_5.alloc (.cells #[.int .i64 (v0 : Int), .int .i64 (v1 : Int), .int .i64 (-1), .int .i64 h.fl] 2) := ⟨_, rfl⟩
  have nlb1_0 := F0.out.lt
  rw [← hbb] at nlb1_0
  have nlb1_1 := F1.out.lt
  rw [← hbb] at nlb1_1
  have nlb1_2 := G0.out.lt
  rw [← hbb] at nlb1_2
  have nlb1_3 := G1.out.lt
  rw [← hbb] at nlb1_3
  have nlb1_s := FS.out.lt
  rw [← hbb] at nlb1_s
  have nlb1_6 := FL0.out.lt
  rw [← hbb] at nlb1_6
  have FL1 : Hid (LstAt v_6 lb1 [(v0 : Int), (v1 : Int), (-1), h.fl]) := by rw [hw2]; exact LstAt.new v_5 [(v0 : Int), (v1 : Int), (-1), h.fl] 2 lb1 hbb (by simp)
  replace F0 : Hid (HAt v_6 b1 h) := by rw [hw2]; exact F0.out.alloc _
  replace F1 : Hid (SW v_6 b2 s) := by rw [hw2]; exact F1.out.alloc _
  replace G0 : Hid (HW v_6 w.heap.size (⟨0, 0, 0, 0, 0, 0, 0, 0, 0, 0, 0, 0⟩ : Hs)) := by rw [hw2]; exact G0.out.alloc _
  replace G1 : Hid (R6 v_6 (w.heap.size + 1)) := by rw [hw2]; exact G1.out.alloc _
  replace FS : Hid (SrcT v_6 sb w.heap.size a len cap ((((0 + 200) + 1) + 1) + 1)) := by rw [hw2]; exact FS.out.alloc _
  replace FK : Hid (Keeps sb w v_6) := by rw [hw2]; exact FK.out.alloc _
  replace FL0 : Hid (LstAt v_6 lb0 [0, 1, 0, 1, 2, (-1)]) := by rw [hw2]; exact FL0.out.alloc _
  rw [← hw2, ← hbb]
  clear hbb hw2
  clear x0_0 x0_1 x0_2 x0_3 x0_4 x0_5 x0_6 x0_7 x0_8 x0_9 x0_10 x0_11 x1_0 x1_1 x1_2 x1_3 x1_4 x1_5
  obtain ⟨x0_0, x0_1, x0_2, x0_3, x0_4, x0_5, x0_6, x0_7, x0_8, x0_9, x0_10, x0_11⟩ := F0.out
  obtain ⟨x1_0, x1_1, x1_2, x1_3, x1_4, x1_5, y1_0, y1_1, y1_2, y1_3, y1_4, y1_5⟩ := F1.out
  refine hK.out _ _ (by (try dsimp only); first | exact ⟨x0_0, x0_1, x0_2, x0_3, x0_4, x0_5, x0_6, x0_7, x0_8, x0_9, x0_10, x0_11, x1_0, x1_1, x1_2, x1_3, x1_4, x1_5⟩ | go_keep) (fun hHeld => ?_)
  clear hK K
  try simp only [Act.put, List.getElem_toArray, List.getElem_cons_succ, List.getElem_cons_zero, List.setIfInBounds_toArray, List.set_cons_zero, List.set_cons_succ]
  refine wpAnyH_ready (rs := [17]) (by kernel_rfl) (by simp) ?_
  refine (AllReadyH.cons rfl (fun K hK => ?_) AllReadyH.nil)
  go_simp
  refine (l1Pick_t sb _ lb1 [(v0 : Int), (v1 : Int), (-1), h.fl] (fun _ => True) (fun _ _ => trivial) a len cap _ _ FS.out (by omega) FL1.out (by simp) (by omega)).mono ?_
  rintro e v_7 ⟨gl, rfl, -, hs, hk⟩
  replace F0 : Hid (HAt v_7 b1 h) := F0.out.keeps hk (by omega)
  replace F1 : Hid (SW v_7 b2 s) := F1.out.keeps hk (by omega)
  replace G0 : Hid (HW v_7 w.heap.size (⟨0, 0, 0, 0, 0, 0, 0, 0, 0, 0, 0, 0⟩ : Hs)) := G0.out.keeps hk (by omega)
  replace G1 : Hid (R6 v_7 (w.heap.size + 1)) := G1.out.keeps hk (by omega)
  replace FS : Hid (SrcT v_7 sb w.heap.size a len cap (((((0 + 200) + 1) + 1) + 1) + 1)) := hs
  replace FK : Hid (Keeps sb w v_7) := FK.out.trans hk
  replace FL0 : Hid (LstAt v_7 lb0 [0, 1, 0, 1, 2, (-1)]) := FL0.out.keeps hk (by omega)
  replace FL1 : Hid (LstAt v_7 lb1 [(v0 : Int), (v1 : Int), (-1), h.fl]) := FL1.out.keeps hk (by omega)
  clear hs hk
  clear x0_0 x0_1 x0_2 x0_3 x0_4 x0_5 x0_6 x0_7 x0_8 x0_9 x0_10 x0_11 x1_0 x1_1 x1_2 x1_3 x1_4 x1_5
  obtain ⟨x0_0, x0_1, x0_2, x0_3, x0_4, x0_5, x0_6, x0_7, x0_8, x0_9, x0_10, x0_11⟩ := F0.out
  obtain ⟨x1_0, x1_1, x1_2, x1_3, x1_4, x1_5, y1_0, y1_1, y1_2, y1_3, y1_4, y1_5⟩ := F1.out
  try dsimp only
  refine hK.out _ _ (by (try dsimp only); first | exact ⟨x0_0, x0_1, x0_2, x0_3, x0_4, x0_5, x0_6, x0_7, x0_8, x0_9, x0_10, x0_11, x1_0, x1_1, x1_2, x1_3, x1_4, x1_5⟩ | go_keep) (fun hHeld => ?_)
  clear hK K
  try simp only [Act.put, List.getElem_toArray, List.getElem_cons_succ, List.getElem_cons_zero, List.setIfInBounds_toArray, List.set_cons_zero, List.set_cons_succ]
  refine wpAnyH_ready (rs := [22]) (by kernel_rfl) (by simp) ?_
  refine (AllReadyH.cons rfl (fun K hK => ?_) AllReadyH.nil)
  go_simp
  refine (l1Next_t sb w.heap.size a len cap _ _ _ FS.out (by omega) (by omega) (by omega)).mono ?_
  rintro e v_8 ⟨v2, rfl, hv2, hs, hk⟩
  replace F0 : Hid (HAt v_8 b1 h) := F0.out.keeps hk (by omega)
  replace F1 : Hid (SW v_8 b2 s) := F1.out.keeps hk (by omega)
  replace G0 : Hid (HW v_8 w.heap.size (⟨0, 0, 0, 0, 0, 0, 0, 0, 0, 0, 0, 0⟩ : Hs)) := G0.out.keeps hk (by omega)
  replace G1 : Hid (R6 v_8 (w.heap.size + 1)) := G1.out.keeps hk (by omega)
  replace FS : Hid (SrcT v_8 sb w.heap.size a len cap ((((((0 + 200) + 1) + 1) + 1) + 1) + 1)) := hs
  replace FK : Hid (Keeps sb w v_8) := FK.out.trans hk
  replace FL0 : Hid (LstAt v_8 lb0 [0, 1, 0, 1, 2, (-1)]) := FL0.out.keeps hk (by omega)
  replace FL1 : Hid (LstAt v_8 lb1 [(v0 : Int), (v1 : Int), (-1), h.fl]) := FL1.out.keeps hk (by omega)
  clear hs hk
  clear x0_0 x0_1 x0_2 x0_3 x0_4 x0_5 x0_6 x0_7 x0_8 x0_9 x0_10 x0_11 x1_0 x1_1 x1_2 x1_3 x1_4 x1_5
  obtain ⟨x0_0, x0_1, x0_2, x0_3, x0_4, x0_5, x0_6, x0_7, x0_8, x0_9, x0_10, x0_11⟩ := F0.out
  obtain ⟨x1_0, x1_1, x1_2, x1_3, x1_4, x1_5, y1_0, y1_1, y1_2, y1_3, y1_4, y1_5⟩ := F1.out
  try dsimp only
  refine hK.out _ _ (by (try dsimp only); first | exact ⟨x0_0, x0_1, x0_2, x0_3, x0_4, x0_5, x0_6, x0_7, x0_8, x0_9, x0_10, x0_11, x1_0, x1_1, x1_2, x1_3, x1_4, x1_5⟩ | go_keep) (fun hHeld => ?_)
  clear hK K
  try simp only [Act.put, List.getElem_toArray, List.getElem_cons_succ, List.getElem_cons_zero, List.setIfInBounds_toArray, List.set_cons_zero, List.set_cons_succ]
  refine wpAnyH_ready (rs := [26]) (by kernel_rfl) (by simp) ?_
  refine (AllReadyH.cons rfl (fun K hK => ?_) AllReadyH.nil)
  go_simp
  refine (l1Next_t sb w.heap.size a len cap _ _ _ FS.out (by omega) (by omega) (by omega)).mono ?_
  rintro e v_9 ⟨v3, rfl, hv3, hs, hk⟩
  replace F0 : Hid (HAt v_9 b1 h) := F0.out.keeps hk (by omega)
  replace F1 : Hid (SW v_9 b2 s) := F1.out.keeps hk (by omega)
  replace G0 : Hid (HW v_9 w.heap.size (⟨0, 0, 0, 0, 0, 0, 0, 0, 0, 0, 0, 0⟩ : Hs)) := G0.out.keeps hk (by omega)
  replace G1 : Hid (R6 v_9 (w.heap.size + 1)) := G1.out.keeps hk (by omega)
  replace FS : Hid (SrcT v_9 sb w.heap.size a len cap (((((((0 + 200) + 1) + 1) + 1) + 1) + 1) + 1)) := hs
  replace FK : Hid (Keeps sb w v_9) := FK.out.trans hk
  replace FL0 : Hid (LstAt v_9 lb0 [0, 1, 0, 1, 2, (-1)]) := FL0.out.keeps hk (by omega)
  replace FL1 : Hid (LstAt v_9 lb1 [(v0 : Int), (v1 : Int), (-1), h.fl]) := FL1.out.keeps hk (by omega)
  clear hs hk
  clear x0_0 x0_1 x0_2 x0_3 x0_4 x0_5 x0_6 x0_7 x0_8 x0_9 x0_10 x0_11 x1_0 x1_1 x1_2 x1_3 x1_4 x1_5
  obtain ⟨x0_0, x0_1, x0_2, x0_3, x0_4, x0_5, x0_6, x0_7, x0_8, x0_9, x0_10, x0_11⟩ := F0.out
  obtain ⟨x1_0, x1_1, x1_2, x1_3, x1_4, x1_5, y1_0, y1_1, y1_2, y1_3, y1_4, y1_5⟩ := F1.out
  try dsimp only
  refine hK.out _ _ (by (try dsimp only); first | exact ⟨x0_0, x0_1, x0_2, x0_3, x0_4, x0_5, x0_6, x0_7, x0_8, x0_9, x0_10, x0_11, x1_0, x1_1, x1_2, x1_3, x1_4, x1_5⟩ | go_keep) (fun hHeld => ?_)
  clear hK K
  try simp only [Act.put, List.getElem_toArray, List.getElem_cons_succ, List.getElem_cons_zero, List.setIfInBounds_toArray, List.set_cons_zero, List.set_cons_succ]
  refine wpAnyH_ready (rs := [32]) (by kernel_rfl) (by simp) ?_
  refine (AllReadyH.cons rfl (fun K hK => ?_) AllReadyH.nil)
  go_simp
  obtain ⟨lb2, hbb⟩ : ∃ lb2, lb2 = v_9.heap.size := ⟨_, rfl⟩
  obtain ⟨v_10, hw2⟩ : ∃ v_10, v_10 = v_9.alloc (.cells #[.int .i64 (-2), .int .i64 (v2 : Int), .int .i64 (v3 : Int), .int .i64 (-1), .int .i64 h.fl, .int .i64 (h.fl + 1)] 2) := ⟨_, rfl⟩
  have nlb2_0 := F0.out.lt
  rw [← hbb] at nlb2_0
  have nlb2_1 := F1.out.lt
  rw [← hbb] at nlb2_1
  have nlb2_2 := G0.out.lt
  rw [← hbb] at nlb2_2
  have nlb2_3 := G1.out.lt
  rw [← hbb] at nlb2_3
  have nlb2_s := FS.out.lt
  rw [← hbb] at nlb2_s
  have nlb2_6 := FL0.out.lt
  rw [← hbb] at nlb2_6
  have nlb2_7 := FL1.out.lt
  rw [← hbb] at nlb2_7
  have FL2 : Hid (LstAt v_10 lb2 [(-2), (v2 : Int), (v3 : Int), (-1), h.fl, (h.fl + 1)]) := by rw [hw2]; exact LstAt.new v_9 [(-2), (v2 : Int), (v3 : Int), (-1), h.fl, (h.fl + 1)] 2 lb2 hbb (by simp)
  replace F0 : Hid (HAt v_10 b1 h) := by rw [hw2]; exact F0.out.alloc _
  replace F1 : Hid (SW v_10 b2 s) := by rw [hw2]; exact F1.out.alloc _
  replace G0 : Hid (HW v_10 w.heap.size (⟨0, 0, 0, 0, 0, 0, 0, 0, 0, 0, 0, 0⟩ : Hs)) := by rw [hw2]; exact G0.out.alloc _
  replace G1 : Hid (R6 v_10 (w.heap.size + 1)) := by rw [hw2]; exact G1.out.alloc _
  replace FS : Hid (SrcT v_10 sb w.heap.size a len cap (((((((0 + 200) + 1) + 1) + 1) + 1) + 1) + 1)) := by rw [hw2]; exact FS.out.alloc _
  replace FK : Hid (Keeps sb w v_10) := by rw [hw2]; exact FK.out.alloc _
  replace FL0 : Hid (LstAt v_10 lb0 [0, 1, 0, 1, 2, (-1)]) := by rw [hw2]; exact FL0.out.alloc _
  replace FL1 : Hid (LstAt v_10 lb1 [(v0 : Int), (v1 : Int), (-1), h.fl]) := by rw [hw2]; exact FL1.out.alloc _
  rw [← hw2, ← hbb]
  clear hbb hw2
  clear x0_0 x0_1 x0_2 x0_3 x0_4 x0_5 x0_6 x0_7 x0_8 x0_9 x0_10 x0_11 x1_0 x1_1 x1_2 x1_3 x1_4 x1_5
  obtain ⟨x0_0, x0_1, x0_2, x0_3, x0_4, x0_5, x0_6, x0_7, x0_8, x0_9, x0_10, x0_11⟩ := F0.out
  obtain ⟨x1_0, x1_1, x1_2, x1_3, x1_4, x1_5, y1_0, y1_1, y1_2, y1_3, y1_4, y1_5⟩ := F1.out
  refine hK.out _ _ (by (try dsimp only); first | exact ⟨x0_0, x0_1, x0_2, x0_3, x0_4, x0_5, x0_6, x0_7, x0_8, x0_9, x0_10, x0_11, x1_0, x1_1, x1_2, x1_3, x1_4, x1_5⟩ | go_keep) (fun hHeld => ?_)
  clear hK K
  try simp only [Act.put, List.getElem_toArray, List.getElem_cons_succ, List.getElem_cons_zero, List.setIfInBounds_toArray, List.set_cons_zero, List.set_cons_succ]
  refine wpAnyH_ready (rs := [33]) (by kernel_rfl) (by simp) ?_
  refine (AllReadyH.cons rfl (fun K hK => ?_) AllReadyH.nil)
  go_simp
  refine (l1Pick_t sb _ lb2 [(-2), (v2 : Int), (v3 : Int), (-1), h.fl, (h.fl + 1)] (fun _ => True) (fun _ _ => trivial) a len cap _ _ FS.out (by omega) FL2.out (by simp) (by omega)).mono ?_
  rintro e v_11 ⟨ot, rfl, -, hs, hk⟩
  replace F0 : Hid (HAt v_11 b1 h) := F0.out.keeps hk (by omega)
  replace F1 : Hid (SW v_11 b2 s) := F1.out.keeps hk (by omega)
  replace G0 : Hid (HW v_11 w.heap.size (⟨0, 0, 0, 0, 0, 0, 0, 0, 0, 0, 0, 0⟩ : Hs)) := G0.out.keeps hk (by omega)
  replace G1 : Hid (R6 v_11 (w.heap.size + 1)) := G1.out.keeps hk (by omega)
  replace FS : Hid (SrcT v_11 sb w.heap.size a len cap ((((((((0 + 200) + 1) + 1) + 1) + 1) + 1) + 1) + 1)) := hs
  replace FK : Hid (Keeps sb w v_11) := FK.out.trans hk
  replace FL0 : Hid (LstAt v_11 lb0 [0, 1, 0, 1, 2, (-1)]) := FL0.out.keeps hk (by omega)
  replace FL1 : Hid (LstAt v_11 lb1 [(v0 : Int), (v1 : Int), (-1), h.fl]) := FL1.out.keeps hk (by omega)
  replace FL2 : Hid (LstAt v_11 lb2 [(-2), (v2 : Int), (v3 : Int), (-1), h.fl, (h.fl + 1)]) := FL2.out.keeps hk (by omega)
  clear hs hk
  clear x0_0 x0_1 x0_2 x0_3 x0_4 x0_5 x0_6 x0_7 x0_8 x0_9 x0_10 x0_11 x1_0 x1_1 x1_2 x1_3 x1_4 x1_5
  obtain ⟨x0_0, x0_1, x0_2, x0_3, x0_4, x0_5, x0_6, x0_7, x0_8, x0_9, x0_10, x0_11⟩ := F0.out
  obtain ⟨x1_0, x1_1, x1_2, x1_3, x1_4, x1_5, y1_0, y1_1, y1_2, y1_3, y1_4, y1_5⟩ := F1.out
  try dsimp only
  refine hK.out _ _ (by (try dsimp only); first | exact ⟨x0_0, x0_1, x0_2, x0_3, x0_4, x0_5, x0_6, x0_7, x0_8, x0_9, x0_10, x0_11, x1_0, x1_1, x1_2, x1_3, x1_4, x1_5⟩ | go_keep) (fun hHeld => ?_)
  clear hK K
  try simp only [Act.put, List.getElem_toArray, List.getElem_cons_succ, List.getElem_cons_zero, List.setIfInBounds_toArray, List.set_cons_zero, List.set_cons_succ]
  refine wpAnyH_ready (rs := [34]) (by kernel_rfl) (by simp) ?_
  refine (AllReadyH.cons rfl (fun K hK => ?_) AllReadyH.nil)
  obtain ⟨d0, d1, d2, d3, d4, d5, d6, d7, d8, d9, d10, d11, e0, e1, e2, e3, e4, e5, e6, e7, e8, e9, e10, e11⟩ := G0.out
  try dsimp only at d0 d1 d2 d3 d4 d5 d6 d7 d8 d9 d10 d11
  go_simp
  obtain ⟨v_12, hw2⟩ : ∃ v_12, v_12 = putH v_11 w.heap.size h := ⟨_, rfl⟩
  change K _ (putH v_11 w.heap.size h)
  rw [← hw2]
  clear d0 d1 d2 d3 d4 d5 d6 d7 d8 d9 d10 d11 e0 e1 e2 e3 e4 e5 e6 e7 e8 e9 e10 e11
  replace F0 : Hid (HAt v_12 b1 h) := by rw [hw2]; exact F0.out.putH_o (by omega) h
  replace F1 : Hid (SW v_12 b2 s) := by rw [hw2]; exact F1.out.putH_o (by omega) h
  replace G0 : Hid (HW v_12 w.heap.size h) := by rw [hw2]; exact G0.out.put h
  replace G1 : Hid (R6 v_12 (w.heap.size + 1)) := by rw [hw2]; exact G1.out.putH_o (by omega) h
  replace FK : Hid (Keeps sb w v_12) := by rw [hw2]; exact FK.out.putH_o (Nat.le_refl _) h
  clear hw2
  clear x0_0 x0_1 x0_2 x0_3 x0_4 x0_5 x0_6 x0_7 x0_8 x0_9 x0_10 x0_11 x1_0 x1_1 x1_2 x1_3 x1_4 x1_5
  obtain ⟨x0_0, x0_1, x0_2, x0_3, x0_4, x0_5, x0_6, x0_7, x0_8, x0_9, x0_10, x0_11⟩ := F0.out
  obtain ⟨x1_0, x1_1, x1_2, x1_3, x1_4, x1_5, y1_0, y1_1, y1_2, y1_3, y1_4, y1_5⟩ := F1.out
  refine hK.out _ _ (by (try dsimp only); first | exact ⟨x0_0, x0_1, x0_2, x0_3, x0_4, x0_5, x0_6, x0_7, x0_8, x0_9, x0_10, x0_11, x1_0, x1_1, x1_2, x1_3, x1_4, x1_5⟩ | go_keep) (fun hHeld => ?_)
  clear hK K
  try simp only [Act.put, List.getElem_toArray, List.getElem_cons_succ, List.getElem_cons_zero, List.setIfInBounds_toArray, List.set_cons_zero, List.set_cons_succ]
  refine wpAnyH_ready (rs := [35]) (by kernel_rfl) (by simp) ?_
  refine (AllReadyH.cons rfl (fun K hK => ?_) AllReadyH.nil)
  obtain ⟨r0, r1, r2, r3, r4, r5, s0, s1, s2, s3, s4, s5⟩ := G1.out
  go_simp
  obtain ⟨v_13, hw2⟩ : ∃ v_13, v_13 = put6 v_12 (w.heap.size + 1) s := ⟨_, rfl⟩
  change K _ (put6 v_12 (w.heap.size + 1) s)
  rw [← hw2]
  clear r0 r1 r2 r3 r4 r5 s0 s1 s2 s3 s4 s5
  replace F0 : Hid (HAt v_13 b1 h) := by rw [hw2]; exact F0.out.put6_o (by omega) s
  replace F1 : Hid (SW v_13 b2 s) := by rw [hw2]; exact F1.out.put6_o (by omega) s
  replace G0 : Hid (HW v_13 w.heap.size h) := by rw [hw2]; exact G0.out.put6_o (by omega) s
  replace G1 : Hid (SW v_13 (w.heap.size + 1) s) := by rw [hw2]; exact G1.out.put s
  replace FK : Hid (Keeps sb w v_13) := by rw [hw2]; exact FK.out.put6_o (by omega) s
  clear hw2
  clear x0_0 x0_1 x0_2 x0_3 x0_4 x0_5 x0_6 x0_7 x0_8 x0_9 x0_10 x0_11 x1_0 x1_1 x1_2 x1_3 x1_4 x1_5
  obtain ⟨x0_0, x0_1, x0_2, x0_3, x0_4, x0_5, x0_6, x0_7, x0_8, x0_9, x0_10, x0_11⟩ := F0.out
  obtain ⟨x1_0, x1_1, x1_2, x1_3, x1_4, x1_5, y1_0, y1_1, y1_2, y1_3, y1_4, y1_5⟩ := F1.out
  refine hK.out _ _ (by (try dsimp only); first | exact ⟨x0_0, x0_1, x0_2, x0_3, x0_4, x0_5, x0_6, x0_7, x0_8, x0_9, x0_10, x0_11, x1_0, x1_1, x1_2, x1_3, x1_4, x1_5⟩ | go_keep) (fun hHeld => ?_)
  clear hK K
  try simp only [Act.put, List.getElem_toArray, List.getElem_cons_succ, List.getElem_cons_zero, List.setIfInBounds_toArray, List.set_cons_zero, List.set_cons_succ]
  refine wpAnyH_take (i := 36) (v := _) rfl (by kernel_rfl) (by kernel_rfl) (by kernel_rfl) (fun _ _ _ h => h) (Or.inl ⟨by kernel_rfl, by (intro wx hSw; (try dsimp only at hSw); go_simp <;> with_reducible rfl)⟩) (by assumption) ?_
  try simp only [Act.put, List.getElem_toArray, List.getElem_cons_succ, List.getElem_cons_zero, List.setIfInBounds_toArray, List.set_cons_zero, List.set_cons_succ]
  refine wpAnyH_take (i := 37) (v := _) rfl (by kernel_rfl) (by kernel_rfl) (by kernel_rfl) (fun _ _ _ h => h) (Or.inl ⟨by kernel_rfl, by (intro wx hSw; (try dsimp only at hSw); go_simp <;> with_reducible rfl)⟩) (by assumption) ?_
  try simp only [Act.put, List.getElem_toArray, List.getElem_cons_succ, List.getElem_cons_zero, List.setIfInBounds_toArray, List.set_cons_zero, List.set_cons_succ]
  refine wpAnyH_take (i := 38) (v := _) rfl (by kernel_rfl) (by kernel_rfl) (by kernel_rfl) (fun _ _ _ h => h) (Or.inl ⟨by kernel_rfl, by (intro wx hSw; (try dsimp only at hSw); go_simp <;> with_reducible rfl)⟩) (by assumption) ?_
  try simp only [Act.put, List.getElem_toArray, List.getElem_cons_succ, List.getElem_cons_zero, List.setIfInBounds_toArray, List.set_cons_zero, List.set_cons_succ]
  refine wpAnyH_done (by kernel_rfl) ?_ _
  obtain ⟨d0, d1, d2, d3, d4, d5, d6, d7, d8, d9, d10, d11, e0, e1, e2, e3, e4, e5, e6, e7, e8, e9, e10, e11⟩ := G0.out
  obtain ⟨k0, k1, k2, k3, k4, k5, -, -, -, -, -, -⟩ := G1.out
  go_wp2_with fail
  exact bodyPost_ret (v := .tuple #[.agg #[.int .i64 h.fl, .int .i64 h.gp, .int .i64 h.ln, .int .i64 h.rf, .int .i64 h.sp, .int .i64 h.pu, .int .i64 h.br, .int .i64 h.dr, .int .i64 h.lv, .int .i64 h.dO, .int .i64 h.ld, .int .i64 h.qu], .agg #[.int .i64 s.lo.pos, .int .i64 s.lo.vel, .int .i64 s.lo.door, .int .i64 s.up.pos, .int .i64 s.up.vel, .int .i64 s.up.door], .int .i64 ld, .int .i64 gl, .int .i64 ot]) (by simp [results, Try.results15, go_sem, d0, d1, d2, d3, d4, d5, d6, d7, d8, d9, d10, d11, k0, k1, k2, k3, k4, k5]) rfl ⟨h, s, ld, gl, ot, rfl, FK.out.below (by omega) (Nat.le_refl _)⟩
end Go.Proofs.Ytfombjiocneadaa
