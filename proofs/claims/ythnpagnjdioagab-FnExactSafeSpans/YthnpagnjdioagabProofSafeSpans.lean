/-
  SafeSpans of the program answers as the model's, at every argument, and changes nothing.
-/
import Derived.Test.YthnpagnjdioagabRows
import Derived.WalkKit
import Derived.ProofKit
import Derived.OpenShut
import Derived.ChangeOld
import Derived.Below
import Derived.Test.YthnpagnjdioagabSpanH
import Derived.Test.YthnpagnjdioagabSpanA
import Derived.Test.YthnpagnjdioagabSpanT
import Derived.Test.YthnpagnjdioagabCarT
import Derived.Test.YthnpagnjdioagabOpenI
import Derived.Test.YthnpagnjdioagabOpenC
namespace Go.Proofs.Ythnpagnjdioagab.fnExactSafeSpans
open Go.ChangeShapes Go.WideShapes Go.ChangeAt Go.RowKit
set_option linter.unusedVariables false
set_option linter.unusedSimpArgs false

theorem own : ownKnob Try.prog.godebug = none := by kernel_rfl
theorem laidOut : laidOutB Try.prog = true := by kernel_rfl

set_option maxHeartbeats 32000000 in
theorem walk (a0 : Pl.Hs) (a1 : Pl.Ss) (a2 : Int) (a3 : Int) (w0 : ∀ x ∈ [a0.fl, a0.gp, a0.ln, a0.rf, a0.sp, a0.pu, a0.br, a0.dr, a0.lv, a0.dO, a0.ld, a0.qu], (Lit.int .i64 x).wf = true) (w1 : ∀ x ∈ [a1.l.lo, a1.l.hi, a1.u.lo, a1.u.hi], (Lit.int .i64 x).wf = true) (w2 : (Lit.int .i64 a2).wf = true) (w3 : (Lit.int .i64 a3).wf = true) (w : World) :
    Calls Try.prog 4 #[.agg #[.int .i64 a0.fl, .int .i64 a0.gp, .int .i64 a0.ln, .int .i64 a0.rf, .int .i64 a0.sp, .int .i64 a0.pu, .int .i64 a0.br, .int .i64 a0.dr, .int .i64 a0.lv, .int .i64 a0.dO, .int .i64 a0.ld, .int .i64 a0.qu], .agg #[.int .i64 a1.l.lo, .int .i64 a1.l.hi, .int .i64 a1.u.lo, .int .i64 a1.u.hi], .int .i64 a2, .int .i64 a3] w fun e w' => e = .returned (.bool true) ∧ Below w.heap.size w w' := by
  have F0 : Hid (HAt ((w.alloc (.cells #[.int .i64 a0.fl, .int .i64 a0.gp, .int .i64 a0.ln, .int .i64 a0.rf, .int .i64 a0.sp, .int .i64 a0.pu, .int .i64 a0.br, .int .i64 a0.dr, .int .i64 a0.lv, .int .i64 a0.dO, .int .i64 a0.ld, .int .i64 a0.qu] 23)).alloc (.cells #[.int .i64 a1.l.lo, .int .i64 a1.l.hi, .int .i64 a1.u.lo, .int .i64 a1.u.hi] 27)).drew w.heap.size a0) := ((HAt.at_ w a0 _ _ (by simp)).alloc _).drew
  have F1 : Hid (NW ((w.alloc (.cells #[.int .i64 a0.fl, .int .i64 a0.gp, .int .i64 a0.ln, .int .i64 a0.rf, .int .i64 a0.sp, .int .i64 a0.pu, .int .i64 a0.br, .int .i64 a0.dr, .int .i64 a0.lv, .int .i64 a0.dO, .int .i64 a0.ld, .int .i64 a0.qu] 23)).alloc (.cells #[.int .i64 a1.l.lo, .int .i64 a1.l.hi, .int .i64 a1.u.lo, .int .i64 a1.u.hi] 27)).drew (w.heap.size + 1) a1) := (NW.at_ (w.alloc (.cells #[.int .i64 a0.fl, .int .i64 a0.gp, .int .i64 a0.ln, .int .i64 a0.rf, .int .i64 a0.sp, .int .i64 a0.pu, .int .i64 a0.br, .int .i64 a0.dr, .int .i64 a0.lv, .int .i64 a0.dO, .int .i64 a0.ld, .int .i64 a0.qu] 23)) a1 _ _ (by simp)).drew
  have FB : Hid (Below w.heap.size w ((w.alloc (.cells #[.int .i64 a0.fl, .int .i64 a0.gp, .int .i64 a0.ln, .int .i64 a0.rf, .int .i64 a0.sp, .int .i64 a0.pu, .int .i64 a0.br, .int .i64 a0.dr, .int .i64 a0.lv, .int .i64 a0.dO, .int .i64 a0.ld, .int .i64 a0.qu] 23)).alloc (.cells #[.int .i64 a1.l.lo, .int .i64 a1.l.hi, .int .i64 a1.u.lo, .int .i64 a1.u.hi] 27)).drew) := (((Below.refl _ _).alloc (Nat.le_refl _) _).alloc (by simp <;> omega) _).drew
  obtain ⟨x0_0, x0_1, x0_2, x0_3, x0_4, x0_5, x0_6, x0_7, x0_8, x0_9, x0_10, x0_11⟩ := F0.out
  obtain ⟨x1_0, x1_1, x1_2, x1_3, y1_0, y1_1, y1_2, y1_3⟩ := F1.out
  go_enter Try.func4, Try.ntmps4
  go_wp2_with fail
  refine wp_region_held_drew (S := (fun w'' => w''.cell? ⟨w.heap.size, 0, none⟩ = some (.int .i64 a0.fl) ∧ w''.cell? ⟨w.heap.size, 1, none⟩ = some (.int .i64 a0.gp) ∧ w''.cell? ⟨w.heap.size, 2, none⟩ = some (.int .i64 a0.ln) ∧ w''.cell? ⟨w.heap.size, 3, none⟩ = some (.int .i64 a0.rf) ∧ w''.cell? ⟨w.heap.size, 4, none⟩ = some (.int .i64 a0.sp) ∧ w''.cell? ⟨w.heap.size, 5, none⟩ = some (.int .i64 a0.pu) ∧ w''.cell? ⟨w.heap.size, 6, none⟩ = some (.int .i64 a0.br) ∧ w''.cell? ⟨w.heap.size, 7, none⟩ = some (.int .i64 a0.dr) ∧ w''.cell? ⟨w.heap.size, 8, none⟩ = some (.int .i64 a0.lv) ∧ w''.cell? ⟨w.heap.size, 9, none⟩ = some (.int .i64 a0.dO) ∧ w''.cell? ⟨w.heap.size, 10, none⟩ = some (.int .i64 a0.ld) ∧ w''.cell? ⟨w.heap.size, 11, none⟩ = some (.int .i64 a0.qu) ∧ w''.cell? ⟨(w.heap.size + 1), 0, none⟩ = some (.int .i64 a1.l.lo) ∧ w''.cell? ⟨(w.heap.size + 1), 1, none⟩ = some (.int .i64 a1.l.hi) ∧ w''.cell? ⟨(w.heap.size + 1), 2, none⟩ = some (.int .i64 a1.u.lo) ∧ w''.cell? ⟨(w.heap.size + 1), 3, none⟩ = some (.int .i64 a1.u.hi))) (by kernel_rfl) (by (try dsimp only); first | exact ⟨x0_0, x0_1, x0_2, x0_3, x0_4, x0_5, x0_6, x0_7, x0_8, x0_9, x0_10, x0_11, x1_0, x1_1, x1_2, x1_3⟩ | go_keep) (fun hHeld => ?_)
  refine wpAnyH_take (i := 0) (v := _) rfl (by kernel_rfl) (by kernel_rfl) (by kernel_rfl) (fun _ _ _ h => h) (Or.inl ⟨by kernel_rfl, by (intro wx hSw; (try dsimp only at hSw); go_simp <;> with_reducible rfl)⟩) (by assumption) ?_
  try simp only [Act.put, List.getElem_toArray, List.getElem_cons_succ, List.getElem_cons_zero, List.setIfInBounds_toArray, List.set_cons_zero, List.set_cons_succ]
  refine wpAnyH_take (i := 2) (v := _) rfl (by kernel_rfl) (by kernel_rfl) (by kernel_rfl) (fun _ _ _ h => h) (Or.inl ⟨by kernel_rfl, by (intro wx hSw; (try dsimp only at hSw); go_simp <;> with_reducible rfl)⟩) (by assumption) ?_
  try simp only [Act.put, List.getElem_toArray, List.getElem_cons_succ, List.getElem_cons_zero, List.setIfInBounds_toArray, List.set_cons_zero, List.set_cons_succ]
  refine wpAnyH_take (i := 4) (v := _) rfl (by kernel_rfl) (by kernel_rfl) (by kernel_rfl) (fun _ _ _ h => h) (Or.inl ⟨by kernel_rfl, by (intro wx hSw; (try dsimp only at hSw); go_simp <;> with_reducible rfl)⟩) (by assumption) ?_
  try simp only [Act.put, List.getElem_toArray, List.getElem_cons_succ, List.getElem_cons_zero, List.setIfInBounds_toArray, List.set_cons_zero, List.set_cons_succ]
  refine wpAnyH_take (i := 5) (v := _) rfl (by kernel_rfl) (by kernel_rfl) (by kernel_rfl) (fun _ _ _ h => h) (Or.inl ⟨by kernel_rfl, by (intro wx hSw; (try dsimp only at hSw); go_simp <;> with_reducible rfl)⟩) (by assumption) ?_
  try simp only [Act.put, List.getElem_toArray, List.getElem_cons_succ, List.getElem_cons_zero, List.setIfInBounds_toArray, List.set_cons_zero, List.set_cons_succ]
  refine wpAnyH_ready (rs := [1]) (by kernel_rfl) (by simp) ?_
  refine AllReadyH.cons rfl (fun K hK => ?_) AllReadyH.nil
  go_simp
  refine (toHouse_any a0 _).mono ?_
  rintro e w1 ⟨rfl, hb⟩
  have F0 : Hid (HAt w1 w.heap.size a0) := F0.out.below hb F0.out.lt
  have F1 : Hid (NW w1 (w.heap.size + 1) a1) := F1.out.below hb F1.out.lt
  have FB : Hid (Below w.heap.size w w1) := FB.out.trans (hb.mono FB.out.size)
  obtain ⟨x0_0, x0_1, x0_2, x0_3, x0_4, x0_5, x0_6, x0_7, x0_8, x0_9, x0_10, x0_11⟩ := F0.out
  obtain ⟨x1_0, x1_1, x1_2, x1_3, y1_0, y1_1, y1_2, y1_3⟩ := F1.out
  clear hb
  try go_wp2_with fail
  refine hK.out _ _ (by (try dsimp only); go_keep) (fun hHeld => ?_)
  clear hK K
  try simp only [Act.put, List.getElem_toArray, List.getElem_cons_succ, List.getElem_cons_zero, List.setIfInBounds_toArray, List.set_cons_zero, List.set_cons_succ]
  refine wpAnyH_ready (rs := [3]) (by kernel_rfl) (by simp) ?_
  refine AllReadyH.cons rfl (fun K hK => ?_) AllReadyH.nil
  go_simp
  refine (toSpans_any a1 _).mono ?_
  rintro e w1 ⟨rfl, hb⟩
  have F0 : Hid (HAt w1 w.heap.size a0) := F0.out.below hb F0.out.lt
  have F1 : Hid (NW w1 (w.heap.size + 1) a1) := F1.out.below hb F1.out.lt
  have FB : Hid (Below w.heap.size w w1) := FB.out.trans (hb.mono FB.out.size)
  obtain ⟨x0_0, x0_1, x0_2, x0_3, x0_4, x0_5, x0_6, x0_7, x0_8, x0_9, x0_10, x0_11⟩ := F0.out
  obtain ⟨x1_0, x1_1, x1_2, x1_3, y1_0, y1_1, y1_2, y1_3⟩ := F1.out
  clear hb
  try go_wp2_with fail
  refine hK.out _ _ (by (try dsimp only); go_keep) (fun hHeld => ?_)
  clear hK K
  try simp only [Act.put, List.getElem_toArray, List.getElem_cons_succ, List.getElem_cons_zero, List.setIfInBounds_toArray, List.set_cons_zero, List.set_cons_succ]
  refine wpAnyH_ready (rs := [6]) (by kernel_rfl) (by simp) ?_
  refine AllReadyH.cons rfl (fun K hK => ?_) AllReadyH.nil
  go_simp
  refine (specSafeSpans_any a0 a1 a2 a3 _).mono ?_
  rintro e w1 ⟨rfl, hb⟩
  have F0 : Hid (HAt w1 w.heap.size a0) := F0.out.below hb F0.out.lt
  have F1 : Hid (NW w1 (w.heap.size + 1) a1) := F1.out.below hb F1.out.lt
  have FB : Hid (Below w.heap.size w w1) := FB.out.trans (hb.mono FB.out.size)
  obtain ⟨x0_0, x0_1, x0_2, x0_3, x0_4, x0_5, x0_6, x0_7, x0_8, x0_9, x0_10, x0_11⟩ := F0.out
  obtain ⟨x1_0, x1_1, x1_2, x1_3, y1_0, y1_1, y1_2, y1_3⟩ := F1.out
  clear hb
  try go_wp2_with fail
  refine hK.out _ _ (by (try dsimp only); go_keep) (fun hHeld => ?_)
  clear hK K
  try simp only [Act.put, List.getElem_toArray, List.getElem_cons_succ, List.getElem_cons_zero, List.setIfInBounds_toArray, List.set_cons_zero, List.set_cons_succ]
  refine wpAnyH_take (i := 7) (v := _) rfl (by kernel_rfl) (by kernel_rfl) (by kernel_rfl) (fun _ _ _ h => h) (Or.inl ⟨by kernel_rfl, by (intro wx hSw; (try dsimp only at hSw); go_simp <;> with_reducible rfl)⟩) (by assumption) ?_
  try simp only [Act.put, List.getElem_toArray, List.getElem_cons_succ, List.getElem_cons_zero, List.setIfInBounds_toArray, List.set_cons_zero, List.set_cons_succ]
  refine wpAnyH_done (by kernel_rfl) ?_ _
  go_wp2_with fail
  have F0 : Hid (HAt w1.drew w.heap.size a0) := F0.out.drew
  have F1 : Hid (NW w1.drew (w.heap.size + 1) a1) := F1.out.drew
  have FB : Hid (Below w.heap.size w w1.drew) := FB.out.drew
  refine wp_region_held_drew (S := (fun w'' => w''.cell? ⟨w.heap.size, 0, none⟩ = some (.int .i64 a0.fl) ∧ w''.cell? ⟨w.heap.size, 1, none⟩ = some (.int .i64 a0.gp) ∧ w''.cell? ⟨w.heap.size, 2, none⟩ = some (.int .i64 a0.ln) ∧ w''.cell? ⟨w.heap.size, 3, none⟩ = some (.int .i64 a0.rf) ∧ w''.cell? ⟨w.heap.size, 4, none⟩ = some (.int .i64 a0.sp) ∧ w''.cell? ⟨w.heap.size, 5, none⟩ = some (.int .i64 a0.pu) ∧ w''.cell? ⟨w.heap.size, 6, none⟩ = some (.int .i64 a0.br) ∧ w''.cell? ⟨w.heap.size, 7, none⟩ = some (.int .i64 a0.dr) ∧ w''.cell? ⟨w.heap.size, 8, none⟩ = some (.int .i64 a0.lv) ∧ w''.cell? ⟨w.heap.size, 9, none⟩ = some (.int .i64 a0.dO) ∧ w''.cell? ⟨w.heap.size, 10, none⟩ = some (.int .i64 a0.ld) ∧ w''.cell? ⟨w.heap.size, 11, none⟩ = some (.int .i64 a0.qu) ∧ w''.cell? ⟨(w.heap.size + 1), 0, none⟩ = some (.int .i64 a1.l.lo) ∧ w''.cell? ⟨(w.heap.size + 1), 1, none⟩ = some (.int .i64 a1.l.hi) ∧ w''.cell? ⟨(w.heap.size + 1), 2, none⟩ = some (.int .i64 a1.u.lo) ∧ w''.cell? ⟨(w.heap.size + 1), 3, none⟩ = some (.int .i64 a1.u.hi))) (by kernel_rfl) (by (try dsimp only); first | exact ⟨x0_0, x0_1, x0_2, x0_3, x0_4, x0_5, x0_6, x0_7, x0_8, x0_9, x0_10, x0_11, x1_0, x1_1, x1_2, x1_3⟩ | go_keep) (fun hHeld => ?_)
  refine wpAnyH_take (i := 0) (v := _) rfl (by kernel_rfl) (by kernel_rfl) (by kernel_rfl) (fun _ _ _ h => h) (Or.inl ⟨by kernel_rfl, by (intro wx hSw; (try dsimp only at hSw); go_simp <;> with_reducible rfl)⟩) (by assumption) ?_
  try simp only [Act.put, List.getElem_toArray, List.getElem_cons_succ, List.getElem_cons_zero, List.setIfInBounds_toArray, List.set_cons_zero, List.set_cons_succ]
  refine wpAnyH_take (i := 2) (v := _) rfl (by kernel_rfl) (by kernel_rfl) (by kernel_rfl) (fun _ _ _ h => h) (Or.inl ⟨by kernel_rfl, by (intro wx hSw; (try dsimp only at hSw); go_simp <;> with_reducible rfl)⟩) (by assumption) ?_
  try simp only [Act.put, List.getElem_toArray, List.getElem_cons_succ, List.getElem_cons_zero, List.setIfInBounds_toArray, List.set_cons_zero, List.set_cons_succ]
  refine wpAnyH_take (i := 4) (v := _) rfl (by kernel_rfl) (by kernel_rfl) (by kernel_rfl) (fun _ _ _ h => h) (Or.inl ⟨by kernel_rfl, by (intro wx hSw; (try dsimp only at hSw); go_simp <;> with_reducible rfl)⟩) (by assumption) ?_
  try simp only [Act.put, List.getElem_toArray, List.getElem_cons_succ, List.getElem_cons_zero, List.setIfInBounds_toArray, List.set_cons_zero, List.set_cons_succ]
  refine wpAnyH_take (i := 5) (v := _) rfl (by kernel_rfl) (by kernel_rfl) (by kernel_rfl) (fun _ _ _ h => h) (Or.inl ⟨by kernel_rfl, by (intro wx hSw; (try dsimp only at hSw); go_simp <;> with_reducible rfl)⟩) (by assumption) ?_
  try simp only [Act.put, List.getElem_toArray, List.getElem_cons_succ, List.getElem_cons_zero, List.setIfInBounds_toArray, List.set_cons_zero, List.set_cons_succ]
  refine wpAnyH_ready (rs := [1]) (by kernel_rfl) (by simp) ?_
  refine AllReadyH.cons rfl (fun K hK => ?_) AllReadyH.nil
  go_simp
  refine (toHouse_any a0 _).mono ?_
  rintro e w1 ⟨rfl, hb⟩
  have F0 : Hid (HAt w1 w.heap.size a0) := F0.out.below hb F0.out.lt
  have F1 : Hid (NW w1 (w.heap.size + 1) a1) := F1.out.below hb F1.out.lt
  have FB : Hid (Below w.heap.size w w1) := FB.out.trans (hb.mono FB.out.size)
  obtain ⟨x0_0, x0_1, x0_2, x0_3, x0_4, x0_5, x0_6, x0_7, x0_8, x0_9, x0_10, x0_11⟩ := F0.out
  obtain ⟨x1_0, x1_1, x1_2, x1_3, y1_0, y1_1, y1_2, y1_3⟩ := F1.out
  clear hb
  try go_wp2_with fail
  refine hK.out _ _ (by (try dsimp only); go_keep) (fun hHeld => ?_)
  clear hK K
  try simp only [Act.put, List.getElem_toArray, List.getElem_cons_succ, List.getElem_cons_zero, List.setIfInBounds_toArray, List.set_cons_zero, List.set_cons_succ]
  refine wpAnyH_ready (rs := [3]) (by kernel_rfl) (by simp) ?_
  refine AllReadyH.cons rfl (fun K hK => ?_) AllReadyH.nil
  go_simp
  refine (toSpans_any a1 _).mono ?_
  rintro e w1 ⟨rfl, hb⟩
  have F0 : Hid (HAt w1 w.heap.size a0) := F0.out.below hb F0.out.lt
  have F1 : Hid (NW w1 (w.heap.size + 1) a1) := F1.out.below hb F1.out.lt
  have FB : Hid (Below w.heap.size w w1) := FB.out.trans (hb.mono FB.out.size)
  obtain ⟨x0_0, x0_1, x0_2, x0_3, x0_4, x0_5, x0_6, x0_7, x0_8, x0_9, x0_10, x0_11⟩ := F0.out
  obtain ⟨x1_0, x1_1, x1_2, x1_3, y1_0, y1_1, y1_2, y1_3⟩ := F1.out
  clear hb
  try go_wp2_with fail
  refine hK.out _ _ (by (try dsimp only); go_keep) (fun hHeld => ?_)
  clear hK K
  try simp only [Act.put, List.getElem_toArray, List.getElem_cons_succ, List.getElem_cons_zero, List.setIfInBounds_toArray, List.set_cons_zero, List.set_cons_succ]
  refine wpAnyH_ready (rs := [6]) (by kernel_rfl) (by simp) ?_
  refine AllReadyH.cons rfl (fun K hK => ?_) AllReadyH.nil
  go_simp
  refine (implSafeSpans_any a0 a1 a2 a3 _).mono ?_
  rintro e w1 ⟨rfl, hb⟩
  have F0 : Hid (HAt w1 w.heap.size a0) := F0.out.below hb F0.out.lt
  have F1 : Hid (NW w1 (w.heap.size + 1) a1) := F1.out.below hb F1.out.lt
  have FB : Hid (Below w.heap.size w w1) := FB.out.trans (hb.mono FB.out.size)
  obtain ⟨x0_0, x0_1, x0_2, x0_3, x0_4, x0_5, x0_6, x0_7, x0_8, x0_9, x0_10, x0_11⟩ := F0.out
  obtain ⟨x1_0, x1_1, x1_2, x1_3, y1_0, y1_1, y1_2, y1_3⟩ := F1.out
  clear hb
  try go_wp2_with fail
  refine hK.out _ _ (by (try dsimp only); go_keep) (fun hHeld => ?_)
  clear hK K
  try simp only [Act.put, List.getElem_toArray, List.getElem_cons_succ, List.getElem_cons_zero, List.setIfInBounds_toArray, List.set_cons_zero, List.set_cons_succ]
  refine wpAnyH_take (i := 7) (v := _) rfl (by kernel_rfl) (by kernel_rfl) (by kernel_rfl) (fun _ _ _ h => h) (Or.inl ⟨by kernel_rfl, by (intro wx hSw; (try dsimp only at hSw); go_simp <;> with_reducible rfl)⟩) (by assumption) ?_
  try simp only [Act.put, List.getElem_toArray, List.getElem_cons_succ, List.getElem_cons_zero, List.setIfInBounds_toArray, List.set_cons_zero, List.set_cons_succ]
  refine wpAnyH_done (by kernel_rfl) ?_ _
  go_wp2
  go_ret
  exact ⟨by simp, FB.out⟩

set_option maxRecDepth 100000 in
theorem lifted (os : Os) (started : os.Started) (H : Type) (enc : TypeId × Value → H) :
    ReturnsInHanded {} Try.checked os 4 .any (Rows.fnExactSafeSpansSpec.pre6 enc Try.prog Try.f4 Rows.fnExactSafeSpansRow.domain false) (Rows.fnExactSafeSpansSpec.post enc Try.prog Try.f4 false true false false) := by
  refine returnsInHanded_of_change (C := Try.checked) own started (by kernel_rfl) Try.func4
    (ChangeSpec.witness6 (enc := enc) (C := Try.checked) false ⟨#[], #[.agg #[.int .i64 0, .int .i64 0, .int .i64 0, .int .i64 0, .int .i64 0, .int .i64 0, .int .i64 0, .int .i64 0, .int .i64 0, .int .i64 0, .int .i64 0, .int .i64 0], .agg #[.int .i64 0, .int .i64 0, .int .i64 0, .int .i64 0], .int .i64 0, .int .i64 0], []⟩ 8 (by kernel_rfl) (by kernel_rfl) (by kernel_rfl) (by kernel_rfl)) ?_
  intro W base args ds gs before hval0 hW hcnd _
  have hval : ∀ (j : Nat) t v, Try.f4.params[j]? = some t → args[j]? = some v → Value.okWide Try.prog W .any base t v := hval0
  have hW' := hW
  obtain ⟨p, q, hA0, hV, rfl, hfz, hnd⟩ := hW
  have hA : DataW.TrodAll enc Try.prog W 0 (fun _ => true) true Try.f4.params.toList args.toList ds p := hA0
  rw [Try.params4] at hA hval
  obtain ⟨v0, vs0, d0, ds0, p0, q0, hargs, rfl, rfl, h0, r0⟩ := trodAll_cons hA
  obtain ⟨v1, vs1, d1, ds1, p1, q1, rfl, rfl, rfl, h1, r1⟩ := trodAll_cons r0
  obtain ⟨v2, vs2, d2, ds2, p2, q2, rfl, rfl, rfl, h2, r2⟩ := trodAll_cons r1
  obtain ⟨v3, vs3, d3, ds3, p3, q3, rfl, rfl, rfl, h3, r3⟩ := trodAll_cons r2
  obtain ⟨rfl, rfl, rfl⟩ := trodAll_nil r3
  obtain rfl : args = #[v0, v1, v2, v3] := by cases args; simp_all
  obtain ⟨rfl, rfl⟩ := trodVars_none hV
  have k0 := h0
  have lt0 : ∀ x ∈ p0, x.block < W.heap.size := by obtain ⟨m, hm⟩ := k0; exact DataW.trod_lt m _ _ _ hm
  obtain ⟨xs0, hl0, rfl, w0⟩ := open_i64s Try.underlying23 Try.underlying2 (by kernel_rfl) (by kernel_rfl) (by kernel_rfl) (hval 0 23 v0 rfl rfl) h0
  obtain ⟨x0_0, x0_1, x0_2, x0_3, x0_4, x0_5, x0_6, x0_7, x0_8, x0_9, x0_10, x0_11, rfl⟩ := list12 hl0
  have k1 := h1
  have lt1 : ∀ x ∈ p1, x.block < W.heap.size := by obtain ⟨m, hm⟩ := k1; exact DataW.trod_lt m _ _ _ hm
  obtain ⟨xs1, ys1, hl1, hm1, rfl, wx1, wy1⟩ := open_two (tc := 25) (n := 2) Try.underlying27 Try.underlying25 Try.underlying2 (by kernel_rfl) (by kernel_rfl) (by kernel_rfl) (by kernel_rfl) rfl rfl rfl rfl rfl rfl (hval 1 27 v1 rfl rfl) h1
  obtain ⟨x1_0, x1_1, rfl⟩ := list2 hl1
  obtain ⟨x1_2, x1_3, rfl⟩ := list2 hm1
  have w1 : ∀ x ∈ [x1_0, x1_1, x1_2, x1_3], (Lit.int .i64 x).wf = true := by
    intro x hx
    rcases List.mem_append.1 (show x ∈ [x1_0, x1_1] ++ [x1_2, x1_3] from hx) with h | h
    · exact wx1 x h
    · exact wy1 x h
  have k2 := h2
  have lt2 : ∀ x ∈ p2, x.block < W.heap.size := by obtain ⟨m, hm⟩ := k2; exact DataW.trod_lt m _ _ _ hm
  obtain ⟨a2, rfl, _, _, w2⟩ := open_int Try.underlying2 (hval 2 2 v2 rfl rfl) h2
  have k3 := h3
  have lt3 : ∀ x ∈ p3, x.block < W.heap.size := by obtain ⟨m, hm⟩ := k3; exact DataW.trod_lt m _ _ _ hm
  obtain ⟨a3, rfl, _, _, w3⟩ := open_int Try.underlying2 (hval 3 2 v3 rfl rfl) h3
  clear hA0 hval0
  refine (walk ⟨x0_0, x0_1, x0_2, x0_3, x0_4, x0_5, x0_6, x0_7, x0_8, x0_9, x0_10, x0_11⟩ ⟨⟨x1_0, x1_1⟩, ⟨x1_2, x1_3⟩⟩ a2 a3 w0 w1 w2 w3 W).mono fun e W' ⟨he, bel⟩ => ?_
  subst he
  exact ⟨_, rfl, _, _, _, [], _, [], hW', trodAll_mk1 (shut_bool Try.underlying4 _), (trodAll_cons_mk (Below.trod laidOut (by kernel_rfl) (of_decide_eq_true (by kernel_rfl)) k0 bel lt0) (trodAll_cons_mk (Below.trod laidOut (by kernel_rfl) (of_decide_eq_true (by kernel_rfl)) k1 bel lt1) (trodAll_cons_mk (Below.trod laidOut (by kernel_rfl) (of_decide_eq_true (by kernel_rfl)) k2 bel lt2) (trodAll_cons_mk (Below.trod laidOut (by kernel_rfl) (of_decide_eq_true (by kernel_rfl)) k3 bel lt3) trodAll_mk0)))), rfl, bel.frame _, fun h => by cases h⟩

theorem over : Rows.fnExactSafeSpansRow.holds Try.pinned (OpenSpec.ofChange Rows.fnExactSafeSpansSpec) :=
  OpenClaim.holds_of_wide 4 Try.f4 rfl rfl rfl rfl rfl rfl rfl ⟨rfl, rfl, rfl, rfl, rfl⟩ rfl rfl rfl rfl rfl (by kernel_rfl) Try.func4 (by kernel_rfl)
    (of_decide_eq_true (by kernel_rfl)) (by unfold Func.isWrapper; first | (rw [if_pos (by decide +kernel)]; kernel_rfl) | (rw [if_neg (by decide +kernel)]; exact ⟨rfl, rfl⟩))
    (fun os started H enc _ => lifted os started H enc)

theorem proved : Rows.FnExactSafeSpansSaid := over
end Go.Proofs.Ythnpagnjdioagab.fnExactSafeSpans

namespace Go.Proofs.Ythnpagnjdioagab
theorem fnExactSafeSpans_holds : Rows.FnExactSafeSpansSaid := fnExactSafeSpans.proved
#print axioms fnExactSafeSpans_holds
end Go.Proofs.Ythnpagnjdioagab
