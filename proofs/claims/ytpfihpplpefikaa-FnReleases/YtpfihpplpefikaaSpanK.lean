/-
  The program's spans: the floor at which a car is; SensedSpans; who keeps aside; GoalsFor.
-/
import Derived.Test.YtpfihpplpefikaaHouseG
import Derived.Test.YtpfihpplpefikaaCellsN
import Derived.Test.YtpfihpplpefikaaCellsS
import Derived.Test.YtpfihpplpefikaaFnd
import Derived.Test.YtpfihpplpefikaaSpanKf
import Derived.Test.YtpfihpplpefikaaCarK
import Derived.Test.YtpfihpplpefikaaSpanD
import Derived.Test.YtpfihpplpefikaaGrow
namespace Go.Proofs.Ytpfihpplpefikaa
open Go.RowKit Pl
set_option linter.unusedSimpArgs false
set_option linter.unusedVariables false

set_option maxRecDepth 20000 in
set_option maxHeartbeats 8000000 in
theorem sensedSpans_any (h : Hs) (s : Sh) (ka : CarOk h s.lo) (kb : CarOk h s.up) (w : World) :
    Calls Try.prog 41 #[.agg #[.int .i64 h.fl, .int .i64 h.gp, .int .i64 h.ln, .int .i64 h.rf, .int .i64 h.sp, .int .i64 h.pu, .int .i64 h.br, .int .i64 h.dr, .int .i64 h.lv, .int .i64 h.dO, .int .i64 h.ld, .int .i64 h.qu], .agg #[.int .i64 s.lo.pos, .int .i64 s.lo.vel, .int .i64 s.lo.door, .int .i64 s.up.pos, .int .i64 s.up.vel, .int .i64 s.up.door]] w fun e w' => e = .returned (.agg #[.int .i64 (Hs.sensA h s), .int .i64 (Hs.sensA h s), .int .i64 (Hs.sensB h s), .int .i64 (Hs.sensB h s)]) ∧ Below w.heap.size w w' := by
  have o := ka.ok
  have f1 := o.fl1; have f2 := o.fl2
  have a1 := Hs.at6_bd o s.lo.pos; have a2 := Hs.at6_bd o s.up.pos
  obtain ⟨fa, ha⟩ : ∃ fa, Hs.at6 h s.lo.pos = fa := ⟨_, rfl⟩
  obtain ⟨fb, hb_⟩ : ∃ fb, Hs.at6 h s.up.pos = fb := ⟨_, rfl⟩
  rw [ha] at a1
  rw [hb_] at a2
  have HA : Hid (Hs.at6 h s.lo.pos = fa) := ha
  have HB : Hid (Hs.at6 h s.up.pos = fb) := hb_
  have KA : Hid (CarOk h s.lo) := ka
  have KB : Hid (CarOk h s.up) := kb
  have en : IntKind.i64.wrap (h.fl - 1) = h.fl - 1 := IntWalk.i64_in _ (by omega)
  clear o ha hb_ ka kb
  have F0 : Hid (HAt (((w.alloc (.cells #[.int .i64 h.fl, .int .i64 h.gp, .int .i64 h.ln, .int .i64 h.rf, .int .i64 h.sp, .int .i64 h.pu, .int .i64 h.br, .int .i64 h.dr, .int .i64 h.lv, .int .i64 h.dO, .int .i64 h.ld, .int .i64 h.qu] 25)).alloc (.cells #[.int .i64 s.lo.pos, .int .i64 s.lo.vel, .int .i64 s.lo.door, .int .i64 s.up.pos, .int .i64 s.up.vel, .int .i64 s.up.door] 40)).alloc (.cells #[.int .i64 0, .int .i64 0, .int .i64 0, .int .i64 0] 29)).drew w.heap.size h) := (((HAt.at_ w h _ _ (by simp)).alloc _).alloc _).drew
  have F1 : Hid (SW (((w.alloc (.cells #[.int .i64 h.fl, .int .i64 h.gp, .int .i64 h.ln, .int .i64 h.rf, .int .i64 h.sp, .int .i64 h.pu, .int .i64 h.br, .int .i64 h.dr, .int .i64 h.lv, .int .i64 h.dO, .int .i64 h.ld, .int .i64 h.qu] 25)).alloc (.cells #[.int .i64 s.lo.pos, .int .i64 s.lo.vel, .int .i64 s.lo.door, .int .i64 s.up.pos, .int .i64 s.up.vel, .int .i64 s.up.door] 40)).alloc (.cells #[.int .i64 0, .int .i64 0, .int .i64 0, .int .i64 0] 29)).drew (w.heap.size + 1) s) := ((SW.at_ (w.alloc (.cells #[.int .i64 h.fl, .int .i64 h.gp, .int .i64 h.ln, .int .i64 h.rf, .int .i64 h.sp, .int .i64 h.pu, .int .i64 h.br, .int .i64 h.dr, .int .i64 h.lv, .int .i64 h.dO, .int .i64 h.ld, .int .i64 h.qu] 25)) s _ _ (by simp)).alloc _).drew
  have F2 : Hid (R4 (((w.alloc (.cells #[.int .i64 h.fl, .int .i64 h.gp, .int .i64 h.ln, .int .i64 h.rf, .int .i64 h.sp, .int .i64 h.pu, .int .i64 h.br, .int .i64 h.dr, .int .i64 h.lv, .int .i64 h.dO, .int .i64 h.ld, .int .i64 h.qu] 25)).alloc (.cells #[.int .i64 s.lo.pos, .int .i64 s.lo.vel, .int .i64 s.lo.door, .int .i64 s.up.pos, .int .i64 s.up.vel, .int .i64 s.up.door] 40)).alloc (.cells #[.int .i64 0, .int .i64 0, .int .i64 0, .int .i64 0] 29)).drew (w.heap.size + 2)) := (R4.at_ ((w.alloc (.cells #[.int .i64 h.fl, .int .i64 h.gp, .int .i64 h.ln, .int .i64 h.rf, .int .i64 h.sp, .int .i64 h.pu, .int .i64 h.br, .int .i64 h.dr, .int .i64 h.lv, .int .i64 h.dO, .int .i64 h.ld, .int .i64 h.qu] 25)).alloc (.cells #[.int .i64 s.lo.pos, .int .i64 s.lo.vel, .int .i64 s.lo.door, .int .i64 s.up.pos, .int .i64 s.up.vel, .int .i64 s.up.door] 40)) _ _ (by simp)).drew
  have FB : Hid (Below w.heap.size w (((w.alloc (.cells #[.int .i64 h.fl, .int .i64 h.gp, .int .i64 h.ln, .int .i64 h.rf, .int .i64 h.sp, .int .i64 h.pu, .int .i64 h.br, .int .i64 h.dr, .int .i64 h.lv, .int .i64 h.dO, .int .i64 h.ld, .int .i64 h.qu] 25)).alloc (.cells #[.int .i64 s.lo.pos, .int .i64 s.lo.vel, .int .i64 s.lo.door, .int .i64 s.up.pos, .int .i64 s.up.vel, .int .i64 s.up.door] 40)).alloc (.cells #[.int .i64 0, .int .i64 0, .int .i64 0, .int .i64 0] 29)).drew) := ((((Below.refl _ _).alloc (Nat.le_refl _) _).alloc (by simp <;> omega) _).alloc (by simp <;> omega) _).drew
  obtain ⟨x0_0, x0_1, x0_2, x0_3, x0_4, x0_5, x0_6, x0_7, x0_8, x0_9, x0_10, x0_11⟩ := F0.out
  obtain ⟨x1_0, x1_1, x1_2, x1_3, x1_4, x1_5, y1_0, y1_1, y1_2, y1_3, y1_4, y1_5⟩ := F1.out
  obtain ⟨x2_0, x2_1, x2_2, x2_3, y2_0, y2_1, y2_2, y2_3⟩ := F2.out
  by_cases c1 : fb ≤ fa
  · by_cases c2 : h.fl - 1 < fa
    · have e1 : IntKind.i64.wrap (h.fl - 1 + 1) = h.fl - 1 + 1 := IntWalk.i64_in _ (by omega)
      have q1 : Hs.sensA h s = (h.fl - 1) := by unfold Hs.sensA; rw [HA.out, HB.out]; rw [if_pos c1]; split <;> omega
      have q2 : Hs.sensB h s = (h.fl - 1 + 1) := by unfold Hs.sensB; rw [HA.out, HB.out]; rw [if_pos c1]; split <;> omega
      rw [q1, q2]
      clear q1 q2
      go_enter Try.func41, Try.ntmps41
      go_wp2_with fail
      refine wp_region_held_drew (S := (fun w'' => w''.cell? ⟨w.heap.size, 0, none⟩ = some (.int .i64 h.fl) ∧ w''.cell? ⟨w.heap.size, 1, none⟩ = some (.int .i64 h.gp) ∧ w''.cell? ⟨w.heap.size, 2, none⟩ = some (.int .i64 h.ln) ∧ w''.cell? ⟨w.heap.size, 3, none⟩ = some (.int .i64 h.rf) ∧ w''.cell? ⟨w.heap.size, 4, none⟩ = some (.int .i64 h.sp) ∧ w''.cell? ⟨w.heap.size, 5, none⟩ = some (.int .i64 h.pu) ∧ w''.cell? ⟨w.heap.size, 6, none⟩ = some (.int .i64 h.br) ∧ w''.cell? ⟨w.heap.size, 7, none⟩ = some (.int .i64 h.dr) ∧ w''.cell? ⟨w.heap.size, 8, none⟩ = some (.int .i64 h.lv) ∧ w''.cell? ⟨w.heap.size, 9, none⟩ = some (.int .i64 h.dO) ∧ w''.cell? ⟨w.heap.size, 10, none⟩ = some (.int .i64 h.ld) ∧ w''.cell? ⟨w.heap.size, 11, none⟩ = some (.int .i64 h.qu) ∧ w''.cell? ⟨(w.heap.size + 1), 0, none⟩ = some (.int .i64 s.lo.pos) ∧ w''.cell? ⟨(w.heap.size + 1), 1, none⟩ = some (.int .i64 s.lo.vel) ∧ w''.cell? ⟨(w.heap.size + 1), 2, none⟩ = some (.int .i64 s.lo.door) ∧ w''.cell? ⟨(w.heap.size + 1), 3, none⟩ = some (.int .i64 s.up.pos) ∧ w''.cell? ⟨(w.heap.size + 1), 4, none⟩ = some (.int .i64 s.up.vel) ∧ w''.cell? ⟨(w.heap.size + 1), 5, none⟩ = some (.int .i64 s.up.door) ∧ w''.cell? ⟨(w.heap.size + 2), 0, none⟩ = some (.int .i64 0) ∧ w''.cell? ⟨(w.heap.size + 2), 1, none⟩ = some (.int .i64 0) ∧ w''.cell? ⟨(w.heap.size + 2), 2, none⟩ = some (.int .i64 0) ∧ w''.cell? ⟨(w.heap.size + 2), 3, none⟩ = some (.int .i64 0))) (by kernel_rfl) (by (try dsimp only); first | exact ⟨x0_0, x0_1, x0_2, x0_3, x0_4, x0_5, x0_6, x0_7, x0_8, x0_9, x0_10, x0_11, x1_0, x1_1, x1_2, x1_3, x1_4, x1_5, x2_0, x2_1, x2_2, x2_3⟩ | go_keep) (fun hHeld => ?_)
      refine tkz 0 rfl ?_
      refine tkz 1 rfl ?_
      refine tkz 2 rfl ?_
      refine tkz 4 rfl ?_
      refine tkz 5 rfl ?_
      refine tkz 6 rfl ?_
      refine wpAnyH_ready (rs := [3]) (by kernel_rfl) (by simp) ?_
      refine AllReadyH.cons rfl (fun K hK => ?_) AllReadyH.nil
      go_simp
      refine (floorOf_any h s.lo KA.out fa HA.out _).mono ?_
      rintro e w1 ⟨rfl, hb⟩
      have F0 : Hid (HAt w1 w.heap.size h) := F0.out.below hb F0.out.lt
      have F1 : Hid (SW w1 (w.heap.size + 1) s) := F1.out.below hb F1.out.lt
      have F2 : Hid (R4 w1 (w.heap.size + 2)) := F2.out.below hb F2.out.lt
      have FB : Hid (Below w.heap.size w w1) := FB.out.trans (hb.mono FB.out.size)
      obtain ⟨x0_0, x0_1, x0_2, x0_3, x0_4, x0_5, x0_6, x0_7, x0_8, x0_9, x0_10, x0_11⟩ := F0.out
      obtain ⟨x1_0, x1_1, x1_2, x1_3, x1_4, x1_5, y1_0, y1_1, y1_2, y1_3, y1_4, y1_5⟩ := F1.out
      obtain ⟨x2_0, x2_1, x2_2, x2_3, y2_0, y2_1, y2_2, y2_3⟩ := F2.out
      clear hb
      try go_wp2_with fail
      refine hK.out _ _ (by (try dsimp only); go_keep) (fun hHeld => ?_)
      clear hK K
      try simp only [Act.put, List.getElem_toArray, List.getElem_cons_succ, List.getElem_cons_zero, List.setIfInBounds_toArray, List.set_cons_zero, List.set_cons_succ]
      refine wpAnyH_ready (rs := [7]) (by kernel_rfl) (by simp) ?_
      refine AllReadyH.cons rfl (fun K hK => ?_) AllReadyH.nil
      go_simp
      refine (floorOf_any h s.up KB.out fb HB.out _).mono ?_
      rintro e w2 ⟨rfl, hb⟩
      have F0 : Hid (HAt w2 w.heap.size h) := F0.out.below hb F0.out.lt
      have F1 : Hid (SW w2 (w.heap.size + 1) s) := F1.out.below hb F1.out.lt
      have F2 : Hid (R4 w2 (w.heap.size + 2)) := F2.out.below hb F2.out.lt
      have FB : Hid (Below w.heap.size w w2) := FB.out.trans (hb.mono FB.out.size)
      obtain ⟨x0_0, x0_1, x0_2, x0_3, x0_4, x0_5, x0_6, x0_7, x0_8, x0_9, x0_10, x0_11⟩ := F0.out
      obtain ⟨x1_0, x1_1, x1_2, x1_3, x1_4, x1_5, y1_0, y1_1, y1_2, y1_3, y1_4, y1_5⟩ := F1.out
      obtain ⟨x2_0, x2_1, x2_2, x2_3, y2_0, y2_1, y2_2, y2_3⟩ := F2.out
      clear hb
      try go_wp2_with fail
      refine hK.out _ _ (by (try dsimp only); go_keep) (fun hHeld => ?_)
      clear hK K
      try simp only [Act.put, List.getElem_toArray, List.getElem_cons_succ, List.getElem_cons_zero, List.setIfInBounds_toArray, List.set_cons_zero, List.set_cons_succ]
      refine tkz 8 rfl ?_
      refine tkz 9 rfl ?_
      refine wpAnyH_done (by kernel_rfl) ?_ _
      go_wp2_with (go_at_call 65; refine (oneFloor_any _ _).mono ?_; rintro e w3 ⟨rfl, hb⟩; have F0 : Hid (HAt w3 w.heap.size h) := F0.out.below hb F0.out.lt; have F1 : Hid (SW w3 (w.heap.size + 1) s) := F1.out.below hb F1.out.lt; have F2 : Hid (R4 w3 (w.heap.size + 2)) := F2.out.below hb F2.out.lt; have FB : Hid (Below w.heap.size w w3) := FB.out.trans (hb.mono FB.out.size); obtain ⟨x0_0, x0_1, x0_2, x0_3, x0_4, x0_5, x0_6, x0_7, x0_8, x0_9, x0_10, x0_11⟩ := F0.out; obtain ⟨x1_0, x1_1, x1_2, x1_3, x1_4, x1_5, y1_0, y1_1, y1_2, y1_3, y1_4, y1_5⟩ := F1.out; obtain ⟨x2_0, x2_1, x2_2, x2_3, y2_0, y2_1, y2_2, y2_3⟩ := F2.out; clear hb)
      exact bodyPost_ret (v := .agg #[.int .i64 (h.fl - 1), .int .i64 (h.fl - 1), .int .i64 (h.fl - 1 + 1), .int .i64 (h.fl - 1 + 1)]) (by simp [results, Try.results41, go_sem, x2_0, x2_1, x2_2, x2_3]) rfl ⟨rfl, by repeat (first | exact FB.out | (refine Below.setCell ?_ (by simp <;> omega) _))⟩
    · have c3 : fa ≤ h.fl - 1 := by omega
      have e1 : IntKind.i64.wrap (fa + 1) = fa + 1 := IntWalk.i64_in _ (by omega)
      clear c2
      have q1 : Hs.sensA h s = fa := by unfold Hs.sensA; rw [HA.out, HB.out]; rw [if_pos c1]; split <;> omega
      have q2 : Hs.sensB h s = (fa + 1) := by unfold Hs.sensB; rw [HA.out, HB.out]; rw [if_pos c1]; split <;> omega
      rw [q1, q2]
      clear q1 q2
      go_enter Try.func41, Try.ntmps41
      go_wp2_with fail
      refine wp_region_held_drew (S := (fun w'' => w''.cell? ⟨w.heap.size, 0, none⟩ = some (.int .i64 h.fl) ∧ w''.cell? ⟨w.heap.size, 1, none⟩ = some (.int .i64 h.gp) ∧ w''.cell? ⟨w.heap.size, 2, none⟩ = some (.int .i64 h.ln) ∧ w''.cell? ⟨w.heap.size, 3, none⟩ = some (.int .i64 h.rf) ∧ w''.cell? ⟨w.heap.size, 4, none⟩ = some (.int .i64 h.sp) ∧ w''.cell? ⟨w.heap.size, 5, none⟩ = some (.int .i64 h.pu) ∧ w''.cell? ⟨w.heap.size, 6, none⟩ = some (.int .i64 h.br) ∧ w''.cell? ⟨w.heap.size, 7, none⟩ = some (.int .i64 h.dr) ∧ w''.cell? ⟨w.heap.size, 8, none⟩ = some (.int .i64 h.lv) ∧ w''.cell? ⟨w.heap.size, 9, none⟩ = some (.int .i64 h.dO) ∧ w''.cell? ⟨w.heap.size, 10, none⟩ = some (.int .i64 h.ld) ∧ w''.cell? ⟨w.heap.size, 11, none⟩ = some (.int .i64 h.qu) ∧ w''.cell? ⟨(w.heap.size + 1), 0, none⟩ = some (.int .i64 s.lo.pos) ∧ w''.cell? ⟨(w.heap.size + 1), 1, none⟩ = some (.int .i64 s.lo.vel) ∧ w''.cell? ⟨(w.heap.size + 1), 2, none⟩ = some (.int .i64 s.lo.door) ∧ w''.cell? ⟨(w.heap.size + 1), 3, none⟩ = some (.int .i64 s.up.pos) ∧ w''.cell? ⟨(w.heap.size + 1), 4, none⟩ = some (.int .i64 s.up.vel) ∧ w''.cell? ⟨(w.heap.size + 1), 5, none⟩ = some (.int .i64 s.up.door) ∧ w''.cell? ⟨(w.heap.size + 2), 0, none⟩ = some (.int .i64 0) ∧ w''.cell? ⟨(w.heap.size + 2), 1, none⟩ = some (.int .i64 0) ∧ w''.cell? ⟨(w.heap.size + 2), 2, none⟩ = some (.int .i64 0) ∧ w''.cell? ⟨(w.heap.size + 2), 3, none⟩ = some (.int .i64 0))) (by kernel_rfl) (by (try dsimp only); first | exact ⟨x0_0, x0_1, x0_2, x0_3, x0_4, x0_5, x0_6, x0_7, x0_8, x0_9, x0_10, x0_11, x1_0, x1_1, x1_2, x1_3, x1_4, x1_5, x2_0, x2_1, x2_2, x2_3⟩ | go_keep) (fun hHeld => ?_)
      refine tkz 0 rfl ?_
      refine tkz 1 rfl ?_
      refine tkz 2 rfl ?_
      refine tkz 4 rfl ?_
      refine tkz 5 rfl ?_
      refine tkz 6 rfl ?_
      refine wpAnyH_ready (rs := [3]) (by kernel_rfl) (by simp) ?_
      refine AllReadyH.cons rfl (fun K hK => ?_) AllReadyH.nil
      go_simp
      refine (floorOf_any h s.lo KA.out fa HA.out _).mono ?_
      rintro e w1 ⟨rfl, hb⟩
      have F0 : Hid (HAt w1 w.heap.size h) := F0.out.below hb F0.out.lt
      have F1 : Hid (SW w1 (w.heap.size + 1) s) := F1.out.below hb F1.out.lt
      have F2 : Hid (R4 w1 (w.heap.size + 2)) := F2.out.below hb F2.out.lt
      have FB : Hid (Below w.heap.size w w1) := FB.out.trans (hb.mono FB.out.size)
      obtain ⟨x0_0, x0_1, x0_2, x0_3, x0_4, x0_5, x0_6, x0_7, x0_8, x0_9, x0_10, x0_11⟩ := F0.out
      obtain ⟨x1_0, x1_1, x1_2, x1_3, x1_4, x1_5, y1_0, y1_1, y1_2, y1_3, y1_4, y1_5⟩ := F1.out
      obtain ⟨x2_0, x2_1, x2_2, x2_3, y2_0, y2_1, y2_2, y2_3⟩ := F2.out
      clear hb
      try go_wp2_with fail
      refine hK.out _ _ (by (try dsimp only); go_keep) (fun hHeld => ?_)
      clear hK K
      try simp only [Act.put, List.getElem_toArray, List.getElem_cons_succ, List.getElem_cons_zero, List.setIfInBounds_toArray, List.set_cons_zero, List.set_cons_succ]
      refine wpAnyH_ready (rs := [7]) (by kernel_rfl) (by simp) ?_
      refine AllReadyH.cons rfl (fun K hK => ?_) AllReadyH.nil
      go_simp
      refine (floorOf_any h s.up KB.out fb HB.out _).mono ?_
      rintro e w2 ⟨rfl, hb⟩
      have F0 : Hid (HAt w2 w.heap.size h) := F0.out.below hb F0.out.lt
      have F1 : Hid (SW w2 (w.heap.size + 1) s) := F1.out.below hb F1.out.lt
      have F2 : Hid (R4 w2 (w.heap.size + 2)) := F2.out.below hb F2.out.lt
      have FB : Hid (Below w.heap.size w w2) := FB.out.trans (hb.mono FB.out.size)
      obtain ⟨x0_0, x0_1, x0_2, x0_3, x0_4, x0_5, x0_6, x0_7, x0_8, x0_9, x0_10, x0_11⟩ := F0.out
      obtain ⟨x1_0, x1_1, x1_2, x1_3, x1_4, x1_5, y1_0, y1_1, y1_2, y1_3, y1_4, y1_5⟩ := F1.out
      obtain ⟨x2_0, x2_1, x2_2, x2_3, y2_0, y2_1, y2_2, y2_3⟩ := F2.out
      clear hb
      try go_wp2_with fail
      refine hK.out _ _ (by (try dsimp only); go_keep) (fun hHeld => ?_)
      clear hK K
      try simp only [Act.put, List.getElem_toArray, List.getElem_cons_succ, List.getElem_cons_zero, List.setIfInBounds_toArray, List.set_cons_zero, List.set_cons_succ]
      refine tkz 8 rfl ?_
      refine tkz 9 rfl ?_
      refine wpAnyH_done (by kernel_rfl) ?_ _
      go_wp2_with (go_at_call 65; refine (oneFloor_any _ _).mono ?_; rintro e w3 ⟨rfl, hb⟩; have F0 : Hid (HAt w3 w.heap.size h) := F0.out.below hb F0.out.lt; have F1 : Hid (SW w3 (w.heap.size + 1) s) := F1.out.below hb F1.out.lt; have F2 : Hid (R4 w3 (w.heap.size + 2)) := F2.out.below hb F2.out.lt; have FB : Hid (Below w.heap.size w w3) := FB.out.trans (hb.mono FB.out.size); obtain ⟨x0_0, x0_1, x0_2, x0_3, x0_4, x0_5, x0_6, x0_7, x0_8, x0_9, x0_10, x0_11⟩ := F0.out; obtain ⟨x1_0, x1_1, x1_2, x1_3, x1_4, x1_5, y1_0, y1_1, y1_2, y1_3, y1_4, y1_5⟩ := F1.out; obtain ⟨x2_0, x2_1, x2_2, x2_3, y2_0, y2_1, y2_2, y2_3⟩ := F2.out; clear hb)
      exact bodyPost_ret (v := .agg #[.int .i64 fa, .int .i64 fa, .int .i64 (fa + 1), .int .i64 (fa + 1)]) (by simp [results, Try.results41, go_sem, x2_0, x2_1, x2_2, x2_3]) rfl ⟨rfl, by repeat (first | exact FB.out | (refine Below.setCell ?_ (by simp <;> omega) _))⟩
  · have q1 : Hs.sensA h s = fa := by unfold Hs.sensA; rw [HA.out, HB.out]; rw [if_neg c1]; split <;> omega
    have q2 : Hs.sensB h s = fb := by unfold Hs.sensB; rw [HA.out, HB.out]; rw [if_neg c1]; split <;> omega
    rw [q1, q2]
    clear q1 q2
    go_enter Try.func41, Try.ntmps41
    go_wp2_with fail
    refine wp_region_held_drew (S := (fun w'' => w''.cell? ⟨w.heap.size, 0, none⟩ = some (.int .i64 h.fl) ∧ w''.cell? ⟨w.heap.size, 1, none⟩ = some (.int .i64 h.gp) ∧ w''.cell? ⟨w.heap.size, 2, none⟩ = some (.int .i64 h.ln) ∧ w''.cell? ⟨w.heap.size, 3, none⟩ = some (.int .i64 h.rf) ∧ w''.cell? ⟨w.heap.size, 4, none⟩ = some (.int .i64 h.sp) ∧ w''.cell? ⟨w.heap.size, 5, none⟩ = some (.int .i64 h.pu) ∧ w''.cell? ⟨w.heap.size, 6, none⟩ = some (.int .i64 h.br) ∧ w''.cell? ⟨w.heap.size, 7, none⟩ = some (.int .i64 h.dr) ∧ w''.cell? ⟨w.heap.size, 8, none⟩ = some (.int .i64 h.lv) ∧ w''.cell? ⟨w.heap.size, 9, none⟩ = some (.int .i64 h.dO) ∧ w''.cell? ⟨w.heap.size, 10, none⟩ = some (.int .i64 h.ld) ∧ w''.cell? ⟨w.heap.size, 11, none⟩ = some (.int .i64 h.qu) ∧ w''.cell? ⟨(w.heap.size + 1), 0, none⟩ = some (.int .i64 s.lo.pos) ∧ w''.cell? ⟨(w.heap.size + 1), 1, none⟩ = some (.int .i64 s.lo.vel) ∧ w''.cell? ⟨(w.heap.size + 1), 2, none⟩ = some (.int .i64 s.lo.door) ∧ w''.cell? ⟨(w.heap.size + 1), 3, none⟩ = some (.int .i64 s.up.pos) ∧ w''.cell? ⟨(w.heap.size + 1), 4, none⟩ = some (.int .i64 s.up.vel) ∧ w''.cell? ⟨(w.heap.size + 1), 5, none⟩ = some (.int .i64 s.up.door) ∧ w''.cell? ⟨(w.heap.size + 2), 0, none⟩ = some (.int .i64 0) ∧ w''.cell? ⟨(w.heap.size + 2), 1, none⟩ = some (.int .i64 0) ∧ w''.cell? ⟨(w.heap.size + 2), 2, none⟩ = some (.int .i64 0) ∧ w''.cell? ⟨(w.heap.size + 2), 3, none⟩ = some (.int .i64 0))) (by kernel_rfl) (by (try dsimp only); first | exact ⟨x0_0, x0_1, x0_2, x0_3, x0_4, x0_5, x0_6, x0_7, x0_8, x0_9, x0_10, x0_11, x1_0, x1_1, x1_2, x1_3, x1_4, x1_5, x2_0, x2_1, x2_2, x2_3⟩ | go_keep) (fun hHeld => ?_)
    refine tkz 0 rfl ?_
    refine tkz 1 rfl ?_
    refine tkz 2 rfl ?_
    refine tkz 4 rfl ?_
    refine tkz 5 rfl ?_
    refine tkz 6 rfl ?_
    refine wpAnyH_ready (rs := [3]) (by kernel_rfl) (by simp) ?_
    refine AllReadyH.cons rfl (fun K hK => ?_) AllReadyH.nil
    go_simp
    refine (floorOf_any h s.lo KA.out fa HA.out _).mono ?_
    rintro e w1 ⟨rfl, hb⟩
    have F0 : Hid (HAt w1 w.heap.size h) := F0.out.below hb F0.out.lt
    have F1 : Hid (SW w1 (w.heap.size + 1) s) := F1.out.below hb F1.out.lt
    have F2 : Hid (R4 w1 (w.heap.size + 2)) := F2.out.below hb F2.out.lt
    have FB : Hid (Below w.heap.size w w1) := FB.out.trans (hb.mono FB.out.size)
    obtain ⟨x0_0, x0_1, x0_2, x0_3, x0_4, x0_5, x0_6, x0_7, x0_8, x0_9, x0_10, x0_11⟩ := F0.out
    obtain ⟨x1_0, x1_1, x1_2, x1_3, x1_4, x1_5, y1_0, y1_1, y1_2, y1_3, y1_4, y1_5⟩ := F1.out
    obtain ⟨x2_0, x2_1, x2_2, x2_3, y2_0, y2_1, y2_2, y2_3⟩ := F2.out
    clear hb
    try go_wp2_with fail
    refine hK.out _ _ (by (try dsimp only); go_keep) (fun hHeld => ?_)
    clear hK K
    try simp only [Act.put, List.getElem_toArray, List.getElem_cons_succ, List.getElem_cons_zero, List.setIfInBounds_toArray, List.set_cons_zero, List.set_cons_succ]
    refine wpAnyH_ready (rs := [7]) (by kernel_rfl) (by simp) ?_
    refine AllReadyH.cons rfl (fun K hK => ?_) AllReadyH.nil
    go_simp
    refine (floorOf_any h s.up KB.out fb HB.out _).mono ?_
    rintro e w2 ⟨rfl, hb⟩
    have F0 : Hid (HAt w2 w.heap.size h) := F0.out.below hb F0.out.lt
    have F1 : Hid (SW w2 (w.heap.size + 1) s) := F1.out.below hb F1.out.lt
    have F2 : Hid (R4 w2 (w.heap.size + 2)) := F2.out.below hb F2.out.lt
    have FB : Hid (Below w.heap.size w w2) := FB.out.trans (hb.mono FB.out.size)
    obtain ⟨x0_0, x0_1, x0_2, x0_3, x0_4, x0_5, x0_6, x0_7, x0_8, x0_9, x0_10, x0_11⟩ := F0.out
    obtain ⟨x1_0, x1_1, x1_2, x1_3, x1_4, x1_5, y1_0, y1_1, y1_2, y1_3, y1_4, y1_5⟩ := F1.out
    obtain ⟨x2_0, x2_1, x2_2, x2_3, y2_0, y2_1, y2_2, y2_3⟩ := F2.out
    clear hb
    try go_wp2_with fail
    refine hK.out _ _ (by (try dsimp only); go_keep) (fun hHeld => ?_)
    clear hK K
    try simp only [Act.put, List.getElem_toArray, List.getElem_cons_succ, List.getElem_cons_zero, List.setIfInBounds_toArray, List.set_cons_zero, List.set_cons_succ]
    refine tkz 8 rfl ?_
    refine tkz 9 rfl ?_
    refine wpAnyH_done (by kernel_rfl) ?_ _
    go_wp2_with (go_at_call 65; refine (oneFloor_any _ _).mono ?_; rintro e w3 ⟨rfl, hb⟩; have F0 : Hid (HAt w3 w.heap.size h) := F0.out.below hb F0.out.lt; have F1 : Hid (SW w3 (w.heap.size + 1) s) := F1.out.below hb F1.out.lt; have F2 : Hid (R4 w3 (w.heap.size + 2)) := F2.out.below hb F2.out.lt; have FB : Hid (Below w.heap.size w w3) := FB.out.trans (hb.mono FB.out.size); obtain ⟨x0_0, x0_1, x0_2, x0_3, x0_4, x0_5, x0_6, x0_7, x0_8, x0_9, x0_10, x0_11⟩ := F0.out; obtain ⟨x1_0, x1_1, x1_2, x1_3, x1_4, x1_5, y1_0, y1_1, y1_2, y1_3, y1_4, y1_5⟩ := F1.out; obtain ⟨x2_0, x2_1, x2_2, x2_3, y2_0, y2_1, y2_2, y2_3⟩ := F2.out; clear hb)
    exact bodyPost_ret (v := .agg #[.int .i64 fa, .int .i64 fa, .int .i64 fb, .int .i64 fb]) (by simp [results, Try.results41, go_sem, x2_0, x2_1, x2_2, x2_3]) rfl ⟨rfl, by repeat (first | exact FB.out | (refine Below.setCell ?_ (by simp <;> omega) _))⟩
set_option maxRecDepth 20000 in
set_option maxHeartbeats 8000000 in
theorem implSensedSpans_any (h : Hs) (s : Sh) (w : World) :
    Calls Try.prog 15 #[.agg #[.int .i64 h.fl, .int .i64 h.gp, .int .i64 h.ln, .int .i64 h.rf, .int .i64 h.sp, .int .i64 h.pu, .int .i64 h.br, .int .i64 h.dr, .int .i64 h.lv, .int .i64 h.dO, .int .i64 h.ld, .int .i64 h.qu], .agg #[.int .i64 s.lo.pos, .int .i64 s.lo.vel, .int .i64 s.lo.door, .int .i64 s.up.pos, .int .i64 s.up.vel, .int .i64 s.up.door]] w (isSps w (h.shaft s) (Hs.sensV h s)) := by
  unfold Hs.sensV
  have F0 : Hid (HAt (((w.alloc (.cells #[.int .i64 h.fl, .int .i64 h.gp, .int .i64 h.ln, .int .i64 h.rf, .int .i64 h.sp, .int .i64 h.pu, .int .i64 h.br, .int .i64 h.dr, .int .i64 h.lv, .int .i64 h.dO, .int .i64 h.ld, .int .i64 h.qu] 25)).alloc (.cells #[.int .i64 s.lo.pos, .int .i64 s.lo.vel, .int .i64 s.lo.door, .int .i64 s.up.pos, .int .i64 s.up.vel, .int .i64 s.up.door] 40)).alloc (.cells #[.int .i64 0, .int .i64 0, .int .i64 0, .int .i64 0, .int .i64 0] 33)) w.heap.size h) := ((HAt.at_ w h _ _ (by simp)).alloc _).alloc _
  have F1 : Hid (SW (((w.alloc (.cells #[.int .i64 h.fl, .int .i64 h.gp, .int .i64 h.ln, .int .i64 h.rf, .int .i64 h.sp, .int .i64 h.pu, .int .i64 h.br, .int .i64 h.dr, .int .i64 h.lv, .int .i64 h.dO, .int .i64 h.ld, .int .i64 h.qu] 25)).alloc (.cells #[.int .i64 s.lo.pos, .int .i64 s.lo.vel, .int .i64 s.lo.door, .int .i64 s.up.pos, .int .i64 s.up.vel, .int .i64 s.up.door] 40)).alloc (.cells #[.int .i64 0, .int .i64 0, .int .i64 0, .int .i64 0, .int .i64 0] 33)) (w.heap.size + 1) s) := (SW.at_ (w.alloc (.cells #[.int .i64 h.fl, .int .i64 h.gp, .int .i64 h.ln, .int .i64 h.rf, .int .i64 h.sp, .int .i64 h.pu, .int .i64 h.br, .int .i64 h.dr, .int .i64 h.lv, .int .i64 h.dO, .int .i64 h.ld, .int .i64 h.qu] 25)) s _ _ (by simp)).alloc _
  have F2 : Hid (RSps (((w.alloc (.cells #[.int .i64 h.fl, .int .i64 h.gp, .int .i64 h.ln, .int .i64 h.rf, .int .i64 h.sp, .int .i64 h.pu, .int .i64 h.br, .int .i64 h.dr, .int .i64 h.lv, .int .i64 h.dO, .int .i64 h.ld, .int .i64 h.qu] 25)).alloc (.cells #[.int .i64 s.lo.pos, .int .i64 s.lo.vel, .int .i64 s.lo.door, .int .i64 s.up.pos, .int .i64 s.up.vel, .int .i64 s.up.door] 40)).alloc (.cells #[.int .i64 0, .int .i64 0, .int .i64 0, .int .i64 0, .int .i64 0] 33)) (w.heap.size + 2)) := RSps.at_ ((w.alloc (.cells #[.int .i64 h.fl, .int .i64 h.gp, .int .i64 h.ln, .int .i64 h.rf, .int .i64 h.sp, .int .i64 h.pu, .int .i64 h.br, .int .i64 h.dr, .int .i64 h.lv, .int .i64 h.dO, .int .i64 h.ld, .int .i64 h.qu] 25)).alloc (.cells #[.int .i64 s.lo.pos, .int .i64 s.lo.vel, .int .i64 s.lo.door, .int .i64 s.up.pos, .int .i64 s.up.vel, .int .i64 s.up.door] 40)) _ _ (by simp)
  have FB : Hid (Below w.heap.size w (((w.alloc (.cells #[.int .i64 h.fl, .int .i64 h.gp, .int .i64 h.ln, .int .i64 h.rf, .int .i64 h.sp, .int .i64 h.pu, .int .i64 h.br, .int .i64 h.dr, .int .i64 h.lv, .int .i64 h.dO, .int .i64 h.ld, .int .i64 h.qu] 25)).alloc (.cells #[.int .i64 s.lo.pos, .int .i64 s.lo.vel, .int .i64 s.lo.door, .int .i64 s.up.pos, .int .i64 s.up.vel, .int .i64 s.up.door] 40)).alloc (.cells #[.int .i64 0, .int .i64 0, .int .i64 0, .int .i64 0, .int .i64 0] 33))) := ((((Below.refl _ _).alloc (Nat.le_refl _) _).alloc (by simp <;> omega) _).alloc (by simp <;> omega) _)
  by_cases hk : h.shaft s = 0
  · rw [if_pos hk, hk]
    have KA : Hid (CarOk h s.lo) := Hs.car_zero (shaft_parts hk).1
    have KB : Hid (CarOk h s.up) := Hs.car_zero (shaft_parts hk).2.1
    go_enter Try.func15, Try.ntmps15
    go_wp2_with (first | (go_at_call 35; refine (implShaftFault_any h s _).mono ?_; rw [hk]; rintro e w1 ⟨rfl, hb⟩; have F0 : Hid (HAt w1 w.heap.size h) := F0.out.below hb F0.out.lt; have F1 : Hid (SW w1 (w.heap.size + 1) s) := F1.out.below hb F1.out.lt; have F2 : Hid (RSps w1 (w.heap.size + 2)) := F2.out.below hb F2.out.lt; have FB : Hid (Below w.heap.size w w1) := FB.out.trans (hb.mono FB.out.size); obtain ⟨x0_0, x0_1, x0_2, x0_3, x0_4, x0_5, x0_6, x0_7, x0_8, x0_9, x0_10, x0_11⟩ := F0.out; obtain ⟨x1_0, x1_1, x1_2, x1_3, x1_4, x1_5, y1_0, y1_1, y1_2, y1_3, y1_4, y1_5⟩ := F1.out; obtain ⟨x2_0, x2_1, x2_2, x2_3, x2_4, y2_0, y2_1, y2_2, y2_3, y2_4⟩ := F2.out; clear hb) | (go_at_call 41; refine (sensedSpans_any h s KA.out KB.out _).mono ?_; rintro e w2 ⟨rfl, hb⟩; have F0 : Hid (HAt w2 w.heap.size h) := F0.out.below hb F0.out.lt; have F1 : Hid (SW w2 (w.heap.size + 1) s) := F1.out.below hb F1.out.lt; have F2 : Hid (RSps w2 (w.heap.size + 2)) := F2.out.below hb F2.out.lt; have FB : Hid (Below w.heap.size w w2) := FB.out.trans (hb.mono FB.out.size); obtain ⟨x0_0, x0_1, x0_2, x0_3, x0_4, x0_5, x0_6, x0_7, x0_8, x0_9, x0_10, x0_11⟩ := F0.out; obtain ⟨x1_0, x1_1, x1_2, x1_3, x1_4, x1_5, y1_0, y1_1, y1_2, y1_3, y1_4, y1_5⟩ := F1.out; obtain ⟨x2_0, x2_1, x2_2, x2_3, x2_4, y2_0, y2_1, y2_2, y2_3, y2_4⟩ := F2.out; clear hb))
    exact bodyPost_ret (v := .agg #[.int .i64 0, .int .i64 (Hs.sensA h s), .int .i64 (Hs.sensA h s), .int .i64 (Hs.sensB h s), .int .i64 (Hs.sensB h s)]) (by simp [results, Try.results15, go_sem, x2_0, x2_1, x2_2, x2_3, x2_4]) rfl ⟨rfl, by repeat (first | exact FB.out | (refine Below.setCell ?_ (by simp <;> omega) _))⟩
  · rw [if_neg hk]
    have hn : (h.shaft s != 0) = true := by simpa using hk
    clear hk
    go_enter Try.func15, Try.ntmps15
    go_wp2_with (go_at_call 35; refine (implShaftFault_any h s _).mono ?_; rintro e w1 ⟨rfl, hb⟩; have F0 : Hid (HAt w1 w.heap.size h) := F0.out.below hb F0.out.lt; have F1 : Hid (SW w1 (w.heap.size + 1) s) := F1.out.below hb F1.out.lt; have F2 : Hid (RSps w1 (w.heap.size + 2)) := F2.out.below hb F2.out.lt; have FB : Hid (Below w.heap.size w w1) := FB.out.trans (hb.mono FB.out.size); obtain ⟨x0_0, x0_1, x0_2, x0_3, x0_4, x0_5, x0_6, x0_7, x0_8, x0_9, x0_10, x0_11⟩ := F0.out; obtain ⟨x1_0, x1_1, x1_2, x1_3, x1_4, x1_5, y1_0, y1_1, y1_2, y1_3, y1_4, y1_5⟩ := F1.out; obtain ⟨x2_0, x2_1, x2_2, x2_3, x2_4, y2_0, y2_1, y2_2, y2_3, y2_4⟩ := F2.out; clear hb)
    exact bodyPost_ret (v := .agg #[.int .i64 (h.shaft s), .int .i64 0, .int .i64 0, .int .i64 0, .int .i64 0]) (by simp [results, Try.results15, go_sem, x2_0, x2_1, x2_2, x2_3, x2_4]) rfl ⟨rfl, by repeat (first | exact FB.out | (refine Below.setCell ?_ (by simp <;> omega) _))⟩
def asideR (goal side x y : Int) : Int := if (x ≠ -2 ∧ 0 < (x - goal) * side) then x else if (y ≠ -2 ∧ 0 < (y - goal) * side) then y else goal + side
end Go.Proofs.Ytpfihpplpefikaa
