/-
  The program's spans: what a car covers; CoverOf.
-/
import Derived.Test.YtpfihpplpefikaaCellsN
import Derived.Test.YtpfihpplpefikaaCellsS
import Derived.Test.YtpfihpplpefikaaCarJ
import Derived.Test.YtpfihpplpefikaaFnd
import Derived.Test.YtpfihpplpefikaaSpanE
namespace Go.Proofs.Ytpfihpplpefikaa
open Go.RowKit Pl
set_option linter.unusedSimpArgs false
set_option linter.unusedVariables false

theorem lowestStop_at (h : Hs) (c : Cs) (k : CarOk h c) (v : Int) (hv : h.lo c.pos c.vel = v) (w : World) :
    Calls Try.prog 63 #[.agg #[.int .i64 h.fl, .int .i64 h.gp, .int .i64 h.ln, .int .i64 h.rf, .int .i64 h.sp, .int .i64 h.pu, .int .i64 h.br, .int .i64 h.dr, .int .i64 h.lv, .int .i64 h.dO, .int .i64 h.ld, .int .i64 h.qu], .agg #[.int .i64 c.pos, .int .i64 c.vel, .int .i64 c.door]] w fun e w' => e = .returned (.int .i64 v) ∧ Below w.heap.size w w' := by
  have en := car_env k
  subst hv
  exact lowestStop_any h k.ok c (by omega) (by omega) (by omega) (by omega) w
theorem highestStop_at (h : Hs) (c : Cs) (k : CarOk h c) (v : Int) (hv : h.hi c.pos c.vel = v) (w : World) :
    Calls Try.prog 61 #[.agg #[.int .i64 h.fl, .int .i64 h.gp, .int .i64 h.ln, .int .i64 h.rf, .int .i64 h.sp, .int .i64 h.pu, .int .i64 h.br, .int .i64 h.dr, .int .i64 h.lv, .int .i64 h.dO, .int .i64 h.ld, .int .i64 h.qu], .agg #[.int .i64 c.pos, .int .i64 c.vel, .int .i64 c.door]] w fun e w' => e = .returned (.int .i64 v) ∧ Below w.heap.size w w' := by
  have en := car_env k
  subst hv
  exact highestStop_any h k.ok c (by omega) (by omega) (by omega) (by omega) w
set_option maxRecDepth 20000 in
set_option maxHeartbeats 16000000 in
theorem coverOf_any (h : Hs) (c : Cs) (k : CarOk h c) (g : Sp) (hg : Hs.cover h c = g) (w : World) :
    Calls Try.prog 38 #[.agg #[.int .i64 h.fl, .int .i64 h.gp, .int .i64 h.ln, .int .i64 h.rf, .int .i64 h.sp, .int .i64 h.pu, .int .i64 h.br, .int .i64 h.dr, .int .i64 h.lv, .int .i64 h.dO, .int .i64 h.ld, .int .i64 h.qu], .agg #[.int .i64 c.pos, .int .i64 c.vel, .int .i64 c.door]] w fun e w' => e = .returned (.agg #[.int .i64 g.lo, .int .i64 g.hi]) ∧ Below w.heap.size w w' := by
  have o := k.ok
  have en := car_env k
  have f1 := o.fl1; have f2 := o.fl2; have v1 := o.lv1; have v2 := o.lv2
  have e0 : IntKind.i64.wrap (h.fl + 1) = h.fl + 1 := IntWalk.i64_in _ (by omega)
  obtain ⟨lw, hlw⟩ : ∃ lw, h.lo c.pos c.vel = lw := ⟨_, rfl⟩
  obtain ⟨hg_, hhg⟩ : ∃ hg_, h.hi c.pos c.vel = hg_ := ⟨_, rfl⟩
  unfold Hs.cover at hg
  rw [hlw, hhg] at hg
  have HGv : Hid ((⟨Hs.covLo h lw (h.fl + 2).toNat, Hs.covHi h hg_ (h.fl + 2).toNat⟩ : Sp) = g) := hg
  have HLW : Hid (h.lo c.pos c.vel = lw) := hlw
  have HHG : Hid (h.hi c.pos c.vel = hg_) := hhg
  have HO : Hid h.Ok := o
  have HK : Hid (CarOk h c) := k
  have HS : Hid (Hs.covLo h lw ((0 : Int) + 1).toNat = -1) := by
    show (if _ then _ else _) = (-1 : Int)
    split <;> rfl
  clear o k hlw hhg hg en
  have F0 : Hid (HAt ((((w.alloc (.cells #[.int .i64 h.fl, .int .i64 h.gp, .int .i64 h.ln, .int .i64 h.rf, .int .i64 h.sp, .int .i64 h.pu, .int .i64 h.br, .int .i64 h.dr, .int .i64 h.lv, .int .i64 h.dO, .int .i64 h.ld, .int .i64 h.qu] 25)).alloc (.cells #[.int .i64 c.pos, .int .i64 c.vel, .int .i64 c.door] 38)).alloc (.cells #[.int .i64 0, .int .i64 0] 27)).alloc (.cells #[.int .i64 (-1), .int .i64 h.fl] 27)) w.heap.size h) := (((HAt.at_ w h _ _ (by simp)).alloc _).alloc _).alloc _
  have F1 : Hid (CW ((((w.alloc (.cells #[.int .i64 h.fl, .int .i64 h.gp, .int .i64 h.ln, .int .i64 h.rf, .int .i64 h.sp, .int .i64 h.pu, .int .i64 h.br, .int .i64 h.dr, .int .i64 h.lv, .int .i64 h.dO, .int .i64 h.ld, .int .i64 h.qu] 25)).alloc (.cells #[.int .i64 c.pos, .int .i64 c.vel, .int .i64 c.door] 38)).alloc (.cells #[.int .i64 0, .int .i64 0] 27)).alloc (.cells #[.int .i64 (-1), .int .i64 h.fl] 27)) (w.heap.size + 1) c) := ((CW.at_ _ c _ _ (by simp)).alloc _).alloc _
  have F2 : Hid (MW ((((w.alloc (.cells #[.int .i64 h.fl, .int .i64 h.gp, .int .i64 h.ln, .int .i64 h.rf, .int .i64 h.sp, .int .i64 h.pu, .int .i64 h.br, .int .i64 h.dr, .int .i64 h.lv, .int .i64 h.dO, .int .i64 h.ld, .int .i64 h.qu] 25)).alloc (.cells #[.int .i64 c.pos, .int .i64 c.vel, .int .i64 c.door] 38)).alloc (.cells #[.int .i64 0, .int .i64 0] 27)).alloc (.cells #[.int .i64 (-1), .int .i64 h.fl] 27)) (w.heap.size + 2) (⟨0, 0⟩ : Sp)) := (MW.at_ _ ⟨0, 0⟩ _ _ (by simp)).alloc _
  have F3 : Hid (MW ((((w.alloc (.cells #[.int .i64 h.fl, .int .i64 h.gp, .int .i64 h.ln, .int .i64 h.rf, .int .i64 h.sp, .int .i64 h.pu, .int .i64 h.br, .int .i64 h.dr, .int .i64 h.lv, .int .i64 h.dO, .int .i64 h.ld, .int .i64 h.qu] 25)).alloc (.cells #[.int .i64 c.pos, .int .i64 c.vel, .int .i64 c.door] 38)).alloc (.cells #[.int .i64 0, .int .i64 0] 27)).alloc (.cells #[.int .i64 (-1), .int .i64 h.fl] 27)) (w.heap.size + 3) (⟨-1, h.fl⟩ : Sp)) := MW.at_ _ ⟨-1, h.fl⟩ _ _ (by simp)
  have FB : Hid (Below w.heap.size w ((((w.alloc (.cells #[.int .i64 h.fl, .int .i64 h.gp, .int .i64 h.ln, .int .i64 h.rf, .int .i64 h.sp, .int .i64 h.pu, .int .i64 h.br, .int .i64 h.dr, .int .i64 h.lv, .int .i64 h.dO, .int .i64 h.ld, .int .i64 h.qu] 25)).alloc (.cells #[.int .i64 c.pos, .int .i64 c.vel, .int .i64 c.door] 38)).alloc (.cells #[.int .i64 0, .int .i64 0] 27)).alloc (.cells #[.int .i64 (-1), .int .i64 h.fl] 27))) := ((((Below.refl _ _).alloc (Nat.le_refl _) _).alloc (by simp) _).alloc (by simp; omega) _).alloc (by simp; omega) _
  obtain ⟨W0, hW0⟩ : ∃ W0, W0 = ((((w.alloc (.cells #[.int .i64 h.fl, .int .i64 h.gp, .int .i64 h.ln, .int .i64 h.rf, .int .i64 h.sp, .int .i64 h.pu, .int .i64 h.br, .int .i64 h.dr, .int .i64 h.lv, .int .i64 h.dO, .int .i64 h.ld, .int .i64 h.qu] 25)).alloc (.cells #[.int .i64 c.pos, .int .i64 c.vel, .int .i64 c.door] 38)).alloc (.cells #[.int .i64 0, .int .i64 0] 27)).alloc (.cells #[.int .i64 (-1), .int .i64 h.fl] 27)) := ⟨_, rfl⟩
  rw [← hW0] at F0 F1 F2 F3 FB
  have HW0 : Hid (W0 = ((((w.alloc (.cells #[.int .i64 h.fl, .int .i64 h.gp, .int .i64 h.ln, .int .i64 h.rf, .int .i64 h.sp, .int .i64 h.pu, .int .i64 h.br, .int .i64 h.dr, .int .i64 h.lv, .int .i64 h.dO, .int .i64 h.ld, .int .i64 h.qu] 25)).alloc (.cells #[.int .i64 c.pos, .int .i64 c.vel, .int .i64 c.door] 38)).alloc (.cells #[.int .i64 0, .int .i64 0] 27)).alloc (.cells #[.int .i64 (-1), .int .i64 h.fl] 27))) := hW0
  clear hW0
  go_enter Try.func38, Try.ntmps38
  go_upto_region 2 with fail
  rw [← HW0.out]
  clear HW0
  obtain ⟨x0_0, x0_1, x0_2, x0_3, x0_4, x0_5, x0_6, x0_7, x0_8, x0_9, x0_10, x0_11⟩ := F0.out
  go_wp2_with fail
  go_loopw [14] (fun nn wr => ∃ z : Int, nn = .int .i64 z ∧ 0 ≤ z ∧ z ≤ h.fl + 1 ∧ HAt wr w.heap.size h ∧ CW wr (w.heap.size + 1) c ∧ MW wr (w.heap.size + 2) (⟨0, 0⟩ : Sp) ∧ MW wr (w.heap.size + 3) (⟨Hs.covLo h lw (z + 1).toNat, h.fl⟩ : Sp) ∧ Below w.heap.size w wr) (fun nn _ => (h.fl + 1 - intOf nn).toNat)
  case atStart => exact ⟨0, rfl, by omega, by omega, F0.out, F1.out, F2.out, by rw [HS.out]; exact F3.out, FB.out⟩
  case round =>
    clear HS
    obtain ⟨z, rfl, n1, n2, h0, h1, h2, h3, h4⟩ := hrel
    have F0 : Hid (HAt wr w.heap.size h) := h0
    have F1 : Hid (CW wr (w.heap.size + 1) c) := h1
    have F2 : Hid (MW wr (w.heap.size + 2) (⟨0, 0⟩ : Sp)) := h2
    have F3 : Hid (MW wr (w.heap.size + 3) (⟨Hs.covLo h lw (z + 1).toNat, h.fl⟩ : Sp)) := h3
    have FB : Hid (Below w.heap.size w wr) := h4
    clear h0 h1 h2 h3 h4
    obtain ⟨x0_0, x0_1, x0_2, x0_3, x0_4, x0_5, x0_6, x0_7, x0_8, x0_9, x0_10, x0_11⟩ := F0.out
    obtain ⟨x1_0, x1_1, x1_2, y1_0, y1_1, y1_2⟩ := F1.out
    by_cases hlt : z < h.fl + 1
    · obtain ⟨b1, b2⟩ := HO.out.level_bd z (by omega) (by omega)
      have ew : IntKind.i64.wrap (h.level z - h.lv) = h.level z - h.lv := IntWalk.i64_in _ (by omega)
      have ez : IntKind.i64.wrap (z + 1) = z + 1 := IntWalk.i64_in _ (by omega)
      go_wp2_with fail
      by_cases hd : h.level z - h.lv ≤ lw
      · have hd' : decide (h.level z - h.lv ≤ lw) = true := decide_eq_true hd
        have HD : Hid (h.level z - h.lv ≤ lw) := hd
        clear hd
        have F0 : Hid (HAt wr.drew w.heap.size h) := F0.out.below (Below.refl _ _).drew F0.out.lt
        have F1 : Hid (CW wr.drew (w.heap.size + 1) c) := F1.out.below (Below.refl _ _).drew F1.out.lt
        have F2 : Hid (MW wr.drew (w.heap.size + 2) (⟨0, 0⟩ : Sp)) := F2.out.below (Below.refl _ _).drew F2.out.lt
        have F3 : Hid (MW wr.drew (w.heap.size + 3) (⟨Hs.covLo h lw (z + 1).toNat, h.fl⟩ : Sp)) := F3.out.below (Below.refl _ _).drew F3.out.lt
        have FB : Hid (Below w.heap.size w wr.drew) := FB.out.drew
        obtain ⟨x0_0, x0_1, x0_2, x0_3, x0_4, x0_5, x0_6, x0_7, x0_8, x0_9, x0_10, x0_11⟩ := F0.out
        obtain ⟨x1_0, x1_1, x1_2, y1_0, y1_1, y1_2⟩ := F1.out
        refine wp_region_held_drew (S := (fun w'' => w''.cell? ⟨w.heap.size, 0, none⟩ = some (.int .i64 h.fl) ∧ w''.cell? ⟨w.heap.size, 1, none⟩ = some (.int .i64 h.gp) ∧ w''.cell? ⟨w.heap.size, 2, none⟩ = some (.int .i64 h.ln) ∧ w''.cell? ⟨w.heap.size, 3, none⟩ = some (.int .i64 h.rf) ∧ w''.cell? ⟨w.heap.size, 4, none⟩ = some (.int .i64 h.sp) ∧ w''.cell? ⟨w.heap.size, 5, none⟩ = some (.int .i64 h.pu) ∧ w''.cell? ⟨w.heap.size, 6, none⟩ = some (.int .i64 h.br) ∧ w''.cell? ⟨w.heap.size, 7, none⟩ = some (.int .i64 h.dr) ∧ w''.cell? ⟨w.heap.size, 8, none⟩ = some (.int .i64 h.lv) ∧ w''.cell? ⟨w.heap.size, 9, none⟩ = some (.int .i64 h.dO) ∧ w''.cell? ⟨w.heap.size, 10, none⟩ = some (.int .i64 h.ld) ∧ w''.cell? ⟨w.heap.size, 11, none⟩ = some (.int .i64 h.qu) ∧ w''.cell? ⟨(w.heap.size + 1), 0, none⟩ = some (.int .i64 c.pos) ∧ w''.cell? ⟨(w.heap.size + 1), 1, none⟩ = some (.int .i64 c.vel) ∧ w''.cell? ⟨(w.heap.size + 1), 2, none⟩ = some (.int .i64 c.door))) (by kernel_rfl) (by (try dsimp only); first | exact ⟨x0_0, x0_1, x0_2, x0_3, x0_4, x0_5, x0_6, x0_7, x0_8, x0_9, x0_10, x0_11, x1_0, x1_1, x1_2⟩ | go_keep) (fun hHeld => ?_)
        obtain ⟨v_1, hw1⟩ : ∃ v_1, v_1 = wr.drew := ⟨_, rfl⟩
        have F0 : Hid (HAt v_1 w.heap.size h) := by rw [hw1]; exact F0.out
        have F1 : Hid (CW v_1 (w.heap.size + 1) c) := by rw [hw1]; exact F1.out
        have F2 : Hid (MW v_1 (w.heap.size + 2) (⟨0, 0⟩ : Sp)) := by rw [hw1]; exact F2.out
        have F3 : Hid (MW v_1 (w.heap.size + 3) (⟨Hs.covLo h lw (z + 1).toNat, h.fl⟩ : Sp)) := by rw [hw1]; exact F3.out
        have FB : Hid (Below w.heap.size w v_1) := by rw [hw1]; exact FB.out
        rw [← hw1] at hHeld ⊢
        clear hw1
        obtain ⟨x0_0, x0_1, x0_2, x0_3, x0_4, x0_5, x0_6, x0_7, x0_8, x0_9, x0_10, x0_11⟩ := F0.out
        obtain ⟨x1_0, x1_1, x1_2, y1_0, y1_1, y1_2⟩ := F1.out
        refine tkz 0 rfl ?_
        refine tkz 1 rfl ?_
        refine tkz 3 rfl ?_
        refine tkz 4 rfl ?_
        refine tkz 6 rfl ?_
        refine tkz 7 rfl ?_
        refine wpAnyH_ready (rs := [2]) (by kernel_rfl) (by simp) ?_
        refine (AllReadyH.cons rfl (fun K hK => ?_) AllReadyH.nil)
        go_simp
        refine (placeOf_any h HO.out z (by omega) (by omega) _).mono ?_
        rintro e v_2 ⟨rfl, hb⟩
        have F0 : Hid (HAt v_2 w.heap.size h) := F0.out.below hb F0.out.lt
        have F1 : Hid (CW v_2 (w.heap.size + 1) c) := F1.out.below hb F1.out.lt
        have F2 : Hid (MW v_2 (w.heap.size + 2) (⟨0, 0⟩ : Sp)) := F2.out.below hb F2.out.lt
        have F3 : Hid (MW v_2 (w.heap.size + 3) (⟨Hs.covLo h lw (z + 1).toNat, h.fl⟩ : Sp)) := F3.out.below hb F3.out.lt
        have FB : Hid (Below w.heap.size w v_2) := FB.out.trans (hb.mono FB.out.size)
        clear hb
        obtain ⟨x0_0, x0_1, x0_2, x0_3, x0_4, x0_5, x0_6, x0_7, x0_8, x0_9, x0_10, x0_11⟩ := F0.out
        obtain ⟨x1_0, x1_1, x1_2, y1_0, y1_1, y1_2⟩ := F1.out
        try dsimp only
        refine hK.out _ _ (by (try dsimp only); first | exact ⟨x0_0, x0_1, x0_2, x0_3, x0_4, x0_5, x0_6, x0_7, x0_8, x0_9, x0_10, x0_11, x1_0, x1_1, x1_2⟩ | go_keep) (fun hHeld => ?_)
        clear hK K
        try simp only [Act.put, List.getElem_toArray, List.getElem_cons_succ, List.getElem_cons_zero, List.setIfInBounds_toArray, List.set_cons_zero, List.set_cons_succ]
        refine tkz 5 rfl ?_
        refine wpAnyH_ready (rs := [8]) (by kernel_rfl) (by simp) ?_
        refine (AllReadyH.cons rfl (fun K hK => ?_) AllReadyH.nil)
        go_simp
        refine (lowestStop_at h c HK.out lw HLW.out _).mono ?_
        rintro e v_3 ⟨rfl, hb⟩
        have F0 : Hid (HAt v_3 w.heap.size h) := F0.out.below hb F0.out.lt
        have F1 : Hid (CW v_3 (w.heap.size + 1) c) := F1.out.below hb F1.out.lt
        have F2 : Hid (MW v_3 (w.heap.size + 2) (⟨0, 0⟩ : Sp)) := F2.out.below hb F2.out.lt
        have F3 : Hid (MW v_3 (w.heap.size + 3) (⟨Hs.covLo h lw (z + 1).toNat, h.fl⟩ : Sp)) := F3.out.below hb F3.out.lt
        have FB : Hid (Below w.heap.size w v_3) := FB.out.trans (hb.mono FB.out.size)
        clear hb
        obtain ⟨x0_0, x0_1, x0_2, x0_3, x0_4, x0_5, x0_6, x0_7, x0_8, x0_9, x0_10, x0_11⟩ := F0.out
        obtain ⟨x1_0, x1_1, x1_2, y1_0, y1_1, y1_2⟩ := F1.out
        try dsimp only
        refine hK.out _ _ (by (try dsimp only); first | exact ⟨x0_0, x0_1, x0_2, x0_3, x0_4, x0_5, x0_6, x0_7, x0_8, x0_9, x0_10, x0_11, x1_0, x1_1, x1_2⟩ | go_keep) (fun hHeld => ?_)
        clear hK K
        try simp only [Act.put, List.getElem_toArray, List.getElem_cons_succ, List.getElem_cons_zero, List.setIfInBounds_toArray, List.set_cons_zero, List.set_cons_succ]
        refine tkz 9 rfl ?_
        refine wpAnyH_done (by kernel_rfl) ?_ _
        obtain ⟨r0, r1, r2, r3⟩ := F3.out
        try dsimp only at r0 r1
        go_wp2_with fail
        go_roundw
        case rel => exact ⟨z + 1, rfl, by omega, by omega, F0.out.below ((Below.refl _ _).setCell (Nat.le_refl _) _) (by (try dsimp only); omega), F1.out.other (by omega), F2.out.other (by omega), by rw [covLo_yes (by omega) HD.out]; exact F3.out.set0 z, FB.out.setCell (by (try dsimp only); omega) _⟩
        case measure => simp [intOf]; omega
      · have hd' : decide (h.level z - h.lv ≤ lw) = false := decide_eq_false hd
        have HD : Hid (¬ h.level z - h.lv ≤ lw) := hd
        clear hd
        have F0 : Hid (HAt wr.drew w.heap.size h) := F0.out.below (Below.refl _ _).drew F0.out.lt
        have F1 : Hid (CW wr.drew (w.heap.size + 1) c) := F1.out.below (Below.refl _ _).drew F1.out.lt
        have F2 : Hid (MW wr.drew (w.heap.size + 2) (⟨0, 0⟩ : Sp)) := F2.out.below (Below.refl _ _).drew F2.out.lt
        have F3 : Hid (MW wr.drew (w.heap.size + 3) (⟨Hs.covLo h lw (z + 1).toNat, h.fl⟩ : Sp)) := F3.out.below (Below.refl _ _).drew F3.out.lt
        have FB : Hid (Below w.heap.size w wr.drew) := FB.out.drew
        obtain ⟨x0_0, x0_1, x0_2, x0_3, x0_4, x0_5, x0_6, x0_7, x0_8, x0_9, x0_10, x0_11⟩ := F0.out
        obtain ⟨x1_0, x1_1, x1_2, y1_0, y1_1, y1_2⟩ := F1.out
        refine wp_region_held_drew (S := (fun w'' => w''.cell? ⟨w.heap.size, 0, none⟩ = some (.int .i64 h.fl) ∧ w''.cell? ⟨w.heap.size, 1, none⟩ = some (.int .i64 h.gp) ∧ w''.cell? ⟨w.heap.size, 2, none⟩ = some (.int .i64 h.ln) ∧ w''.cell? ⟨w.heap.size, 3, none⟩ = some (.int .i64 h.rf) ∧ w''.cell? ⟨w.heap.size, 4, none⟩ = some (.int .i64 h.sp) ∧ w''.cell? ⟨w.heap.size, 5, none⟩ = some (.int .i64 h.pu) ∧ w''.cell? ⟨w.heap.size, 6, none⟩ = some (.int .i64 h.br) ∧ w''.cell? ⟨w.heap.size, 7, none⟩ = some (.int .i64 h.dr) ∧ w''.cell? ⟨w.heap.size, 8, none⟩ = some (.int .i64 h.lv) ∧ w''.cell? ⟨w.heap.size, 9, none⟩ = some (.int .i64 h.dO) ∧ w''.cell? ⟨w.heap.size, 10, none⟩ = some (.int .i64 h.ld) ∧ w''.cell? ⟨w.heap.size, 11, none⟩ = some (.int .i64 h.qu) ∧ w''.cell? ⟨(w.heap.size + 1), 0, none⟩ = some (.int .i64 c.pos) ∧ w''.cell? ⟨(w.heap.size + 1), 1, none⟩ = some (.int .i64 c.vel) ∧ w''.cell? ⟨(w.heap.size + 1), 2, none⟩ = some (.int .i64 c.door))) (by kernel_rfl) (by (try dsimp only); first | exact ⟨x0_0, x0_1, x0_2, x0_3, x0_4, x0_5, x0_6, x0_7, x0_8, x0_9, x0_10, x0_11, x1_0, x1_1, x1_2⟩ | go_keep) (fun hHeld => ?_)
        obtain ⟨v_4, hw1⟩ : ∃ v_4, v_4 = wr.drew := ⟨_, rfl⟩
        have F0 : Hid (HAt v_4 w.heap.size h) := by rw [hw1]; exact F0.out
        have F1 : Hid (CW v_4 (w.heap.size + 1) c) := by rw [hw1]; exact F1.out
        have F2 : Hid (MW v_4 (w.heap.size + 2) (⟨0, 0⟩ : Sp)) := by rw [hw1]; exact F2.out
        have F3 : Hid (MW v_4 (w.heap.size + 3) (⟨Hs.covLo h lw (z + 1).toNat, h.fl⟩ : Sp)) := by rw [hw1]; exact F3.out
        have FB : Hid (Below w.heap.size w v_4) := by rw [hw1]; exact FB.out
        rw [← hw1] at hHeld ⊢
        clear hw1
        obtain ⟨x0_0, x0_1, x0_2, x0_3, x0_4, x0_5, x0_6, x0_7, x0_8, x0_9, x0_10, x0_11⟩ := F0.out
        obtain ⟨x1_0, x1_1, x1_2, y1_0, y1_1, y1_2⟩ := F1.out
        refine tkz 0 rfl ?_
        refine tkz 1 rfl ?_
        refine tkz 3 rfl ?_
        refine tkz 4 rfl ?_
        refine tkz 6 rfl ?_
        refine tkz 7 rfl ?_
        refine wpAnyH_ready (rs := [2]) (by kernel_rfl) (by simp) ?_
        refine (AllReadyH.cons rfl (fun K hK => ?_) AllReadyH.nil)
        go_simp
        refine (placeOf_any h HO.out z (by omega) (by omega) _).mono ?_
        rintro e v_5 ⟨rfl, hb⟩
        have F0 : Hid (HAt v_5 w.heap.size h) := F0.out.below hb F0.out.lt
        have F1 : Hid (CW v_5 (w.heap.size + 1) c) := F1.out.below hb F1.out.lt
        have F2 : Hid (MW v_5 (w.heap.size + 2) (⟨0, 0⟩ : Sp)) := F2.out.below hb F2.out.lt
        have F3 : Hid (MW v_5 (w.heap.size + 3) (⟨Hs.covLo h lw (z + 1).toNat, h.fl⟩ : Sp)) := F3.out.below hb F3.out.lt
        have FB : Hid (Below w.heap.size w v_5) := FB.out.trans (hb.mono FB.out.size)
        clear hb
        obtain ⟨x0_0, x0_1, x0_2, x0_3, x0_4, x0_5, x0_6, x0_7, x0_8, x0_9, x0_10, x0_11⟩ := F0.out
        obtain ⟨x1_0, x1_1, x1_2, y1_0, y1_1, y1_2⟩ := F1.out
        try dsimp only
        refine hK.out _ _ (by (try dsimp only); first | exact ⟨x0_0, x0_1, x0_2, x0_3, x0_4, x0_5, x0_6, x0_7, x0_8, x0_9, x0_10, x0_11, x1_0, x1_1, x1_2⟩ | go_keep) (fun hHeld => ?_)
        clear hK K
        try simp only [Act.put, List.getElem_toArray, List.getElem_cons_succ, List.getElem_cons_zero, List.setIfInBounds_toArray, List.set_cons_zero, List.set_cons_succ]
        refine tkz 5 rfl ?_
        refine wpAnyH_ready (rs := [8]) (by kernel_rfl) (by simp) ?_
        refine (AllReadyH.cons rfl (fun K hK => ?_) AllReadyH.nil)
        go_simp
        refine (lowestStop_at h c HK.out lw HLW.out _).mono ?_
        rintro e v_6 ⟨rfl, hb⟩
        have F0 : Hid (HAt v_6 w.heap.size h) := F0.out.below hb F0.out.lt
        have F1 : Hid (CW v_6 (w.heap.size + 1) c) := F1.out.below hb F1.out.lt
        have F2 : Hid (MW v_6 (w.heap.size + 2) (⟨0, 0⟩ : Sp)) := F2.out.below hb F2.out.lt
        have F3 : Hid (MW v_6 (w.heap.size + 3) (⟨Hs.covLo h lw (z + 1).toNat, h.fl⟩ : Sp)) := F3.out.below hb F3.out.lt
        have FB : Hid (Below w.heap.size w v_6) := FB.out.trans (hb.mono FB.out.size)
        clear hb
        obtain ⟨x0_0, x0_1, x0_2, x0_3, x0_4, x0_5, x0_6, x0_7, x0_8, x0_9, x0_10, x0_11⟩ := F0.out
        obtain ⟨x1_0, x1_1, x1_2, y1_0, y1_1, y1_2⟩ := F1.out
        try dsimp only
        refine hK.out _ _ (by (try dsimp only); first | exact ⟨x0_0, x0_1, x0_2, x0_3, x0_4, x0_5, x0_6, x0_7, x0_8, x0_9, x0_10, x0_11, x1_0, x1_1, x1_2⟩ | go_keep) (fun hHeld => ?_)
        clear hK K
        try simp only [Act.put, List.getElem_toArray, List.getElem_cons_succ, List.getElem_cons_zero, List.setIfInBounds_toArray, List.set_cons_zero, List.set_cons_succ]
        refine tkz 9 rfl ?_
        refine wpAnyH_done (by kernel_rfl) ?_ _
        go_wp2_with fail
        go_roundw
        case rel => exact ⟨z + 1, rfl, by omega, by omega, F0.out, F1.out, F2.out, by rw [covLo_no (by omega) HD.out]; exact F3.out, FB.out⟩
        case measure => simp [intOf]; omega
    · have ez : z = h.fl + 1 := by omega
      subst ez
      obtain ⟨L, hL⟩ : ∃ L, Hs.covLo h lw (h.fl + 1 + 1).toNat = L := ⟨_, rfl⟩
      have HL : Hid (Hs.covLo h lw (h.fl + 1 + 1).toNat = L) := hL
      have F3 : Hid (MW wr (w.heap.size + 3) (⟨L, h.fl⟩ : Sp)) := hL ▸ F3.out
      clear hL hlt n1 n2
      go_wp2_with fail
      go_loopw [7] (fun nn wr => ∃ z : Int, nn = .int .i64 z ∧ -2 ≤ z ∧ z ≤ h.fl ∧ HAt wr w.heap.size h ∧ CW wr (w.heap.size + 1) c ∧ MW wr (w.heap.size + 2) (⟨0, 0⟩ : Sp) ∧ MW wr (w.heap.size + 3) (⟨L, Hs.covHi h hg_ (h.fl - z).toNat⟩ : Sp) ∧ Below w.heap.size w wr) (fun nn _ => (intOf nn + 2).toNat)
      case atStart => exact ⟨h.fl, rfl, by omega, by omega, F0.out, F1.out, F2.out, by rw [Int.sub_self]; exact F3.out, FB.out⟩
      case round =>
        obtain ⟨z, rfl, n1, n2, h0, h1, h2, h3, h4⟩ := hrel
        have F0 : Hid (HAt wr w.heap.size h) := h0
        have F1 : Hid (CW wr (w.heap.size + 1) c) := h1
        have F2 : Hid (MW wr (w.heap.size + 2) (⟨0, 0⟩ : Sp)) := h2
        have F3 : Hid (MW wr (w.heap.size + 3) (⟨L, Hs.covHi h hg_ (h.fl - z).toNat⟩ : Sp)) := h3
        have FB : Hid (Below w.heap.size w wr) := h4
        clear h0 h1 h2 h3 h4
        obtain ⟨x0_0, x0_1, x0_2, x0_3, x0_4, x0_5, x0_6, x0_7, x0_8, x0_9, x0_10, x0_11⟩ := F0.out
        obtain ⟨x1_0, x1_1, x1_2, y1_0, y1_1, y1_2⟩ := F1.out
        by_cases hge : -1 ≤ z
        · obtain ⟨b1, b2⟩ := HO.out.level_bd z (by omega) (by omega)
          have ew : IntKind.i64.wrap (h.level z + h.lv) = h.level z + h.lv := IntWalk.i64_in _ (by omega)
          have ez : IntKind.i64.wrap (z - 1) = z - 1 := IntWalk.i64_in _ (by omega)
          go_wp2_with fail
          by_cases hd : hg_ ≤ h.level z + h.lv
          · have hd' : decide (hg_ ≤ h.level z + h.lv) = true := decide_eq_true hd
            have HD : Hid (hg_ ≤ h.level z + h.lv) := hd
            clear hd
            have F0 : Hid (HAt wr.drew w.heap.size h) := F0.out.below (Below.refl _ _).drew F0.out.lt
            have F1 : Hid (CW wr.drew (w.heap.size + 1) c) := F1.out.below (Below.refl _ _).drew F1.out.lt
            have F2 : Hid (MW wr.drew (w.heap.size + 2) (⟨0, 0⟩ : Sp)) := F2.out.below (Below.refl _ _).drew F2.out.lt
            have F3 : Hid (MW wr.drew (w.heap.size + 3) (⟨L, Hs.covHi h hg_ (h.fl - z).toNat⟩ : Sp)) := F3.out.below (Below.refl _ _).drew F3.out.lt
            have FB : Hid (Below w.heap.size w wr.drew) := FB.out.drew
            obtain ⟨x0_0, x0_1, x0_2, x0_3, x0_4, x0_5, x0_6, x0_7, x0_8, x0_9, x0_10, x0_11⟩ := F0.out
            obtain ⟨x1_0, x1_1, x1_2, y1_0, y1_1, y1_2⟩ := F1.out
            refine wp_region_held_drew (S := (fun w'' => w''.cell? ⟨w.heap.size, 0, none⟩ = some (.int .i64 h.fl) ∧ w''.cell? ⟨w.heap.size, 1, none⟩ = some (.int .i64 h.gp) ∧ w''.cell? ⟨w.heap.size, 2, none⟩ = some (.int .i64 h.ln) ∧ w''.cell? ⟨w.heap.size, 3, none⟩ = some (.int .i64 h.rf) ∧ w''.cell? ⟨w.heap.size, 4, none⟩ = some (.int .i64 h.sp) ∧ w''.cell? ⟨w.heap.size, 5, none⟩ = some (.int .i64 h.pu) ∧ w''.cell? ⟨w.heap.size, 6, none⟩ = some (.int .i64 h.br) ∧ w''.cell? ⟨w.heap.size, 7, none⟩ = some (.int .i64 h.dr) ∧ w''.cell? ⟨w.heap.size, 8, none⟩ = some (.int .i64 h.lv) ∧ w''.cell? ⟨w.heap.size, 9, none⟩ = some (.int .i64 h.dO) ∧ w''.cell? ⟨w.heap.size, 10, none⟩ = some (.int .i64 h.ld) ∧ w''.cell? ⟨w.heap.size, 11, none⟩ = some (.int .i64 h.qu) ∧ w''.cell? ⟨(w.heap.size + 1), 0, none⟩ = some (.int .i64 c.pos) ∧ w''.cell? ⟨(w.heap.size + 1), 1, none⟩ = some (.int .i64 c.vel) ∧ w''.cell? ⟨(w.heap.size + 1), 2, none⟩ = some (.int .i64 c.door))) (by kernel_rfl) (by (try dsimp only); first | exact ⟨x0_0, x0_1, x0_2, x0_3, x0_4, x0_5, x0_6, x0_7, x0_8, x0_9, x0_10, x0_11, x1_0, x1_1, x1_2⟩ | go_keep) (fun hHeld => ?_)
            obtain ⟨v_7, hw1⟩ : ∃ v_7, v_7 = wr.drew := ⟨_, rfl⟩
            have F0 : Hid (HAt v_7 w.heap.size h) := by rw [hw1]; exact F0.out
            have F1 : Hid (CW v_7 (w.heap.size + 1) c) := by rw [hw1]; exact F1.out
            have F2 : Hid (MW v_7 (w.heap.size + 2) (⟨0, 0⟩ : Sp)) := by rw [hw1]; exact F2.out
            have F3 : Hid (MW v_7 (w.heap.size + 3) (⟨L, Hs.covHi h hg_ (h.fl - z).toNat⟩ : Sp)) := by rw [hw1]; exact F3.out
            have FB : Hid (Below w.heap.size w v_7) := by rw [hw1]; exact FB.out
            rw [← hw1] at hHeld ⊢
            clear hw1
            obtain ⟨x0_0, x0_1, x0_2, x0_3, x0_4, x0_5, x0_6, x0_7, x0_8, x0_9, x0_10, x0_11⟩ := F0.out
            obtain ⟨x1_0, x1_1, x1_2, y1_0, y1_1, y1_2⟩ := F1.out
            refine tkz 0 rfl ?_
            refine tkz 1 rfl ?_
            refine tkz 3 rfl ?_
            refine tkz 4 rfl ?_
            refine tkz 6 rfl ?_
            refine tkz 7 rfl ?_
            refine wpAnyH_ready (rs := [2]) (by kernel_rfl) (by simp) ?_
            refine (AllReadyH.cons rfl (fun K hK => ?_) AllReadyH.nil)
            go_simp
            refine (placeOf_any h HO.out z (by omega) (by omega) _).mono ?_
            rintro e v_8 ⟨rfl, hb⟩
            have F0 : Hid (HAt v_8 w.heap.size h) := F0.out.below hb F0.out.lt
            have F1 : Hid (CW v_8 (w.heap.size + 1) c) := F1.out.below hb F1.out.lt
            have F2 : Hid (MW v_8 (w.heap.size + 2) (⟨0, 0⟩ : Sp)) := F2.out.below hb F2.out.lt
            have F3 : Hid (MW v_8 (w.heap.size + 3) (⟨L, Hs.covHi h hg_ (h.fl - z).toNat⟩ : Sp)) := F3.out.below hb F3.out.lt
            have FB : Hid (Below w.heap.size w v_8) := FB.out.trans (hb.mono FB.out.size)
            clear hb
            obtain ⟨x0_0, x0_1, x0_2, x0_3, x0_4, x0_5, x0_6, x0_7, x0_8, x0_9, x0_10, x0_11⟩ := F0.out
            obtain ⟨x1_0, x1_1, x1_2, y1_0, y1_1, y1_2⟩ := F1.out
            try dsimp only
            refine hK.out _ _ (by (try dsimp only); first | exact ⟨x0_0, x0_1, x0_2, x0_3, x0_4, x0_5, x0_6, x0_7, x0_8, x0_9, x0_10, x0_11, x1_0, x1_1, x1_2⟩ | go_keep) (fun hHeld => ?_)
            clear hK K
            try simp only [Act.put, List.getElem_toArray, List.getElem_cons_succ, List.getElem_cons_zero, List.setIfInBounds_toArray, List.set_cons_zero, List.set_cons_succ]
            refine tkz 5 rfl ?_
            refine wpAnyH_ready (rs := [8]) (by kernel_rfl) (by simp) ?_
            refine (AllReadyH.cons rfl (fun K hK => ?_) AllReadyH.nil)
            go_simp
            refine (highestStop_at h c HK.out hg_ HHG.out _).mono ?_
            rintro e v_9 ⟨rfl, hb⟩
            have F0 : Hid (HAt v_9 w.heap.size h) := F0.out.below hb F0.out.lt
            have F1 : Hid (CW v_9 (w.heap.size + 1) c) := F1.out.below hb F1.out.lt
            have F2 : Hid (MW v_9 (w.heap.size + 2) (⟨0, 0⟩ : Sp)) := F2.out.below hb F2.out.lt
            have F3 : Hid (MW v_9 (w.heap.size + 3) (⟨L, Hs.covHi h hg_ (h.fl - z).toNat⟩ : Sp)) := F3.out.below hb F3.out.lt
            have FB : Hid (Below w.heap.size w v_9) := FB.out.trans (hb.mono FB.out.size)
            clear hb
            obtain ⟨x0_0, x0_1, x0_2, x0_3, x0_4, x0_5, x0_6, x0_7, x0_8, x0_9, x0_10, x0_11⟩ := F0.out
            obtain ⟨x1_0, x1_1, x1_2, y1_0, y1_1, y1_2⟩ := F1.out
            try dsimp only
            refine hK.out _ _ (by (try dsimp only); first | exact ⟨x0_0, x0_1, x0_2, x0_3, x0_4, x0_5, x0_6, x0_7, x0_8, x0_9, x0_10, x0_11, x1_0, x1_1, x1_2⟩ | go_keep) (fun hHeld => ?_)
            clear hK K
            try simp only [Act.put, List.getElem_toArray, List.getElem_cons_succ, List.getElem_cons_zero, List.setIfInBounds_toArray, List.set_cons_zero, List.set_cons_succ]
            refine tkz 9 rfl ?_
            refine wpAnyH_done (by kernel_rfl) ?_ _
            obtain ⟨r0, r1, r2, r3⟩ := F3.out
            try dsimp only at r0 r1
            go_wp2_with fail
            go_roundw
            case rel => exact ⟨z - 1, rfl, by omega, by omega, F0.out.below ((Below.refl _ _).setCell (Nat.le_refl _) _) (by (try dsimp only); omega), F1.out.other (by omega), F2.out.other (by omega), by rw [covHi_yes n2 HD.out]; exact F3.out.set1 z, FB.out.setCell (by (try dsimp only); omega) _⟩
            case measure => simp [intOf]; omega
          · have hd' : decide (hg_ ≤ h.level z + h.lv) = false := decide_eq_false hd
            have HD : Hid (¬ hg_ ≤ h.level z + h.lv) := hd
            clear hd
            have F0 : Hid (HAt wr.drew w.heap.size h) := F0.out.below (Below.refl _ _).drew F0.out.lt
            have F1 : Hid (CW wr.drew (w.heap.size + 1) c) := F1.out.below (Below.refl _ _).drew F1.out.lt
            have F2 : Hid (MW wr.drew (w.heap.size + 2) (⟨0, 0⟩ : Sp)) := F2.out.below (Below.refl _ _).drew F2.out.lt
            have F3 : Hid (MW wr.drew (w.heap.size + 3) (⟨L, Hs.covHi h hg_ (h.fl - z).toNat⟩ : Sp)) := F3.out.below (Below.refl _ _).drew F3.out.lt
            have FB : Hid (Below w.heap.size w wr.drew) := FB.out.drew
            obtain ⟨x0_0, x0_1, x0_2, x0_3, x0_4, x0_5, x0_6, x0_7, x0_8, x0_9, x0_10, x0_11⟩ := F0.out
            obtain ⟨x1_0, x1_1, x1_2, y1_0, y1_1, y1_2⟩ := F1.out
            refine wp_region_held_drew (S := (fun w'' => w''.cell? ⟨w.heap.size, 0, none⟩ = some (.int .i64 h.fl) ∧ w''.cell? ⟨w.heap.size, 1, none⟩ = some (.int .i64 h.gp) ∧ w''.cell? ⟨w.heap.size, 2, none⟩ = some (.int .i64 h.ln) ∧ w''.cell? ⟨w.heap.size, 3, none⟩ = some (.int .i64 h.rf) ∧ w''.cell? ⟨w.heap.size, 4, none⟩ = some (.int .i64 h.sp) ∧ w''.cell? ⟨w.heap.size, 5, none⟩ = some (.int .i64 h.pu) ∧ w''.cell? ⟨w.heap.size, 6, none⟩ = some (.int .i64 h.br) ∧ w''.cell? ⟨w.heap.size, 7, none⟩ = some (.int .i64 h.dr) ∧ w''.cell? ⟨w.heap.size, 8, none⟩ = some (.int .i64 h.lv) ∧ w''.cell? ⟨w.heap.size, 9, none⟩ = some (.int .i64 h.dO) ∧ w''.cell? ⟨w.heap.size, 10, none⟩ = some (.int .i64 h.ld) ∧ w''.cell? ⟨w.heap.size, 11, none⟩ = some (.int .i64 h.qu) ∧ w''.cell? ⟨(w.heap.size + 1), 0, none⟩ = some (.int .i64 c.pos) ∧ w''.cell? ⟨(w.heap.size + 1), 1, none⟩ = some (.int .i64 c.vel) ∧ w''.cell? ⟨(w.heap.size + 1), 2, none⟩ = some (.int .i64 c.door))) (by kernel_rfl) (by (try dsimp only); first | exact ⟨x0_0, x0_1, x0_2, x0_3, x0_4, x0_5, x0_6, x0_7, x0_8, x0_9, x0_10, x0_11, x1_0, x1_1, x1_2⟩ | go_keep) (fun hHeld => ?_)
            obtain ⟨v_10, hw1⟩ : ∃ v_10, v_10 = wr.drew := ⟨_, rfl⟩
            have F0 : Hid (HAt v_10 w.heap.size h) := by rw [hw1]; exact F0.out
            have F1 : Hid (CW v_10 (w.heap.size + 1) c) := by rw [hw1]; exact F1.out
            have F2 : Hid (MW v_10 (w.heap.size + 2) (⟨0, 0⟩ : Sp)) := by rw [hw1]; exact F2.out
            have F3 : Hid (MW v_10 (w.heap.size + 3) (⟨L, Hs.covHi h hg_ (h.fl - z).toNat⟩ : Sp)) := by rw [hw1]; exact F3.out
            have FB : Hid (Below w.heap.size w v_10) := by rw [hw1]; exact FB.out
            rw [← hw1] at hHeld ⊢
            clear hw1
            obtain ⟨x0_0, x0_1, x0_2, x0_3, x0_4, x0_5, x0_6, x0_7, x0_8, x0_9, x0_10, x0_11⟩ := F0.out
            obtain ⟨x1_0, x1_1, x1_2, y1_0, y1_1, y1_2⟩ := F1.out
            refine tkz 0 rfl ?_
            refine tkz 1 rfl ?_
            refine tkz 3 rfl ?_
            refine tkz 4 rfl ?_
            refine tkz 6 rfl ?_
            refine tkz 7 rfl ?_
            refine wpAnyH_ready (rs := [2]) (by kernel_rfl) (by simp) ?_
            refine (AllReadyH.cons rfl (fun K hK => ?_) AllReadyH.nil)
            go_simp
            refine (placeOf_any h HO.out z (by omega) (by omega) _).mono ?_
            rintro e v_11 ⟨rfl, hb⟩
            have F0 : Hid (HAt v_11 w.heap.size h) := F0.out.below hb F0.out.lt
            have F1 : Hid (CW v_11 (w.heap.size + 1) c) := F1.out.below hb F1.out.lt
            have F2 : Hid (MW v_11 (w.heap.size + 2) (⟨0, 0⟩ : Sp)) := F2.out.below hb F2.out.lt
            have F3 : Hid (MW v_11 (w.heap.size + 3) (⟨L, Hs.covHi h hg_ (h.fl - z).toNat⟩ : Sp)) := F3.out.below hb F3.out.lt
            have FB : Hid (Below w.heap.size w v_11) := FB.out.trans (hb.mono FB.out.size)
            clear hb
            obtain ⟨x0_0, x0_1, x0_2, x0_3, x0_4, x0_5, x0_6, x0_7, x0_8, x0_9, x0_10, x0_11⟩ := F0.out
            obtain ⟨x1_0, x1_1, x1_2, y1_0, y1_1, y1_2⟩ := F1.out
            try dsimp only
            refine hK.out _ _ (by (try dsimp only); first | exact ⟨x0_0, x0_1, x0_2, x0_3, x0_4, x0_5, x0_6, x0_7, x0_8, x0_9, x0_10, x0_11, x1_0, x1_1, x1_2⟩ | go_keep) (fun hHeld => ?_)
            clear hK K
            try simp only [Act.put, List.getElem_toArray, List.getElem_cons_succ, List.getElem_cons_zero, List.setIfInBounds_toArray, List.set_cons_zero, List.set_cons_succ]
            refine tkz 5 rfl ?_
            refine wpAnyH_ready (rs := [8]) (by kernel_rfl) (by simp) ?_
            refine (AllReadyH.cons rfl (fun K hK => ?_) AllReadyH.nil)
            go_simp
            refine (highestStop_at h c HK.out hg_ HHG.out _).mono ?_
            rintro e v_12 ⟨rfl, hb⟩
            have F0 : Hid (HAt v_12 w.heap.size h) := F0.out.below hb F0.out.lt
            have F1 : Hid (CW v_12 (w.heap.size + 1) c) := F1.out.below hb F1.out.lt
            have F2 : Hid (MW v_12 (w.heap.size + 2) (⟨0, 0⟩ : Sp)) := F2.out.below hb F2.out.lt
            have F3 : Hid (MW v_12 (w.heap.size + 3) (⟨L, Hs.covHi h hg_ (h.fl - z).toNat⟩ : Sp)) := F3.out.below hb F3.out.lt
            have FB : Hid (Below w.heap.size w v_12) := FB.out.trans (hb.mono FB.out.size)
            clear hb
            obtain ⟨x0_0, x0_1, x0_2, x0_3, x0_4, x0_5, x0_6, x0_7, x0_8, x0_9, x0_10, x0_11⟩ := F0.out
            obtain ⟨x1_0, x1_1, x1_2, y1_0, y1_1, y1_2⟩ := F1.out
            try dsimp only
            refine hK.out _ _ (by (try dsimp only); first | exact ⟨x0_0, x0_1, x0_2, x0_3, x0_4, x0_5, x0_6, x0_7, x0_8, x0_9, x0_10, x0_11, x1_0, x1_1, x1_2⟩ | go_keep) (fun hHeld => ?_)
            clear hK K
            try simp only [Act.put, List.getElem_toArray, List.getElem_cons_succ, List.getElem_cons_zero, List.setIfInBounds_toArray, List.set_cons_zero, List.set_cons_succ]
            refine tkz 9 rfl ?_
            refine wpAnyH_done (by kernel_rfl) ?_ _
            go_wp2_with fail
            go_roundw
            case rel => exact ⟨z - 1, rfl, by omega, by omega, F0.out, F1.out, F2.out, by rw [covHi_no n2 HD.out]; exact F3.out, FB.out⟩
            case measure => simp [intOf]; omega
        · have ez : z = -2 := by omega
          subst ez
          have eq : (⟨L, Hs.covHi h hg_ (h.fl - -2).toNat⟩ : Sp) = g := by
            have e2 : h.fl + 2 = h.fl + 1 + 1 := by omega
            have e3 : h.fl - -2 = h.fl + 1 + 1 := by omega
            rw [← HGv.out, e2, HL.out, e3]
          have F3 : Hid (MW wr (w.heap.size + 3) g) := eq ▸ F3.out
          obtain ⟨z0, z1, z2, z3⟩ := F3.out
          clear eq
          obtain ⟨q0, q1, q2, q3⟩ := F2.out
          try dsimp only at q0 q1
          clear HL HGv HO HK HLW HHG
          go_wp2_with fail
          change bodyPost _ _ _ _ _ (putM wr (w.heap.size + 2) g)
          obtain ⟨Wf, hWf⟩ : ∃ Wf, putM wr (w.heap.size + 2) g = Wf := ⟨_, rfl⟩
          have HRf : MW Wf (w.heap.size + 2) g := hWf ▸ F2.out.put _
          have HBf : Below w.heap.size w Wf := hWf ▸ below_putM FB.out (by omega) _
          rw [hWf]
          clear hWf
          obtain ⟨d0, d1, -, -⟩ := HRf
          try dsimp only at d0 d1
          exact bodyPost_ret (v := .agg #[.int .i64 g.lo, .int .i64 g.hi]) (by simp [results, Try.results38, go_sem, d0, d1]) rfl ⟨rfl, HBf⟩
end Go.Proofs.Ytpfihpplpefikaa
