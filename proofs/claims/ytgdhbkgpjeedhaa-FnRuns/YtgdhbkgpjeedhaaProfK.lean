/-
  The program's RunTo.
-/
import Derived.Test.YtgdhbkgpjeedhaaProfJ
import Derived.Test.YtgdhbkgpjeedhaaProfU
import Derived.Test.YtgdhbkgpjeedhaaCarN
import Derived.Test.YtgdhbkgpjeedhaaCellsR
import Derived.Deep.DeepCutAuto
namespace Go.Proofs.Ytgdhbkgpjeedhaa
open Go.RowKit Pl
set_option linter.unusedSimpArgs false
set_option linter.unusedVariables false

theorem commandTo_x (h : Hs) (o : h.Ok) (c : Cs) (f : Int) (f1 : -1 ≤ f) (f2 : f ≤ h.fl) (p1 : -100000000 ≤ c.pos) (p2 : c.pos ≤ 100000000) (v1 : -500 ≤ c.vel) (v2 : c.vel ≤ 500) (x : Cm) (hx : Hs.forC h c f = x) (w : World) :
    Calls Try.prog 36 #[.agg #[.int .i64 h.fl, .int .i64 h.gp, .int .i64 h.ln, .int .i64 h.rf, .int .i64 h.sp, .int .i64 h.pu, .int .i64 h.br, .int .i64 h.dr, .int .i64 h.lv, .int .i64 h.dO, .int .i64 h.ld, .int .i64 h.qu], .agg #[.int .i64 c.pos, .int .i64 c.vel, .int .i64 c.door], .int .i64 f] w (isCmd w x) := hx ▸ commandTo_any h o c f f1 f2 p1 p2 v1 v2 w
theorem step_vel {h : Hs} {c : Cs} {x : Cm} {d : Int} (k : CarOk h c) : -h.sp ≤ (stepC h c x d).vel ∧ (stepC h c x d).vel ≤ h.sp := by
  have o := k.ok
  have s1 := o.sp1; have v1 := k.v1; have v2 := k.v2; have r1 := o.br1; have r3 := o.pu1
  have cb := clip_bd h.sp (c.vel + x.push + d) (by omega)
  have bb := brk_in c.vel h.br h.sp v1 v2 (by omega)
  unfold stepC
  split
  · split <;> (dsimp only; omega)
  · split <;> (dsimp only; omega)
theorem carC_in {h : Hs} {g : Cs} (o : h.Ok) (v1 : -h.sp ≤ g.vel) (v2 : g.vel ≤ h.sp) (dz : g.door = 0) : (h.carC g = 0) ↔ inB g.pos h.low h.high = true := by
  have d1 := o.do1
  have a : inB g.vel (-h.sp) h.sp = true := inB_yes v1 v2
  have b : inB g.door 0 h.dO = true := by rw [dz]; exact inB_yes (by omega) (by omega)
  unfold Hs.carC Hs.carR
  rw [a, b]
  cases inB g.pos h.low h.high
  · simp
  · simp [dz]
set_option maxRecDepth 20000 in
set_option maxHeartbeats 16000000 in
theorem runOf_any (h : Hs) (c : Cs) (f t : Int) (hk : h.car c = 0) (hi : inB f (-1) h.fl = true) (ht : inB t 0 3000 = true) (dz : c.door = 0) (R : Int × Int × Cs) (hR : Hs.runK h f t t.toNat c 0 = R) (w : World) :
    Calls Try.prog 29 #[.agg #[.int .i64 h.fl, .int .i64 h.gp, .int .i64 h.ln, .int .i64 h.rf, .int .i64 h.sp, .int .i64 h.pu, .int .i64 h.br, .int .i64 h.dr, .int .i64 h.lv, .int .i64 h.dO, .int .i64 h.ld, .int .i64 h.qu], .agg #[.int .i64 c.pos, .int .i64 c.vel, .int .i64 c.door], .int .i64 f, .int .i64 t] w (isRun w R.1 R.2.1 R.2.2) := by
  have k := Hs.car_zero hk
  have o := k.ok
  have l1 := o.fl1; have l2 := o.fl2; have dr1 := o.dr1; have p3 := o.pu2; have p4 := o.sp2
  have b1 : -1 ≤ f := (inB_iff.1 hi).1
  have b2 : f ≤ h.fl := (inB_iff.1 hi).2
  have t1 : 0 ≤ t := (inB_iff.1 ht).1
  have t2 : t ≤ 3000 := (inB_iff.1 ht).2
  have HO : Hid h.Ok := o
  have HF : Hid (h.fault = 0) := k.hf
  have HK0 : Hid (CarOk h c) := k
  have HD0 : Hid (c.door = 0) := dz
  have HR : Hid (Hs.runK h f t t.toNat c 0 = R) := hR
  clear o k hR dz hi ht hk
  have F0 : Hid (HAt (((w.alloc (.cells #[.int .i64 h.fl, .int .i64 h.gp, .int .i64 h.ln, .int .i64 h.rf, .int .i64 h.sp, .int .i64 h.pu, .int .i64 h.br, .int .i64 h.dr, .int .i64 h.lv, .int .i64 h.dO, .int .i64 h.ld, .int .i64 h.qu] 25)).alloc (.cells #[.int .i64 c.pos, .int .i64 c.vel, .int .i64 c.door] 27)).alloc (.cells #[.int .i64 0, .int .i64 0, .int .i64 0, .int .i64 0, .int .i64 0] 35)) w.heap.size h) := ((HAt.at_ w h _ _ (by simp)).alloc _).alloc _
  have F1 : Hid (CW (((w.alloc (.cells #[.int .i64 h.fl, .int .i64 h.gp, .int .i64 h.ln, .int .i64 h.rf, .int .i64 h.sp, .int .i64 h.pu, .int .i64 h.br, .int .i64 h.dr, .int .i64 h.lv, .int .i64 h.dO, .int .i64 h.ld, .int .i64 h.qu] 25)).alloc (.cells #[.int .i64 c.pos, .int .i64 c.vel, .int .i64 c.door] 27)).alloc (.cells #[.int .i64 0, .int .i64 0, .int .i64 0, .int .i64 0, .int .i64 0] 35)) (w.heap.size + 1) c) := (CW.at_ _ c _ _ (by simp)).alloc _
  have F2 : Hid (RRun (((w.alloc (.cells #[.int .i64 h.fl, .int .i64 h.gp, .int .i64 h.ln, .int .i64 h.rf, .int .i64 h.sp, .int .i64 h.pu, .int .i64 h.br, .int .i64 h.dr, .int .i64 h.lv, .int .i64 h.dO, .int .i64 h.ld, .int .i64 h.qu] 25)).alloc (.cells #[.int .i64 c.pos, .int .i64 c.vel, .int .i64 c.door] 27)).alloc (.cells #[.int .i64 0, .int .i64 0, .int .i64 0, .int .i64 0, .int .i64 0] 35)) (w.heap.size + 2)) := RRun.at_ _ _ _ (by simp)
  have FB : Hid (Below w.heap.size w (((w.alloc (.cells #[.int .i64 h.fl, .int .i64 h.gp, .int .i64 h.ln, .int .i64 h.rf, .int .i64 h.sp, .int .i64 h.pu, .int .i64 h.br, .int .i64 h.dr, .int .i64 h.lv, .int .i64 h.dO, .int .i64 h.ld, .int .i64 h.qu] 25)).alloc (.cells #[.int .i64 c.pos, .int .i64 c.vel, .int .i64 c.door] 27)).alloc (.cells #[.int .i64 0, .int .i64 0, .int .i64 0, .int .i64 0, .int .i64 0] 35))) := ((((Below.refl _ _).alloc (Nat.le_refl _) _).alloc (by simp) _).alloc (by simp; omega) _)
  go_enter Try.func29, Try.ntmps29
  go_wp2_with fail
  go_loopw [9] (fun nn wr => ∃ (n : Int) (g : Cs), nn = .int .i64 n ∧ 0 ≤ n ∧ n ≤ t ∧ CarOk h g ∧ g.door = 0 ∧ Hs.runK h f t (t - n).toNat g n = R ∧ HAt wr w.heap.size h ∧ CW wr (w.heap.size + 1) g ∧ RRun wr (w.heap.size + 2) ∧ Below w.heap.size w wr) (fun nn _ => (t - intOf nn).toNat)
  case atStart => exact ⟨0, c, rfl, Int.le_refl _, t1, HK0.out, HD0.out, by rw [Int.sub_zero]; exact HR.out, F0.out, F1.out, F2.out, FB.out⟩
  case round =>
    obtain ⟨n, g, rfl, n1, n2, hok, hdz, hrun, hF0, hF1, hF2, hFB⟩ := hrel
    have en := car_env hok
    have HK : Hid (CarOk h g) := hok
    have HD : Hid (g.door = 0) := hdz
    have HRn : Hid (Hs.runK h f t (t - n).toNat g n = R) := hrun
    have F0 : Hid (HAt wr w.heap.size h) := hF0
    have F1 : Hid (CW wr (w.heap.size + 1) g) := hF1
    have F2 : Hid (RRun wr (w.heap.size + 2)) := hF2
    have FB : Hid (Below w.heap.size w wr) := hFB
    clear hok hdz hrun hF0 hF1 hF2 hFB
    obtain ⟨x0_0, x0_1, x0_2, x0_3, x0_4, x0_5, x0_6, x0_7, x0_8, x0_9, x0_10, x0_11⟩ := F0.out
    obtain ⟨x1_0, x1_1, x1_2, y1_0, y1_1, y1_2⟩ := F1.out
    obtain ⟨x2_0, x2_1, x2_2, x2_3, x2_4, y2_0, y2_1, y2_2, y2_3, y2_4⟩ := F2.out
    by_cases hlt : n < t
    · cases hr : ((g.vel == 0) && Hs.near h g f)
      · have hrb : Hs.reachB h g f = false := hr
        obtain ⟨x, hx⟩ : ∃ x, Hs.forC h g f = x := ⟨_, rfl⟩
        have fp := forC_push HO.out g f
        rw [hx] at fp
        have HX : Hid (Hs.forC h g f = x) := hx
        have HP : Hid (-h.pu ≤ x.push ∧ x.push ≤ h.pu) := fp
        obtain ⟨g2, hg2⟩ : ∃ g2, stepC h g x 0 = g2 := ⟨_, rfl⟩
        have HG : Hid (stepC h g x 0 = g2) := hg2
        have sv := step_vel (x := x) (d := 0) HK.out
        rw [hg2] at sv
        have HV : Hid (-h.sp ≤ g2.vel ∧ g2.vel ≤ h.sp) := sv
        have HRB : Hid (Hs.reachB h g f = false) := hrb
        clear hx fp hg2 sv hrb
        go_wp2_with (go_at_call 30; refine (isAtRest_any h HO.out g f b1 b2 (by omega) (by omega) _).mono ?_; rw [hr]; rintro e w3 ⟨rfl, hb⟩; have F0 : Hid (HAt w3 w.heap.size h) := F0.out.below hb F0.out.lt; have F1 : Hid (CW w3 (w.heap.size + 1) g) := F1.out.below hb F1.out.lt; have F2 : Hid (RRun w3 (w.heap.size + 2)) := F2.out.below hb F2.out.lt; have FB : Hid (Below w.heap.size w w3) := FB.out.trans (hb.mono FB.out.size); clear hb; obtain ⟨x0_0, x0_1, x0_2, x0_3, x0_4, x0_5, x0_6, x0_7, x0_8, x0_9, x0_10, x0_11⟩ := F0.out; obtain ⟨x1_0, x1_1, x1_2, y1_0, y1_1, y1_2⟩ := F1.out; obtain ⟨x2_0, x2_1, x2_2, x2_3, x2_4, y2_0, y2_1, y2_2, y2_3, y2_4⟩ := F2.out)
        clear x0_0 x0_1 x0_2 x0_3 x0_4 x0_5 x0_6 x0_7 x0_8 x0_9 x0_10 x0_11 x1_0 x1_1 x1_2 y1_0 y1_1 y1_2 x2_0 x2_1 x2_2 x2_3 x2_4 y2_0 y2_1 y2_2 y2_3 y2_4
        go_cut [9] (fun nn wx => nn = .int .i64 n ∧ HAt wx w.heap.size h ∧ CW wx (w.heap.size + 1) g2 ∧ RRun wx (w.heap.size + 2) ∧ Below w.heap.size w wx)
        case first =>
          have F0 : Hid (HAt w3.drew w.heap.size h) := F0.out.below (Below.refl _ _).drew F0.out.lt
          have F1 : Hid (CW w3.drew (w.heap.size + 1) g) := F1.out.below (Below.refl _ _).drew F1.out.lt
          have F2 : Hid (RRun w3.drew (w.heap.size + 2)) := F2.out.below (Below.refl _ _).drew F2.out.lt
          have FB : Hid (Below w.heap.size w w3.drew) := FB.out.drew
          obtain ⟨x0_0, x0_1, x0_2, x0_3, x0_4, x0_5, x0_6, x0_7, x0_8, x0_9, x0_10, x0_11⟩ := F0.out
          refine wp_region_held_drew (S := (fun w'' => w''.cell? ⟨w.heap.size, 0, none⟩ = some (.int .i64 h.fl) ∧ w''.cell? ⟨w.heap.size, 1, none⟩ = some (.int .i64 h.gp) ∧ w''.cell? ⟨w.heap.size, 2, none⟩ = some (.int .i64 h.ln) ∧ w''.cell? ⟨w.heap.size, 3, none⟩ = some (.int .i64 h.rf) ∧ w''.cell? ⟨w.heap.size, 4, none⟩ = some (.int .i64 h.sp) ∧ w''.cell? ⟨w.heap.size, 5, none⟩ = some (.int .i64 h.pu) ∧ w''.cell? ⟨w.heap.size, 6, none⟩ = some (.int .i64 h.br) ∧ w''.cell? ⟨w.heap.size, 7, none⟩ = some (.int .i64 h.dr) ∧ w''.cell? ⟨w.heap.size, 8, none⟩ = some (.int .i64 h.lv) ∧ w''.cell? ⟨w.heap.size, 9, none⟩ = some (.int .i64 h.dO) ∧ w''.cell? ⟨w.heap.size, 10, none⟩ = some (.int .i64 h.ld) ∧ w''.cell? ⟨w.heap.size, 11, none⟩ = some (.int .i64 h.qu))) (by kernel_rfl) (by (try dsimp only); first | exact ⟨x0_0, x0_1, x0_2, x0_3, x0_4, x0_5, x0_6, x0_7, x0_8, x0_9, x0_10, x0_11⟩ | go_keep) (fun hHeld => ?_)
          obtain ⟨v_1, hw1⟩ : ∃ v_1, v_1 = w3.drew := ⟨_, rfl⟩
          have F0 : Hid (HAt v_1 w.heap.size h) := by rw [hw1]; exact F0.out
          have F1 : Hid (CW v_1 (w.heap.size + 1) g) := by rw [hw1]; exact F1.out
          have F2 : Hid (RRun v_1 (w.heap.size + 2)) := by rw [hw1]; exact F2.out
          have FB : Hid (Below w.heap.size w v_1) := by rw [hw1]; exact FB.out
          rw [← hw1] at hHeld ⊢
          clear hw1
          obtain ⟨x0_0, x0_1, x0_2, x0_3, x0_4, x0_5, x0_6, x0_7, x0_8, x0_9, x0_10, x0_11⟩ := F0.out
          refine tkz 0 rfl ?_
          refine tkz 2 rfl ?_
          refine tkz 4 rfl ?_
          refine wpAnyH_ready (rs := [1, 3]) (by kernel_rfl) (by simp) ?_
          refine (AllReadyH.cons rfl (fun K hK => ?_) (AllReadyH.cons rfl (fun K hK => ?_) AllReadyH.nil))
          · obtain ⟨x1_0, x1_1, x1_2, y1_0, y1_1, y1_2⟩ := F1.out
            go_simp
            refine hK.out _ _ (by (try dsimp only); first | exact ⟨x0_0, x0_1, x0_2, x0_3, x0_4, x0_5, x0_6, x0_7, x0_8, x0_9, x0_10, x0_11⟩ | go_keep) (fun hHeld => ?_)
            clear hK K
            try simp only [Act.put, List.getElem_toArray, List.getElem_cons_succ, List.getElem_cons_zero, List.setIfInBounds_toArray, List.set_cons_zero, List.set_cons_succ]
            refine wpAnyH_ready (rs := [3]) (by kernel_rfl) (by simp) ?_
            refine (AllReadyH.cons rfl (fun K hK => ?_) AllReadyH.nil)
            obtain ⟨x1_0, x1_1, x1_2, y1_0, y1_1, y1_2⟩ := F1.out
            go_simp
            refine hK.out _ _ (by (try dsimp only); first | exact ⟨x0_0, x0_1, x0_2, x0_3, x0_4, x0_5, x0_6, x0_7, x0_8, x0_9, x0_10, x0_11⟩ | go_keep) (fun hHeld => ?_)
            clear hK K
            try simp only [Act.put, List.getElem_toArray, List.getElem_cons_succ, List.getElem_cons_zero, List.setIfInBounds_toArray, List.set_cons_zero, List.set_cons_succ]
            refine wpAnyH_ready (rs := [5]) (by kernel_rfl) (by simp) ?_
            refine (AllReadyH.cons rfl (fun K hK => ?_) AllReadyH.nil)
            go_simp
            refine (commandTo_x h HO.out g f b1 b2 (by omega) (by omega) (by omega) (by omega) x HX.out _).mono ?_
            rintro e v_2 ⟨rfl, hb⟩
            have F0 : Hid (HAt v_2 w.heap.size h) := F0.out.below hb F0.out.lt
            have F1 : Hid (CW v_2 (w.heap.size + 1) g) := F1.out.below hb F1.out.lt
            have F2 : Hid (RRun v_2 (w.heap.size + 2)) := F2.out.below hb F2.out.lt
            have FB : Hid (Below w.heap.size w v_2) := FB.out.trans (hb.mono FB.out.size)
            clear hb
            obtain ⟨x0_0, x0_1, x0_2, x0_3, x0_4, x0_5, x0_6, x0_7, x0_8, x0_9, x0_10, x0_11⟩ := F0.out
            try dsimp only
            refine hK.out _ _ (by (try dsimp only); first | exact ⟨x0_0, x0_1, x0_2, x0_3, x0_4, x0_5, x0_6, x0_7, x0_8, x0_9, x0_10, x0_11⟩ | go_keep) (fun hHeld => ?_)
            clear hK K
            try simp only [Act.put, List.getElem_toArray, List.getElem_cons_succ, List.getElem_cons_zero, List.setIfInBounds_toArray, List.set_cons_zero, List.set_cons_succ]
            refine wpAnyH_ready (rs := [6]) (by kernel_rfl) (by simp) ?_
            refine (AllReadyH.cons rfl (fun K hK => ?_) AllReadyH.nil)
            go_simp
            refine (carBehind_any h g x 0 HK.out HP.out.1 HP.out.2 (by omega) (by omega) g2 HG.out _).mono ?_
            rintro e v_3 ⟨rfl, hb⟩
            have F0 : Hid (HAt v_3 w.heap.size h) := F0.out.below hb F0.out.lt
            have F1 : Hid (CW v_3 (w.heap.size + 1) g) := F1.out.below hb F1.out.lt
            have F2 : Hid (RRun v_3 (w.heap.size + 2)) := F2.out.below hb F2.out.lt
            have FB : Hid (Below w.heap.size w v_3) := FB.out.trans (hb.mono FB.out.size)
            clear hb
            obtain ⟨x0_0, x0_1, x0_2, x0_3, x0_4, x0_5, x0_6, x0_7, x0_8, x0_9, x0_10, x0_11⟩ := F0.out
            try dsimp only
            refine hK.out _ _ (by (try dsimp only); first | exact ⟨x0_0, x0_1, x0_2, x0_3, x0_4, x0_5, x0_6, x0_7, x0_8, x0_9, x0_10, x0_11⟩ | go_keep) (fun hHeld => ?_)
            clear hK K
            try simp only [Act.put, List.getElem_toArray, List.getElem_cons_succ, List.getElem_cons_zero, List.setIfInBounds_toArray, List.set_cons_zero, List.set_cons_succ]
            refine wpAnyH_ready (rs := [7]) (by kernel_rfl) (by simp) ?_
            refine (AllReadyH.cons rfl (fun K hK => ?_) AllReadyH.nil)
            obtain ⟨x1_0, x1_1, x1_2, y1_0, y1_1, y1_2⟩ := F1.out
            go_simp
            obtain ⟨v_4, hw2⟩ : ∃ v_4, v_4 = putC v_3 (w.heap.size + 1) g2 := ⟨_, rfl⟩
            change K _ (putC v_3 (w.heap.size + 1) g2)
            rw [← hw2]
            clear x1_0 x1_1 x1_2 y1_0 y1_1 y1_2
            have F0 : Hid (HAt v_4 w.heap.size h) := by rw [hw2]; exact F0.out.below (below_putC (Below.refl _ _) (Nat.le_refl _) g2) (by omega)
            have F1 : Hid (CW v_4 (w.heap.size + 1) g2) := by rw [hw2]; exact F1.out.putC g2
            have F2 : Hid (RRun v_4 (w.heap.size + 2)) := by rw [hw2]; exact F2.out.putC_other (by omega) g2
            have FB : Hid (Below w.heap.size w v_4) := by rw [hw2]; exact below_putC FB.out (by omega) g2
            clear hw2
            obtain ⟨x0_0, x0_1, x0_2, x0_3, x0_4, x0_5, x0_6, x0_7, x0_8, x0_9, x0_10, x0_11⟩ := F0.out
            refine hK.out _ _ (by (try dsimp only); first | exact ⟨x0_0, x0_1, x0_2, x0_3, x0_4, x0_5, x0_6, x0_7, x0_8, x0_9, x0_10, x0_11⟩ | go_keep) (fun hHeld => ?_)
            clear hK K
            try simp only [Act.put, List.getElem_toArray, List.getElem_cons_succ, List.getElem_cons_zero, List.setIfInBounds_toArray, List.set_cons_zero, List.set_cons_succ]
            refine wpAnyH_done (by kernel_rfl) ?_ _
            go_wp2_with fail
            go_meet
            case rel => exact ⟨rfl, F0.out, F1.out, F2.out, FB.out⟩
          · obtain ⟨x1_0, x1_1, x1_2, y1_0, y1_1, y1_2⟩ := F1.out
            go_simp
            refine hK.out _ _ (by (try dsimp only); first | exact ⟨x0_0, x0_1, x0_2, x0_3, x0_4, x0_5, x0_6, x0_7, x0_8, x0_9, x0_10, x0_11⟩ | go_keep) (fun hHeld => ?_)
            clear hK K
            try simp only [Act.put, List.getElem_toArray, List.getElem_cons_succ, List.getElem_cons_zero, List.setIfInBounds_toArray, List.set_cons_zero, List.set_cons_succ]
            refine wpAnyH_ready (rs := [1, 5]) (by kernel_rfl) (by simp) ?_
            refine (AllReadyH.cons rfl (fun K hK => ?_) (AllReadyH.cons rfl (fun K hK => ?_) AllReadyH.nil))
            · obtain ⟨x1_0, x1_1, x1_2, y1_0, y1_1, y1_2⟩ := F1.out
              go_simp
              refine hK.out _ _ (by (try dsimp only); first | exact ⟨x0_0, x0_1, x0_2, x0_3, x0_4, x0_5, x0_6, x0_7, x0_8, x0_9, x0_10, x0_11⟩ | go_keep) (fun hHeld => ?_)
              clear hK K
              try simp only [Act.put, List.getElem_toArray, List.getElem_cons_succ, List.getElem_cons_zero, List.setIfInBounds_toArray, List.set_cons_zero, List.set_cons_succ]
              refine wpAnyH_ready (rs := [5]) (by kernel_rfl) (by simp) ?_
              refine (AllReadyH.cons rfl (fun K hK => ?_) AllReadyH.nil)
              go_simp
              refine (commandTo_x h HO.out g f b1 b2 (by omega) (by omega) (by omega) (by omega) x HX.out _).mono ?_
              rintro e v_5 ⟨rfl, hb⟩
              have F0 : Hid (HAt v_5 w.heap.size h) := F0.out.below hb F0.out.lt
              have F1 : Hid (CW v_5 (w.heap.size + 1) g) := F1.out.below hb F1.out.lt
              have F2 : Hid (RRun v_5 (w.heap.size + 2)) := F2.out.below hb F2.out.lt
              have FB : Hid (Below w.heap.size w v_5) := FB.out.trans (hb.mono FB.out.size)
              clear hb
              obtain ⟨x0_0, x0_1, x0_2, x0_3, x0_4, x0_5, x0_6, x0_7, x0_8, x0_9, x0_10, x0_11⟩ := F0.out
              try dsimp only
              refine hK.out _ _ (by (try dsimp only); first | exact ⟨x0_0, x0_1, x0_2, x0_3, x0_4, x0_5, x0_6, x0_7, x0_8, x0_9, x0_10, x0_11⟩ | go_keep) (fun hHeld => ?_)
              clear hK K
              try simp only [Act.put, List.getElem_toArray, List.getElem_cons_succ, List.getElem_cons_zero, List.setIfInBounds_toArray, List.set_cons_zero, List.set_cons_succ]
              refine wpAnyH_ready (rs := [6]) (by kernel_rfl) (by simp) ?_
              refine (AllReadyH.cons rfl (fun K hK => ?_) AllReadyH.nil)
              go_simp
              refine (carBehind_any h g x 0 HK.out HP.out.1 HP.out.2 (by omega) (by omega) g2 HG.out _).mono ?_
              rintro e v_6 ⟨rfl, hb⟩
              have F0 : Hid (HAt v_6 w.heap.size h) := F0.out.below hb F0.out.lt
              have F1 : Hid (CW v_6 (w.heap.size + 1) g) := F1.out.below hb F1.out.lt
              have F2 : Hid (RRun v_6 (w.heap.size + 2)) := F2.out.below hb F2.out.lt
              have FB : Hid (Below w.heap.size w v_6) := FB.out.trans (hb.mono FB.out.size)
              clear hb
              obtain ⟨x0_0, x0_1, x0_2, x0_3, x0_4, x0_5, x0_6, x0_7, x0_8, x0_9, x0_10, x0_11⟩ := F0.out
              try dsimp only
              refine hK.out _ _ (by (try dsimp only); first | exact ⟨x0_0, x0_1, x0_2, x0_3, x0_4, x0_5, x0_6, x0_7, x0_8, x0_9, x0_10, x0_11⟩ | go_keep) (fun hHeld => ?_)
              clear hK K
              try simp only [Act.put, List.getElem_toArray, List.getElem_cons_succ, List.getElem_cons_zero, List.setIfInBounds_toArray, List.set_cons_zero, List.set_cons_succ]
              refine wpAnyH_ready (rs := [7]) (by kernel_rfl) (by simp) ?_
              refine (AllReadyH.cons rfl (fun K hK => ?_) AllReadyH.nil)
              obtain ⟨x1_0, x1_1, x1_2, y1_0, y1_1, y1_2⟩ := F1.out
              go_simp
              obtain ⟨v_7, hw2⟩ : ∃ v_7, v_7 = putC v_6 (w.heap.size + 1) g2 := ⟨_, rfl⟩
              change K _ (putC v_6 (w.heap.size + 1) g2)
              rw [← hw2]
              clear x1_0 x1_1 x1_2 y1_0 y1_1 y1_2
              have F0 : Hid (HAt v_7 w.heap.size h) := by rw [hw2]; exact F0.out.below (below_putC (Below.refl _ _) (Nat.le_refl _) g2) (by omega)
              have F1 : Hid (CW v_7 (w.heap.size + 1) g2) := by rw [hw2]; exact F1.out.putC g2
              have F2 : Hid (RRun v_7 (w.heap.size + 2)) := by rw [hw2]; exact F2.out.putC_other (by omega) g2
              have FB : Hid (Below w.heap.size w v_7) := by rw [hw2]; exact below_putC FB.out (by omega) g2
              clear hw2
              obtain ⟨x0_0, x0_1, x0_2, x0_3, x0_4, x0_5, x0_6, x0_7, x0_8, x0_9, x0_10, x0_11⟩ := F0.out
              refine hK.out _ _ (by (try dsimp only); first | exact ⟨x0_0, x0_1, x0_2, x0_3, x0_4, x0_5, x0_6, x0_7, x0_8, x0_9, x0_10, x0_11⟩ | go_keep) (fun hHeld => ?_)
              clear hK K
              try simp only [Act.put, List.getElem_toArray, List.getElem_cons_succ, List.getElem_cons_zero, List.setIfInBounds_toArray, List.set_cons_zero, List.set_cons_succ]
              refine wpAnyH_done (by kernel_rfl) ?_ _
              go_wp2_with fail
              go_meet
              case rel => exact ⟨rfl, F0.out, F1.out, F2.out, FB.out⟩
            · go_simp
              refine (commandTo_x h HO.out g f b1 b2 (by omega) (by omega) (by omega) (by omega) x HX.out _).mono ?_
              rintro e v_8 ⟨rfl, hb⟩
              have F0 : Hid (HAt v_8 w.heap.size h) := F0.out.below hb F0.out.lt
              have F1 : Hid (CW v_8 (w.heap.size + 1) g) := F1.out.below hb F1.out.lt
              have F2 : Hid (RRun v_8 (w.heap.size + 2)) := F2.out.below hb F2.out.lt
              have FB : Hid (Below w.heap.size w v_8) := FB.out.trans (hb.mono FB.out.size)
              clear hb
              obtain ⟨x0_0, x0_1, x0_2, x0_3, x0_4, x0_5, x0_6, x0_7, x0_8, x0_9, x0_10, x0_11⟩ := F0.out
              try dsimp only
              refine hK.out _ _ (by (try dsimp only); first | exact ⟨x0_0, x0_1, x0_2, x0_3, x0_4, x0_5, x0_6, x0_7, x0_8, x0_9, x0_10, x0_11⟩ | go_keep) (fun hHeld => ?_)
              clear hK K
              try simp only [Act.put, List.getElem_toArray, List.getElem_cons_succ, List.getElem_cons_zero, List.setIfInBounds_toArray, List.set_cons_zero, List.set_cons_succ]
              refine wpAnyH_ready (rs := [1]) (by kernel_rfl) (by simp) ?_
              refine (AllReadyH.cons rfl (fun K hK => ?_) AllReadyH.nil)
              obtain ⟨x1_0, x1_1, x1_2, y1_0, y1_1, y1_2⟩ := F1.out
              go_simp
              refine hK.out _ _ (by (try dsimp only); first | exact ⟨x0_0, x0_1, x0_2, x0_3, x0_4, x0_5, x0_6, x0_7, x0_8, x0_9, x0_10, x0_11⟩ | go_keep) (fun hHeld => ?_)
              clear hK K
              try simp only [Act.put, List.getElem_toArray, List.getElem_cons_succ, List.getElem_cons_zero, List.setIfInBounds_toArray, List.set_cons_zero, List.set_cons_succ]
              refine wpAnyH_ready (rs := [6]) (by kernel_rfl) (by simp) ?_
              refine (AllReadyH.cons rfl (fun K hK => ?_) AllReadyH.nil)
              go_simp
              refine (carBehind_any h g x 0 HK.out HP.out.1 HP.out.2 (by omega) (by omega) g2 HG.out _).mono ?_
              rintro e v_9 ⟨rfl, hb⟩
              have F0 : Hid (HAt v_9 w.heap.size h) := F0.out.below hb F0.out.lt
              have F1 : Hid (CW v_9 (w.heap.size + 1) g) := F1.out.below hb F1.out.lt
              have F2 : Hid (RRun v_9 (w.heap.size + 2)) := F2.out.below hb F2.out.lt
              have FB : Hid (Below w.heap.size w v_9) := FB.out.trans (hb.mono FB.out.size)
              clear hb
              obtain ⟨x0_0, x0_1, x0_2, x0_3, x0_4, x0_5, x0_6, x0_7, x0_8, x0_9, x0_10, x0_11⟩ := F0.out
              try dsimp only
              refine hK.out _ _ (by (try dsimp only); first | exact ⟨x0_0, x0_1, x0_2, x0_3, x0_4, x0_5, x0_6, x0_7, x0_8, x0_9, x0_10, x0_11⟩ | go_keep) (fun hHeld => ?_)
              clear hK K
              try simp only [Act.put, List.getElem_toArray, List.getElem_cons_succ, List.getElem_cons_zero, List.setIfInBounds_toArray, List.set_cons_zero, List.set_cons_succ]
              refine wpAnyH_ready (rs := [7]) (by kernel_rfl) (by simp) ?_
              refine (AllReadyH.cons rfl (fun K hK => ?_) AllReadyH.nil)
              obtain ⟨x1_0, x1_1, x1_2, y1_0, y1_1, y1_2⟩ := F1.out
              go_simp
              obtain ⟨v_10, hw2⟩ : ∃ v_10, v_10 = putC v_9 (w.heap.size + 1) g2 := ⟨_, rfl⟩
              change K _ (putC v_9 (w.heap.size + 1) g2)
              rw [← hw2]
              clear x1_0 x1_1 x1_2 y1_0 y1_1 y1_2
              have F0 : Hid (HAt v_10 w.heap.size h) := by rw [hw2]; exact F0.out.below (below_putC (Below.refl _ _) (Nat.le_refl _) g2) (by omega)
              have F1 : Hid (CW v_10 (w.heap.size + 1) g2) := by rw [hw2]; exact F1.out.putC g2
              have F2 : Hid (RRun v_10 (w.heap.size + 2)) := by rw [hw2]; exact F2.out.putC_other (by omega) g2
              have FB : Hid (Below w.heap.size w v_10) := by rw [hw2]; exact below_putC FB.out (by omega) g2
              clear hw2
              obtain ⟨x0_0, x0_1, x0_2, x0_3, x0_4, x0_5, x0_6, x0_7, x0_8, x0_9, x0_10, x0_11⟩ := F0.out
              refine hK.out _ _ (by (try dsimp only); first | exact ⟨x0_0, x0_1, x0_2, x0_3, x0_4, x0_5, x0_6, x0_7, x0_8, x0_9, x0_10, x0_11⟩ | go_keep) (fun hHeld => ?_)
              clear hK K
              try simp only [Act.put, List.getElem_toArray, List.getElem_cons_succ, List.getElem_cons_zero, List.setIfInBounds_toArray, List.set_cons_zero, List.set_cons_succ]
              refine wpAnyH_done (by kernel_rfl) ?_ _
              go_wp2_with fail
              go_meet
              case rel => exact ⟨rfl, F0.out, F1.out, F2.out, FB.out⟩
        case rest =>
          obtain ⟨rfl, hh, hc, hr2, hB⟩ := hcut
          have F0 : Hid (HAt wc w.heap.size h) := hh
          have F1 : Hid (CW wc (w.heap.size + 1) g2) := hc
          have F2 : Hid (RRun wc (w.heap.size + 2)) := hr2
          have FB : Hid (Below w.heap.size w wc) := hB
          clear hh hc hr2 hB
          have e1 : (t - n).toNat = (t - (n + 1)).toNat + 1 := by omega
          have eg : stepC h g (Hs.forC h g f) 0 = g2 := by rw [HX.out]; exact HG.out
          have HS : Hid (stepC h g (Hs.forC h g f) 0 = g2) := eg
          have hd2 := step_door (h := h) (f := f) HD.out
          rw [eg] at hd2
          have HD2 : Hid (g2.door = 0) := hd2
          have hrun := HRn.out
          rw [e1] at hrun
          have HRN : Hid (Hs.runK h f t ((t - (n + 1)).toNat + 1) g n = R) := hrun
          have HI : Hid ((h.carC g2 = 0) ↔ inB g2.pos h.low h.high = true) := carC_in HO.out HV.out.1 HV.out.2 hd2
          clear hd2 eg e1 hrun
          obtain ⟨x0_0, x0_1, x0_2, x0_3, x0_4, x0_5, x0_6, x0_7, x0_8, x0_9, x0_10, x0_11⟩ := F0.out
          obtain ⟨x1_0, x1_1, x1_2, y1_0, y1_1, y1_2⟩ := F1.out
          obtain ⟨x2_0, x2_1, x2_2, x2_3, x2_4, y2_0, y2_1, y2_2, y2_3, y2_4⟩ := F2.out
          cases hc2 : inB g2.pos h.low h.high with
          | true =>
            have HC2 : Hid (h.carC g2 = 0) := HI.out.2 hc2
            go_wp2_with (go_at_call 49; refine (isInShaft_any h HO.out g2 _).mono ?_; rw [hc2]; rintro e w5 ⟨rfl, hb⟩; have F0 : Hid (HAt w5 w.heap.size h) := F0.out.below hb F0.out.lt; have F1 : Hid (CW w5 (w.heap.size + 1) g2) := F1.out.below hb F1.out.lt; have F2 : Hid (RRun w5 (w.heap.size + 2)) := F2.out.below hb F2.out.lt; have FB : Hid (Below w.heap.size w w5) := FB.out.trans (hb.mono FB.out.size); clear hb; obtain ⟨x0_0, x0_1, x0_2, x0_3, x0_4, x0_5, x0_6, x0_7, x0_8, x0_9, x0_10, x0_11⟩ := F0.out; obtain ⟨x1_0, x1_1, x1_2, y1_0, y1_1, y1_2⟩ := F1.out; obtain ⟨x2_0, x2_1, x2_2, x2_3, x2_4, y2_0, y2_1, y2_2, y2_3, y2_4⟩ := F2.out)
            go_roundw
            case rel => exact ⟨n + 1, g2, rfl, by omega, by omega, Hs.car_zero (by rw [Hs.car_ok HF.out]; exact HC2.out), HD2.out, by rw [← HRN.out, runK_go ⟨hlt, HRB.out⟩ (by rw [HS.out]; exact HC2.out), HS.out], F0.out, F1.out, F2.out, FB.out⟩
            case measure => simp [intOf]; omega
          | false =>
            have HRv : Hid (R = (3, 0, ⟨0, 0, 0⟩)) := by rw [← HRN.out]; exact runK_bad ⟨hlt, HRB.out⟩ (by rw [HS.out]; intro e; have := HI.out.1 e; rw [hc2] at this; exact Bool.noConfusion this)
            go_wp2_with (go_at_call 49; refine (isInShaft_any h HO.out g2 _).mono ?_; rw [hc2]; rintro e w5 ⟨rfl, hb⟩; have F0 : Hid (HAt w5 w.heap.size h) := F0.out.below hb F0.out.lt; have F1 : Hid (CW w5 (w.heap.size + 1) g2) := F1.out.below hb F1.out.lt; have F2 : Hid (RRun w5 (w.heap.size + 2)) := F2.out.below hb F2.out.lt; have FB : Hid (Below w.heap.size w w5) := FB.out.trans (hb.mono FB.out.size); clear hb; obtain ⟨x0_0, x0_1, x0_2, x0_3, x0_4, x0_5, x0_6, x0_7, x0_8, x0_9, x0_10, x0_11⟩ := F0.out; obtain ⟨x1_0, x1_1, x1_2, y1_0, y1_1, y1_2⟩ := F1.out; obtain ⟨x2_0, x2_1, x2_2, x2_3, x2_4, y2_0, y2_1, y2_2, y2_3, y2_4⟩ := F2.out)
            rw [HRv.out]
            exact bodyPost_ret (v := .agg #[.int .i64 3, .int .i64 0, .int .i64 0, .int .i64 0, .int .i64 0]) (by simp [results, Try.results29, go_sem, x2_0, x2_1, x2_2, x2_3, x2_4]) rfl ⟨rfl, by repeat (first | exact FB.out | (refine Below.setCell ?_ (by simp <;> omega) _))⟩
      · have hrb : Hs.reachB h g f = true := hr
        have HRv : Hid (R = (0, n, g)) := by rw [← HRn.out]; exact runK_stop (by rw [hrb]; simp)
        clear hrb
        go_wp2_with (go_at_call 30; refine (isAtRest_any h HO.out g f b1 b2 (by omega) (by omega) _).mono ?_; rw [hr]; rintro e w3 ⟨rfl, hb⟩; have F0 : Hid (HAt w3 w.heap.size h) := F0.out.below hb F0.out.lt; have F1 : Hid (CW w3 (w.heap.size + 1) g) := F1.out.below hb F1.out.lt; have F2 : Hid (RRun w3 (w.heap.size + 2)) := F2.out.below hb F2.out.lt; have FB : Hid (Below w.heap.size w w3) := FB.out.trans (hb.mono FB.out.size); clear hb; obtain ⟨x0_0, x0_1, x0_2, x0_3, x0_4, x0_5, x0_6, x0_7, x0_8, x0_9, x0_10, x0_11⟩ := F0.out; obtain ⟨x1_0, x1_1, x1_2, y1_0, y1_1, y1_2⟩ := F1.out; obtain ⟨x2_0, x2_1, x2_2, x2_3, x2_4, y2_0, y2_1, y2_2, y2_3, y2_4⟩ := F2.out)
        rw [HRv.out]
        exact bodyPost_ret (v := .agg #[.int .i64 0, .int .i64 n, .int .i64 g.pos, .int .i64 g.vel, .int .i64 g.door]) (by simp [results, Try.results29, go_sem, x2_0, x2_1, x2_2, x2_3, x2_4]) rfl ⟨rfl, by repeat (first | exact FB.out | (refine Below.setCell ?_ (by simp <;> omega) _))⟩
    · have HRv : Hid (R = (0, n, g)) := by rw [← HRn.out]; exact runK_stop (fun e => hlt e.1)
      go_wp2
      rw [HRv.out]
      exact bodyPost_ret (v := .agg #[.int .i64 0, .int .i64 n, .int .i64 g.pos, .int .i64 g.vel, .int .i64 g.door]) (by simp [results, Try.results29, go_sem, x2_0, x2_1, x2_2, x2_3, x2_4]) rfl ⟨rfl, by repeat (first | exact FB.out | (refine Below.setCell ?_ (by simp <;> omega) _))⟩
set_option maxRecDepth 20000 in
set_option maxHeartbeats 4000000 in
theorem implRunTo_no (h : Hs) (c : Cs) (f t : Int) (hk : h.car c ≠ 0) (w : World) :
    Calls Try.prog 9 #[.agg #[.int .i64 h.fl, .int .i64 h.gp, .int .i64 h.ln, .int .i64 h.rf, .int .i64 h.sp, .int .i64 h.pu, .int .i64 h.br, .int .i64 h.dr, .int .i64 h.lv, .int .i64 h.dO, .int .i64 h.ld, .int .i64 h.qu], .agg #[.int .i64 c.pos, .int .i64 c.vel, .int .i64 c.door], .int .i64 f, .int .i64 t] w (isRun w (h.car c) 0 ⟨0, 0, 0⟩) := by
  have hn : (h.car c != 0) = true := by simpa using hk
  clear hk
  have F0 : Hid (HAt (((w.alloc (.cells #[.int .i64 h.fl, .int .i64 h.gp, .int .i64 h.ln, .int .i64 h.rf, .int .i64 h.sp, .int .i64 h.pu, .int .i64 h.br, .int .i64 h.dr, .int .i64 h.lv, .int .i64 h.dO, .int .i64 h.ld, .int .i64 h.qu] 25)).alloc (.cells #[.int .i64 c.pos, .int .i64 c.vel, .int .i64 c.door] 27)).alloc (.cells #[.int .i64 0, .int .i64 0, .int .i64 0, .int .i64 0, .int .i64 0] 35)) w.heap.size h) := ((HAt.at_ w h _ _ (by simp)).alloc _).alloc _
  have F1 : Hid (CW (((w.alloc (.cells #[.int .i64 h.fl, .int .i64 h.gp, .int .i64 h.ln, .int .i64 h.rf, .int .i64 h.sp, .int .i64 h.pu, .int .i64 h.br, .int .i64 h.dr, .int .i64 h.lv, .int .i64 h.dO, .int .i64 h.ld, .int .i64 h.qu] 25)).alloc (.cells #[.int .i64 c.pos, .int .i64 c.vel, .int .i64 c.door] 27)).alloc (.cells #[.int .i64 0, .int .i64 0, .int .i64 0, .int .i64 0, .int .i64 0] 35)) (w.heap.size + 1) c) := (CW.at_ _ c _ _ (by simp)).alloc _
  have F2 : Hid (RRun (((w.alloc (.cells #[.int .i64 h.fl, .int .i64 h.gp, .int .i64 h.ln, .int .i64 h.rf, .int .i64 h.sp, .int .i64 h.pu, .int .i64 h.br, .int .i64 h.dr, .int .i64 h.lv, .int .i64 h.dO, .int .i64 h.ld, .int .i64 h.qu] 25)).alloc (.cells #[.int .i64 c.pos, .int .i64 c.vel, .int .i64 c.door] 27)).alloc (.cells #[.int .i64 0, .int .i64 0, .int .i64 0, .int .i64 0, .int .i64 0] 35)) (w.heap.size + 2)) := RRun.at_ _ _ _ (by simp)
  have FB : Hid (Below w.heap.size w (((w.alloc (.cells #[.int .i64 h.fl, .int .i64 h.gp, .int .i64 h.ln, .int .i64 h.rf, .int .i64 h.sp, .int .i64 h.pu, .int .i64 h.br, .int .i64 h.dr, .int .i64 h.lv, .int .i64 h.dO, .int .i64 h.ld, .int .i64 h.qu] 25)).alloc (.cells #[.int .i64 c.pos, .int .i64 c.vel, .int .i64 c.door] 27)).alloc (.cells #[.int .i64 0, .int .i64 0, .int .i64 0, .int .i64 0, .int .i64 0] 35))) := ((((Below.refl _ _).alloc (Nat.le_refl _) _).alloc (by simp) _).alloc (by simp; omega) _)
  go_enter Try.func9, Try.ntmps9
  go_wp2_with (go_at_call 20; refine (implCarFault_any h c _).mono ?_; rintro e w1 ⟨rfl, hb⟩; have F0 : Hid (HAt w1 w.heap.size h) := F0.out.below hb F0.out.lt; have F1 : Hid (CW w1 (w.heap.size + 1) c) := F1.out.below hb F1.out.lt; have F2 : Hid (RRun w1 (w.heap.size + 2)) := F2.out.below hb F2.out.lt; have FB : Hid (Below w.heap.size w w1) := FB.out.trans (hb.mono FB.out.size); clear hb; obtain ⟨x0_0, x0_1, x0_2, x0_3, x0_4, x0_5, x0_6, x0_7, x0_8, x0_9, x0_10, x0_11⟩ := F0.out; obtain ⟨x1_0, x1_1, x1_2, y1_0, y1_1, y1_2⟩ := F1.out; obtain ⟨x2_0, x2_1, x2_2, x2_3, x2_4, y2_0, y2_1, y2_2, y2_3, y2_4⟩ := F2.out)
  exact bodyPost_ret (v := .agg #[.int .i64 (h.car c), .int .i64 0, .int .i64 0, .int .i64 0, .int .i64 0]) (by simp [results, Try.results9, go_sem, x2_0, x2_1, x2_2, x2_3, x2_4]) rfl ⟨rfl, by repeat (first | exact FB.out | (refine Below.setCell ?_ (by simp <;> omega) _))⟩
set_option maxRecDepth 20000 in
set_option maxHeartbeats 4000000 in
theorem implRunTo_f (h : Hs) (c : Cs) (f t : Int) (hk : h.car c = 0) (hi : inB f (-1) h.fl = false) (w : World) :
    Calls Try.prog 9 #[.agg #[.int .i64 h.fl, .int .i64 h.gp, .int .i64 h.ln, .int .i64 h.rf, .int .i64 h.sp, .int .i64 h.pu, .int .i64 h.br, .int .i64 h.dr, .int .i64 h.lv, .int .i64 h.dO, .int .i64 h.ld, .int .i64 h.qu], .agg #[.int .i64 c.pos, .int .i64 c.vel, .int .i64 c.door], .int .i64 f, .int .i64 t] w (isRun w 3 0 ⟨0, 0, 0⟩) := by
  have F0 : Hid (HAt (((w.alloc (.cells #[.int .i64 h.fl, .int .i64 h.gp, .int .i64 h.ln, .int .i64 h.rf, .int .i64 h.sp, .int .i64 h.pu, .int .i64 h.br, .int .i64 h.dr, .int .i64 h.lv, .int .i64 h.dO, .int .i64 h.ld, .int .i64 h.qu] 25)).alloc (.cells #[.int .i64 c.pos, .int .i64 c.vel, .int .i64 c.door] 27)).alloc (.cells #[.int .i64 0, .int .i64 0, .int .i64 0, .int .i64 0, .int .i64 0] 35)) w.heap.size h) := ((HAt.at_ w h _ _ (by simp)).alloc _).alloc _
  have F1 : Hid (CW (((w.alloc (.cells #[.int .i64 h.fl, .int .i64 h.gp, .int .i64 h.ln, .int .i64 h.rf, .int .i64 h.sp, .int .i64 h.pu, .int .i64 h.br, .int .i64 h.dr, .int .i64 h.lv, .int .i64 h.dO, .int .i64 h.ld, .int .i64 h.qu] 25)).alloc (.cells #[.int .i64 c.pos, .int .i64 c.vel, .int .i64 c.door] 27)).alloc (.cells #[.int .i64 0, .int .i64 0, .int .i64 0, .int .i64 0, .int .i64 0] 35)) (w.heap.size + 1) c) := (CW.at_ _ c _ _ (by simp)).alloc _
  have F2 : Hid (RRun (((w.alloc (.cells #[.int .i64 h.fl, .int .i64 h.gp, .int .i64 h.ln, .int .i64 h.rf, .int .i64 h.sp, .int .i64 h.pu, .int .i64 h.br, .int .i64 h.dr, .int .i64 h.lv, .int .i64 h.dO, .int .i64 h.ld, .int .i64 h.qu] 25)).alloc (.cells #[.int .i64 c.pos, .int .i64 c.vel, .int .i64 c.door] 27)).alloc (.cells #[.int .i64 0, .int .i64 0, .int .i64 0, .int .i64 0, .int .i64 0] 35)) (w.heap.size + 2)) := RRun.at_ _ _ _ (by simp)
  have FB : Hid (Below w.heap.size w (((w.alloc (.cells #[.int .i64 h.fl, .int .i64 h.gp, .int .i64 h.ln, .int .i64 h.rf, .int .i64 h.sp, .int .i64 h.pu, .int .i64 h.br, .int .i64 h.dr, .int .i64 h.lv, .int .i64 h.dO, .int .i64 h.ld, .int .i64 h.qu] 25)).alloc (.cells #[.int .i64 c.pos, .int .i64 c.vel, .int .i64 c.door] 27)).alloc (.cells #[.int .i64 0, .int .i64 0, .int .i64 0, .int .i64 0, .int .i64 0] 35))) := ((((Below.refl _ _).alloc (Nat.le_refl _) _).alloc (by simp) _).alloc (by simp; omega) _)
  go_enter Try.func9, Try.ntmps9
  go_wp2_with (first | (go_at_call 20; refine (implCarFault_any h c _).mono ?_; rw [hk]; rintro e w1 ⟨rfl, hb⟩; have F0 : Hid (HAt w1 w.heap.size h) := F0.out.below hb F0.out.lt; have F1 : Hid (CW w1 (w.heap.size + 1) c) := F1.out.below hb F1.out.lt; have F2 : Hid (RRun w1 (w.heap.size + 2)) := F2.out.below hb F2.out.lt; have FB : Hid (Below w.heap.size w w1) := FB.out.trans (hb.mono FB.out.size); clear hb; obtain ⟨x0_0, x0_1, x0_2, x0_3, x0_4, x0_5, x0_6, x0_7, x0_8, x0_9, x0_10, x0_11⟩ := F0.out; obtain ⟨x1_0, x1_1, x1_2, y1_0, y1_1, y1_2⟩ := F1.out; obtain ⟨x2_0, x2_1, x2_2, x2_3, x2_4, y2_0, y2_1, y2_2, y2_3, y2_4⟩ := F2.out) | (go_at_call 21; refine (hasPlace_any h f _).mono ?_; rw [hi]; rintro e w2 ⟨rfl, hb⟩; have F0 : Hid (HAt w2 w.heap.size h) := F0.out.below hb F0.out.lt; have F1 : Hid (CW w2 (w.heap.size + 1) c) := F1.out.below hb F1.out.lt; have F2 : Hid (RRun w2 (w.heap.size + 2)) := F2.out.below hb F2.out.lt; have FB : Hid (Below w.heap.size w w2) := FB.out.trans (hb.mono FB.out.size); clear hb; obtain ⟨x0_0, x0_1, x0_2, x0_3, x0_4, x0_5, x0_6, x0_7, x0_8, x0_9, x0_10, x0_11⟩ := F0.out; obtain ⟨x1_0, x1_1, x1_2, y1_0, y1_1, y1_2⟩ := F1.out; obtain ⟨x2_0, x2_1, x2_2, x2_3, x2_4, y2_0, y2_1, y2_2, y2_3, y2_4⟩ := F2.out))
  exact bodyPost_ret (v := .agg #[.int .i64 3, .int .i64 0, .int .i64 0, .int .i64 0, .int .i64 0]) (by simp [results, Try.results9, go_sem, x2_0, x2_1, x2_2, x2_3, x2_4]) rfl ⟨rfl, by repeat (first | exact FB.out | (refine Below.setCell ?_ (by simp <;> omega) _))⟩
set_option maxRecDepth 20000 in
set_option maxHeartbeats 4000000 in
theorem implRunTo_t (h : Hs) (c : Cs) (f t : Int) (hk : h.car c = 0) (hi : inB f (-1) h.fl = true) (ht : inB t 0 3000 = false) (w : World) :
    Calls Try.prog 9 #[.agg #[.int .i64 h.fl, .int .i64 h.gp, .int .i64 h.ln, .int .i64 h.rf, .int .i64 h.sp, .int .i64 h.pu, .int .i64 h.br, .int .i64 h.dr, .int .i64 h.lv, .int .i64 h.dO, .int .i64 h.ld, .int .i64 h.qu], .agg #[.int .i64 c.pos, .int .i64 c.vel, .int .i64 c.door], .int .i64 f, .int .i64 t] w (isRun w 3 0 ⟨0, 0, 0⟩) := by
  have F0 : Hid (HAt (((w.alloc (.cells #[.int .i64 h.fl, .int .i64 h.gp, .int .i64 h.ln, .int .i64 h.rf, .int .i64 h.sp, .int .i64 h.pu, .int .i64 h.br, .int .i64 h.dr, .int .i64 h.lv, .int .i64 h.dO, .int .i64 h.ld, .int .i64 h.qu] 25)).alloc (.cells #[.int .i64 c.pos, .int .i64 c.vel, .int .i64 c.door] 27)).alloc (.cells #[.int .i64 0, .int .i64 0, .int .i64 0, .int .i64 0, .int .i64 0] 35)) w.heap.size h) := ((HAt.at_ w h _ _ (by simp)).alloc _).alloc _
  have F1 : Hid (CW (((w.alloc (.cells #[.int .i64 h.fl, .int .i64 h.gp, .int .i64 h.ln, .int .i64 h.rf, .int .i64 h.sp, .int .i64 h.pu, .int .i64 h.br, .int .i64 h.dr, .int .i64 h.lv, .int .i64 h.dO, .int .i64 h.ld, .int .i64 h.qu] 25)).alloc (.cells #[.int .i64 c.pos, .int .i64 c.vel, .int .i64 c.door] 27)).alloc (.cells #[.int .i64 0, .int .i64 0, .int .i64 0, .int .i64 0, .int .i64 0] 35)) (w.heap.size + 1) c) := (CW.at_ _ c _ _ (by simp)).alloc _
  have F2 : Hid (RRun (((w.alloc (.cells #[.int .i64 h.fl, .int .i64 h.gp, .int .i64 h.ln, .int .i64 h.rf, .int .i64 h.sp, .int .i64 h.pu, .int .i64 h.br, .int .i64 h.dr, .int .i64 h.lv, .int .i64 h.dO, .int .i64 h.ld, .int .i64 h.qu] 25)).alloc (.cells #[.int .i64 c.pos, .int .i64 c.vel, .int .i64 c.door] 27)).alloc (.cells #[.int .i64 0, .int .i64 0, .int .i64 0, .int .i64 0, .int .i64 0] 35)) (w.heap.size + 2)) := RRun.at_ _ _ _ (by simp)
  have FB : Hid (Below w.heap.size w (((w.alloc (.cells #[.int .i64 h.fl, .int .i64 h.gp, .int .i64 h.ln, .int .i64 h.rf, .int .i64 h.sp, .int .i64 h.pu, .int .i64 h.br, .int .i64 h.dr, .int .i64 h.lv, .int .i64 h.dO, .int .i64 h.ld, .int .i64 h.qu] 25)).alloc (.cells #[.int .i64 c.pos, .int .i64 c.vel, .int .i64 c.door] 27)).alloc (.cells #[.int .i64 0, .int .i64 0, .int .i64 0, .int .i64 0, .int .i64 0] 35))) := ((((Below.refl _ _).alloc (Nat.le_refl _) _).alloc (by simp) _).alloc (by simp; omega) _)
  go_enter Try.func9, Try.ntmps9
  go_wp2_with (first | (go_at_call 20; refine (implCarFault_any h c _).mono ?_; rw [hk]; rintro e w1 ⟨rfl, hb⟩; have F0 : Hid (HAt w1 w.heap.size h) := F0.out.below hb F0.out.lt; have F1 : Hid (CW w1 (w.heap.size + 1) c) := F1.out.below hb F1.out.lt; have F2 : Hid (RRun w1 (w.heap.size + 2)) := F2.out.below hb F2.out.lt; have FB : Hid (Below w.heap.size w w1) := FB.out.trans (hb.mono FB.out.size); clear hb; obtain ⟨x0_0, x0_1, x0_2, x0_3, x0_4, x0_5, x0_6, x0_7, x0_8, x0_9, x0_10, x0_11⟩ := F0.out; obtain ⟨x1_0, x1_1, x1_2, y1_0, y1_1, y1_2⟩ := F1.out; obtain ⟨x2_0, x2_1, x2_2, x2_3, x2_4, y2_0, y2_1, y2_2, y2_3, y2_4⟩ := F2.out) | (go_at_call 21; refine (hasPlace_any h f _).mono ?_; rw [hi]; rintro e w2 ⟨rfl, hb⟩; have F0 : Hid (HAt w2 w.heap.size h) := F0.out.below hb F0.out.lt; have F1 : Hid (CW w2 (w.heap.size + 1) c) := F1.out.below hb F1.out.lt; have F2 : Hid (RRun w2 (w.heap.size + 2)) := F2.out.below hb F2.out.lt; have FB : Hid (Below w.heap.size w w2) := FB.out.trans (hb.mono FB.out.size); clear hb; obtain ⟨x0_0, x0_1, x0_2, x0_3, x0_4, x0_5, x0_6, x0_7, x0_8, x0_9, x0_10, x0_11⟩ := F0.out; obtain ⟨x1_0, x1_1, x1_2, y1_0, y1_1, y1_2⟩ := F1.out; obtain ⟨x2_0, x2_1, x2_2, x2_3, x2_4, y2_0, y2_1, y2_2, y2_3, y2_4⟩ := F2.out) | (go_at_call 28; refine (isWithin_any _ _ _ _).mono ?_; rintro e w' ⟨rfl, hw⟩; obtain rfl := hw.symm; clear hw))
  exact bodyPost_ret (v := .agg #[.int .i64 3, .int .i64 0, .int .i64 0, .int .i64 0, .int .i64 0]) (by simp [results, Try.results9, go_sem, x2_0, x2_1, x2_2, x2_3, x2_4]) rfl ⟨rfl, by repeat (first | exact FB.out | (refine Below.setCell ?_ (by simp <;> omega) _))⟩
set_option maxRecDepth 20000 in
set_option maxHeartbeats 4000000 in
theorem implRunTo_d (h : Hs) (c : Cs) (f t : Int) (hk : h.car c = 0) (hi : inB f (-1) h.fl = true) (ht : inB t 0 3000 = true) (dz : c.door ≠ 0) (w : World) :
    Calls Try.prog 9 #[.agg #[.int .i64 h.fl, .int .i64 h.gp, .int .i64 h.ln, .int .i64 h.rf, .int .i64 h.sp, .int .i64 h.pu, .int .i64 h.br, .int .i64 h.dr, .int .i64 h.lv, .int .i64 h.dO, .int .i64 h.ld, .int .i64 h.qu], .agg #[.int .i64 c.pos, .int .i64 c.vel, .int .i64 c.door], .int .i64 f, .int .i64 t] w (isRun w 1 0 ⟨0, 0, 0⟩) := by
  have b0 : (c.door != 0) = true := by simpa using dz
  clear dz
  have F0 : Hid (HAt (((w.alloc (.cells #[.int .i64 h.fl, .int .i64 h.gp, .int .i64 h.ln, .int .i64 h.rf, .int .i64 h.sp, .int .i64 h.pu, .int .i64 h.br, .int .i64 h.dr, .int .i64 h.lv, .int .i64 h.dO, .int .i64 h.ld, .int .i64 h.qu] 25)).alloc (.cells #[.int .i64 c.pos, .int .i64 c.vel, .int .i64 c.door] 27)).alloc (.cells #[.int .i64 0, .int .i64 0, .int .i64 0, .int .i64 0, .int .i64 0] 35)) w.heap.size h) := ((HAt.at_ w h _ _ (by simp)).alloc _).alloc _
  have F1 : Hid (CW (((w.alloc (.cells #[.int .i64 h.fl, .int .i64 h.gp, .int .i64 h.ln, .int .i64 h.rf, .int .i64 h.sp, .int .i64 h.pu, .int .i64 h.br, .int .i64 h.dr, .int .i64 h.lv, .int .i64 h.dO, .int .i64 h.ld, .int .i64 h.qu] 25)).alloc (.cells #[.int .i64 c.pos, .int .i64 c.vel, .int .i64 c.door] 27)).alloc (.cells #[.int .i64 0, .int .i64 0, .int .i64 0, .int .i64 0, .int .i64 0] 35)) (w.heap.size + 1) c) := (CW.at_ _ c _ _ (by simp)).alloc _
  have F2 : Hid (RRun (((w.alloc (.cells #[.int .i64 h.fl, .int .i64 h.gp, .int .i64 h.ln, .int .i64 h.rf, .int .i64 h.sp, .int .i64 h.pu, .int .i64 h.br, .int .i64 h.dr, .int .i64 h.lv, .int .i64 h.dO, .int .i64 h.ld, .int .i64 h.qu] 25)).alloc (.cells #[.int .i64 c.pos, .int .i64 c.vel, .int .i64 c.door] 27)).alloc (.cells #[.int .i64 0, .int .i64 0, .int .i64 0, .int .i64 0, .int .i64 0] 35)) (w.heap.size + 2)) := RRun.at_ _ _ _ (by simp)
  have FB : Hid (Below w.heap.size w (((w.alloc (.cells #[.int .i64 h.fl, .int .i64 h.gp, .int .i64 h.ln, .int .i64 h.rf, .int .i64 h.sp, .int .i64 h.pu, .int .i64 h.br, .int .i64 h.dr, .int .i64 h.lv, .int .i64 h.dO, .int .i64 h.ld, .int .i64 h.qu] 25)).alloc (.cells #[.int .i64 c.pos, .int .i64 c.vel, .int .i64 c.door] 27)).alloc (.cells #[.int .i64 0, .int .i64 0, .int .i64 0, .int .i64 0, .int .i64 0] 35))) := ((((Below.refl _ _).alloc (Nat.le_refl _) _).alloc (by simp) _).alloc (by simp; omega) _)
  go_enter Try.func9, Try.ntmps9
  go_wp2_with (first | (go_at_call 20; refine (implCarFault_any h c _).mono ?_; rw [hk]; rintro e w1 ⟨rfl, hb⟩; have F0 : Hid (HAt w1 w.heap.size h) := F0.out.below hb F0.out.lt; have F1 : Hid (CW w1 (w.heap.size + 1) c) := F1.out.below hb F1.out.lt; have F2 : Hid (RRun w1 (w.heap.size + 2)) := F2.out.below hb F2.out.lt; have FB : Hid (Below w.heap.size w w1) := FB.out.trans (hb.mono FB.out.size); clear hb; obtain ⟨x0_0, x0_1, x0_2, x0_3, x0_4, x0_5, x0_6, x0_7, x0_8, x0_9, x0_10, x0_11⟩ := F0.out; obtain ⟨x1_0, x1_1, x1_2, y1_0, y1_1, y1_2⟩ := F1.out; obtain ⟨x2_0, x2_1, x2_2, x2_3, x2_4, y2_0, y2_1, y2_2, y2_3, y2_4⟩ := F2.out) | (go_at_call 21; refine (hasPlace_any h f _).mono ?_; rw [hi]; rintro e w2 ⟨rfl, hb⟩; have F0 : Hid (HAt w2 w.heap.size h) := F0.out.below hb F0.out.lt; have F1 : Hid (CW w2 (w.heap.size + 1) c) := F1.out.below hb F1.out.lt; have F2 : Hid (RRun w2 (w.heap.size + 2)) := F2.out.below hb F2.out.lt; have FB : Hid (Below w.heap.size w w2) := FB.out.trans (hb.mono FB.out.size); clear hb; obtain ⟨x0_0, x0_1, x0_2, x0_3, x0_4, x0_5, x0_6, x0_7, x0_8, x0_9, x0_10, x0_11⟩ := F0.out; obtain ⟨x1_0, x1_1, x1_2, y1_0, y1_1, y1_2⟩ := F1.out; obtain ⟨x2_0, x2_1, x2_2, x2_3, x2_4, y2_0, y2_1, y2_2, y2_3, y2_4⟩ := F2.out) | (go_at_call 28; refine (isWithin_any _ _ _ _).mono ?_; rintro e w' ⟨rfl, hw⟩; obtain rfl := hw.symm; clear hw))
  exact bodyPost_ret (v := .agg #[.int .i64 1, .int .i64 0, .int .i64 0, .int .i64 0, .int .i64 0]) (by simp [results, Try.results9, go_sem, x2_0, x2_1, x2_2, x2_3, x2_4]) rfl ⟨rfl, by repeat (first | exact FB.out | (refine Below.setCell ?_ (by simp <;> omega) _))⟩
set_option maxRecDepth 20000 in
set_option maxHeartbeats 4000000 in
theorem implRunTo_yes (h : Hs) (c : Cs) (f t : Int) (hk : h.car c = 0) (hi : inB f (-1) h.fl = true) (ht : inB t 0 3000 = true) (dz : c.door = 0) (R : Int × Int × Cs) (hR : Hs.runK h f t t.toNat c 0 = R) (w : World) :
    Calls Try.prog 9 #[.agg #[.int .i64 h.fl, .int .i64 h.gp, .int .i64 h.ln, .int .i64 h.rf, .int .i64 h.sp, .int .i64 h.pu, .int .i64 h.br, .int .i64 h.dr, .int .i64 h.lv, .int .i64 h.dO, .int .i64 h.ld, .int .i64 h.qu], .agg #[.int .i64 c.pos, .int .i64 c.vel, .int .i64 c.door], .int .i64 f, .int .i64 t] w (isRun w R.1 R.2.1 R.2.2) := by
  have b0 : (c.door != 0) = false := by simpa using dz
  have HK : Hid (h.car c = 0) := hk
  have HI : Hid (inB f (-1) h.fl = true) := hi
  have HT : Hid (inB t 0 3000 = true) := ht
  have HD : Hid (c.door = 0) := dz
  have HR : Hid (Hs.runK h f t t.toNat c 0 = R) := hR
  clear dz hR
  have F0 : Hid (HAt (((w.alloc (.cells #[.int .i64 h.fl, .int .i64 h.gp, .int .i64 h.ln, .int .i64 h.rf, .int .i64 h.sp, .int .i64 h.pu, .int .i64 h.br, .int .i64 h.dr, .int .i64 h.lv, .int .i64 h.dO, .int .i64 h.ld, .int .i64 h.qu] 25)).alloc (.cells #[.int .i64 c.pos, .int .i64 c.vel, .int .i64 c.door] 27)).alloc (.cells #[.int .i64 0, .int .i64 0, .int .i64 0, .int .i64 0, .int .i64 0] 35)) w.heap.size h) := ((HAt.at_ w h _ _ (by simp)).alloc _).alloc _
  have F1 : Hid (CW (((w.alloc (.cells #[.int .i64 h.fl, .int .i64 h.gp, .int .i64 h.ln, .int .i64 h.rf, .int .i64 h.sp, .int .i64 h.pu, .int .i64 h.br, .int .i64 h.dr, .int .i64 h.lv, .int .i64 h.dO, .int .i64 h.ld, .int .i64 h.qu] 25)).alloc (.cells #[.int .i64 c.pos, .int .i64 c.vel, .int .i64 c.door] 27)).alloc (.cells #[.int .i64 0, .int .i64 0, .int .i64 0, .int .i64 0, .int .i64 0] 35)) (w.heap.size + 1) c) := (CW.at_ _ c _ _ (by simp)).alloc _
  have F2 : Hid (RRun (((w.alloc (.cells #[.int .i64 h.fl, .int .i64 h.gp, .int .i64 h.ln, .int .i64 h.rf, .int .i64 h.sp, .int .i64 h.pu, .int .i64 h.br, .int .i64 h.dr, .int .i64 h.lv, .int .i64 h.dO, .int .i64 h.ld, .int .i64 h.qu] 25)).alloc (.cells #[.int .i64 c.pos, .int .i64 c.vel, .int .i64 c.door] 27)).alloc (.cells #[.int .i64 0, .int .i64 0, .int .i64 0, .int .i64 0, .int .i64 0] 35)) (w.heap.size + 2)) := RRun.at_ _ _ _ (by simp)
  have FB : Hid (Below w.heap.size w (((w.alloc (.cells #[.int .i64 h.fl, .int .i64 h.gp, .int .i64 h.ln, .int .i64 h.rf, .int .i64 h.sp, .int .i64 h.pu, .int .i64 h.br, .int .i64 h.dr, .int .i64 h.lv, .int .i64 h.dO, .int .i64 h.ld, .int .i64 h.qu] 25)).alloc (.cells #[.int .i64 c.pos, .int .i64 c.vel, .int .i64 c.door] 27)).alloc (.cells #[.int .i64 0, .int .i64 0, .int .i64 0, .int .i64 0, .int .i64 0] 35))) := ((((Below.refl _ _).alloc (Nat.le_refl _) _).alloc (by simp) _).alloc (by simp; omega) _)
  go_enter Try.func9, Try.ntmps9
  go_wp2_with (first | (go_at_call 20; refine (implCarFault_any h c _).mono ?_; rw [hk]; rintro e w1 ⟨rfl, hb⟩; have F0 : Hid (HAt w1 w.heap.size h) := F0.out.below hb F0.out.lt; have F1 : Hid (CW w1 (w.heap.size + 1) c) := F1.out.below hb F1.out.lt; have F2 : Hid (RRun w1 (w.heap.size + 2)) := F2.out.below hb F2.out.lt; have FB : Hid (Below w.heap.size w w1) := FB.out.trans (hb.mono FB.out.size); clear hb; obtain ⟨x0_0, x0_1, x0_2, x0_3, x0_4, x0_5, x0_6, x0_7, x0_8, x0_9, x0_10, x0_11⟩ := F0.out; obtain ⟨x1_0, x1_1, x1_2, y1_0, y1_1, y1_2⟩ := F1.out; obtain ⟨x2_0, x2_1, x2_2, x2_3, x2_4, y2_0, y2_1, y2_2, y2_3, y2_4⟩ := F2.out) | (go_at_call 21; refine (hasPlace_any h f _).mono ?_; rw [hi]; rintro e w2 ⟨rfl, hb⟩; have F0 : Hid (HAt w2 w.heap.size h) := F0.out.below hb F0.out.lt; have F1 : Hid (CW w2 (w.heap.size + 1) c) := F1.out.below hb F1.out.lt; have F2 : Hid (RRun w2 (w.heap.size + 2)) := F2.out.below hb F2.out.lt; have FB : Hid (Below w.heap.size w w2) := FB.out.trans (hb.mono FB.out.size); clear hb; obtain ⟨x0_0, x0_1, x0_2, x0_3, x0_4, x0_5, x0_6, x0_7, x0_8, x0_9, x0_10, x0_11⟩ := F0.out; obtain ⟨x1_0, x1_1, x1_2, y1_0, y1_1, y1_2⟩ := F1.out; obtain ⟨x2_0, x2_1, x2_2, x2_3, x2_4, y2_0, y2_1, y2_2, y2_3, y2_4⟩ := F2.out) | (go_at_call 28; refine (isWithin_any _ _ _ _).mono ?_; rintro e w' ⟨rfl, hw⟩; obtain rfl := hw.symm; clear hw) | (go_at_call 29; refine (runOf_any h c f t HK.out HI.out HT.out HD.out R HR.out _).mono ?_; rintro e w3 ⟨rfl, hb⟩; have F0 : Hid (HAt w3 w.heap.size h) := F0.out.below hb F0.out.lt; have F1 : Hid (CW w3 (w.heap.size + 1) c) := F1.out.below hb F1.out.lt; have F2 : Hid (RRun w3 (w.heap.size + 2)) := F2.out.below hb F2.out.lt; have FB : Hid (Below w.heap.size w w3) := FB.out.trans (hb.mono FB.out.size); clear hb; obtain ⟨x0_0, x0_1, x0_2, x0_3, x0_4, x0_5, x0_6, x0_7, x0_8, x0_9, x0_10, x0_11⟩ := F0.out; obtain ⟨x1_0, x1_1, x1_2, y1_0, y1_1, y1_2⟩ := F1.out; obtain ⟨x2_0, x2_1, x2_2, x2_3, x2_4, y2_0, y2_1, y2_2, y2_3, y2_4⟩ := F2.out))
  exact bodyPost_ret (v := .agg #[.int .i64 R.1, .int .i64 R.2.1, .int .i64 R.2.2.pos, .int .i64 R.2.2.vel, .int .i64 R.2.2.door]) (by simp [results, Try.results9, go_sem, x2_0, x2_1, x2_2, x2_3, x2_4]) rfl ⟨rfl, by repeat (first | exact FB.out | (refine Below.setCell ?_ (by simp <;> omega) _))⟩
theorem implRunTo_all (h : Hs) (c : Cs) (f t : Int) (w : World) :
    Calls Try.prog 9 #[.agg #[.int .i64 h.fl, .int .i64 h.gp, .int .i64 h.ln, .int .i64 h.rf, .int .i64 h.sp, .int .i64 h.pu, .int .i64 h.br, .int .i64 h.dr, .int .i64 h.lv, .int .i64 h.dO, .int .i64 h.ld, .int .i64 h.qu], .agg #[.int .i64 c.pos, .int .i64 c.vel, .int .i64 c.door], .int .i64 f, .int .i64 t] w (isRun w (Hs.runA h c f t).1 (Hs.runA h c f t).2.1 (Hs.runA h c f t).2.2) :=
  Hs.run_all (P := fun a b g => Calls Try.prog 9 #[.agg #[.int .i64 h.fl, .int .i64 h.gp, .int .i64 h.ln, .int .i64 h.rf, .int .i64 h.sp, .int .i64 h.pu, .int .i64 h.br, .int .i64 h.dr, .int .i64 h.lv, .int .i64 h.dO, .int .i64 h.ld, .int .i64 h.qu], .agg #[.int .i64 c.pos, .int .i64 c.vel, .int .i64 c.door], .int .i64 f, .int .i64 t] w (isRun w a b g)) h c f t (fun k => implRunTo_no h c f t k w) (fun k1 k2 => implRunTo_f h c f t k1 k2 w) (fun k1 k2 k3 => implRunTo_t h c f t k1 k2 k3 w) (fun k1 k2 k3 k4 => implRunTo_d h c f t k1 k2 k3 k4 w) (fun k1 k2 k3 k4 R hR => implRunTo_yes h c f t k1 k2 k3 k4 R hR w)
end Go.Proofs.Ytgdhbkgpjeedhaa
