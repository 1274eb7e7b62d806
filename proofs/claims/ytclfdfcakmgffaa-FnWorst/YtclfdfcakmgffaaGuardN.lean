/-
  The law FnWorst: whatever the drift is, a car comes no higher and no lower than the worst that is told.
-/
import Derived.Test.YtclfdfcakmgffaaGuardM
import Derived.Test.YtclfdfcakmgffaaGuardP
import Derived.Test.YtclfdfcakmgffaaGuardE
import Derived.Test.YtclfdfcakmgffaaTickP
import Derived.Test.YtclfdfcakmgffaaAt
import Derived.Test.YtclfdfcakmgffaaFnd
import Derived.Test.YtclfdfcakmgffaaCarN
namespace Go.Proofs.Ytclfdfcakmgffaa
open Go.RowKit Pl
set_option linter.unusedSimpArgs false
set_option linter.unusedVariables false

theorem worst_in {h : Hs} {c : Cs} {x : Cm} (k : CarOk h c) : Hs.wl h c x ≤ Hs.wh h c x ∧ c.pos - h.sp ≤ Hs.wh h c x ∧ Hs.wl h c x ≤ c.pos + h.sp := by
  have o := k.ok
  have d1 := o.dr1
  have a := worst_hi (x := x) (d := 0) k (by omega)
  have b := worst_lo (x := x) (d := 0) k (by omega)
  have e := step_env (x := x) (d := 0) k
  have r1 := o.br1; have r2 := o.pu1; have r3 := o.sp1; have r4 := o.sp2
  have v1 := k.v1; have v2 := k.v2
  have p1 : h.lo (stepC h c x 0).pos (stepC h c x 0).vel ≤ (stepC h c x 0).pos := by
    unfold Hs.lo
    split
    · have := (stop_small (-(stepC h c x 0).vel) h.br (by omega) (by omega) (by omega)).1; omega
    · omega
  have p2 : (stepC h c x 0).pos ≤ h.hi (stepC h c x 0).pos (stepC h c x 0).vel := by
    unfold Hs.hi
    split
    · have := (stop_small (stepC h c x 0).vel h.br (by omega) (by omega) (by omega)).1; omega
    · omega
  have q : c.pos - h.sp ≤ (stepC h c x 0).pos ∧ (stepC h c x 0).pos ≤ c.pos + h.sp := by
    unfold stepC
    split
    · split
      · show _ ≤ c.pos ∧ c.pos ≤ _; omega
      · show _ ≤ c.pos ∧ c.pos ≤ _; omega
    · split
      · show _ ≤ c.pos + brk c.vel h.br ∧ c.pos + brk c.vel h.br ≤ _
        unfold brk
        (repeat' split) <;> omega
      · show _ ≤ c.pos + clip h.sp _ ∧ c.pos + clip h.sp _ ≤ _
        have := clip_bd h.sp (c.vel + x.push + 0) (by omega)
        omega
  exact ⟨by omega, by omega, by omega⟩
set_option maxRecDepth 20000 in
set_option maxHeartbeats 32000000 in
theorem worst_walk (a0 : Option Addr) (len0 cap0 : Nat) (w : World) (hc : CodeIn w w.heap.size a0 len0) (hbig : len0 ≤ 1048576) :
    Calls Try.prog 3 #[.slice a0 len0 cap0] w fun e w' => e = .returned (.bool true) ∧ Below w.heap.size w w' := by
  have HC : Hid (CodeIn w w.heap.size a0 len0) := hc
  clear hc
  go_enter Try.func3, Try.ntmps3
  go_wp2_with (first | (go_at_call 6; refine (lwBig_no _ _ _ hbig _).mono ?_; rintro e w' ⟨rfl, hw⟩; obtain rfl := hw.symm; clear hw))
  refine (DrawWorstHigh_any a0 len0 cap0 _ HC.out).mono ?_
  rintro e w1 ⟨h, c, x, rfl, hb⟩
  clear HC hbig
  go_upto_region 4 with fail
  have hsz := hb.size
  obtain ⟨w2, hw2⟩ : ∃ w2, w2 = ((w1.alloc (.cells #[.int .i64 h.fl, .int .i64 h.gp, .int .i64 h.ln, .int .i64 h.rf, .int .i64 h.sp, .int .i64 h.pu, .int .i64 h.br, .int .i64 h.dr, .int .i64 h.lv, .int .i64 h.dO, .int .i64 h.ld, .int .i64 h.qu] 25)).alloc (.cells #[.int .i64 c.pos, .int .i64 c.vel, .int .i64 c.door] 27)).alloc (.cells #[.int .i64 x.push, .bool x.brk, .bool x.opn] 29) := ⟨_, rfl⟩
  obtain ⟨b1, hb1⟩ : ∃ b1, b1 = w1.heap.size := ⟨_, rfl⟩
  obtain ⟨b2, hb2⟩ : ∃ b2, b2 = w1.heap.size + 1 := ⟨_, rfl⟩
  obtain ⟨b3, hb3⟩ : ∃ b3, b3 = b2 + 1 := ⟨_, rfl⟩
  have l12 : b1 < b2 := by omega
  have l23 : b2 < b3 := by omega
  have lw1 : w.heap.size ≤ b1 := by omega
  have F0 : Hid (HAt w2 b1 h) := by rw [hw2]; exact ((HAt.at_ w1 h _ _ hb1).alloc _).alloc _
  have F1 : Hid (CW w2 b2 c) := by rw [hw2]; exact (CW.at_ _ c _ _ (by simp; omega)).alloc _
  have F2 : Hid (XW w2 b3 x) := by rw [hw2]; exact XW.at_ _ x _ _ (by simp; omega)
  have FB : Hid (Below w.heap.size w w2) := by rw [hw2]; exact ((hb.alloc hb.size _).alloc (by simp; omega) _).alloc (by simp; omega) _
  rw [← hw2, ← hb2, ← hb3, ← hb1]
  clear hw2 hb1 hb2 hb3 hb hsz
  obtain ⟨x0_0, x0_1, x0_2, x0_3, x0_4, x0_5, x0_6, x0_7, x0_8, x0_9, x0_10, x0_11⟩ := F0.out
  obtain ⟨x1_0, x1_1, x1_2, -, -, -⟩ := F1.out
  obtain ⟨x2_0, x2_1, x2_2, -, -, -⟩ := F2.out
  by_cases hk : Hs.asked h c x = 0
  case neg =>
    have hw0 : Hs.whV h c x = 0 := if_neg hk
    have hl0 : Hs.wlV h c x = 0 := if_neg hk
    have hn : (Hs.asked h c x != 0) = true := by simpa using hk
    have fp : ∀ W, (Instr.field 33 (.agg #[.int .i64 (Hs.asked h c x), .int .i64 0]) 0).run Try.prog W = .ok (.int .i64 (Hs.asked h c x)) W := fun W => by kernel_rfl
    clear hk
    go_upto_region 5 with (first | (go_at_call 8; refine (implWorstHigh_any h c x _).mono ?_; rw [hw0]; rintro e w3 ⟨rfl, hb⟩; have F0 : Hid (HAt w3 b1 h) := F0.out.below hb F0.out.lt; have F1 : Hid (CW w3 b2 c) := F1.out.below hb F1.out.lt; have F2 : Hid (XW w3 b3 x) := F2.out.below hb F2.out.lt; have FB : Hid (Below w.heap.size w w3) := FB.out.trans (hb.mono FB.out.size); clear hb; obtain ⟨x0_0, x0_1, x0_2, x0_3, x0_4, x0_5, x0_6, x0_7, x0_8, x0_9, x0_10, x0_11⟩ := F0.out; obtain ⟨x1_0, x1_1, x1_2, -, -, -⟩ := F1.out; obtain ⟨x2_0, x2_1, x2_2, -, -, -⟩ := F2.out) | (refine store_new [.int .i64 (Hs.asked h c x), .int .i64 0] 33 _ _ (by kernel_rfl) (by kernel_rfl) (by kernel_rfl) rfl rfl rfl rfl ?_))
    obtain ⟨b4, hbb⟩ : ∃ b, b = w3.heap.size := ⟨_, rfl⟩
    obtain ⟨w4, hw2⟩ : ∃ W, W = w3.alloc (.cells ([.int .i64 (Hs.asked h c x), .int .i64 0] : List Value).toArray 33) := ⟨_, rfl⟩
    have F0 : Hid (HAt w4 b1 h) := by rw [hw2]; exact F0.out.alloc _
    have F1 : Hid (CW w4 b2 c) := by rw [hw2]; exact F1.out.alloc _
    have F2 : Hid (XW w4 b3 x) := by rw [hw2]; exact F2.out.alloc _
    have FB : Hid (Below w.heap.size w w4) := by rw [hw2]; exact FB.out.alloc FB.out.size _
    have FH : Hid (Blk w4 b4 [.int .i64 (Hs.asked h c x), .int .i64 0]) := by rw [hw2]; exact Blk.at_ w3 ([.int .i64 (Hs.asked h c x), .int .i64 0] : List Value).toArray _ _ hbb
    rw [← hw2, ← hbb]
    clear hbb hw2
    obtain ⟨x0_0, x0_1, x0_2, x0_3, x0_4, x0_5, x0_6, x0_7, x0_8, x0_9, x0_10, x0_11⟩ := F0.out
    obtain ⟨x1_0, x1_1, x1_2, -, -, -⟩ := F1.out
    obtain ⟨x2_0, x2_1, x2_2, -, -, -⟩ := F2.out
    go_upto_region 6 with (first | (go_at_call 9; refine (implWorstLow_any h c x _).mono ?_; rw [hl0]; rintro e w5 ⟨rfl, hb⟩; have F0 : Hid (HAt w5 b1 h) := F0.out.below hb F0.out.lt; have F1 : Hid (CW w5 b2 c) := F1.out.below hb F1.out.lt; have F2 : Hid (XW w5 b3 x) := F2.out.below hb F2.out.lt; have FH : Hid (Blk w5 b4 [.int .i64 (Hs.asked h c x), .int .i64 0]) := FH.out.below hb FH.out.lt; have FB : Hid (Below w.heap.size w w5) := FB.out.trans (hb.mono FB.out.size); clear hb; obtain ⟨x0_0, x0_1, x0_2, x0_3, x0_4, x0_5, x0_6, x0_7, x0_8, x0_9, x0_10, x0_11⟩ := F0.out; obtain ⟨x1_0, x1_1, x1_2, -, -, -⟩ := F1.out; obtain ⟨x2_0, x2_1, x2_2, -, -, -⟩ := F2.out) | (refine store_new [.int .i64 (Hs.asked h c x), .int .i64 0] 33 _ _ (by kernel_rfl) (by kernel_rfl) (by kernel_rfl) rfl rfl rfl rfl ?_))
    obtain ⟨b5, hbb⟩ : ∃ b, b = w5.heap.size := ⟨_, rfl⟩
    obtain ⟨w6, hw2⟩ : ∃ W, W = w5.alloc (.cells ([.int .i64 (Hs.asked h c x), .int .i64 0] : List Value).toArray 33) := ⟨_, rfl⟩
    have F0 : Hid (HAt w6 b1 h) := by rw [hw2]; exact F0.out.alloc _
    have F1 : Hid (CW w6 b2 c) := by rw [hw2]; exact F1.out.alloc _
    have F2 : Hid (XW w6 b3 x) := by rw [hw2]; exact F2.out.alloc _
    have FH : Hid (Blk w6 b4 [.int .i64 (Hs.asked h c x), .int .i64 0]) := by rw [hw2]; exact FH.out.alloc _
    have FB : Hid (Below w.heap.size w w6) := by rw [hw2]; exact FB.out.alloc FB.out.size _
    have FL : Hid (Blk w6 b5 [.int .i64 (Hs.asked h c x), .int .i64 0]) := by rw [hw2]; exact Blk.at_ w5 ([.int .i64 (Hs.asked h c x), .int .i64 0] : List Value).toArray _ _ hbb
    rw [← hw2, ← hbb]
    clear hbb hw2
    have z0_ := FH.out.c 0 _ rfl
    go_wp2_with fail
    clear z0_
    have F0 : Hid (HAt w6.drew b1 h) := F0.out.below (Below.refl _ _).drew F0.out.lt
    have F1 : Hid (CW w6.drew b2 c) := F1.out.below (Below.refl _ _).drew F1.out.lt
    have F2 : Hid (XW w6.drew b3 x) := F2.out.below (Below.refl _ _).drew F2.out.lt
    have FH : Hid (Blk w6.drew b4 [.int .i64 (Hs.asked h c x), .int .i64 0]) := FH.out.below (Below.refl _ _).drew FH.out.lt
    have FL : Hid (Blk w6.drew b5 [.int .i64 (Hs.asked h c x), .int .i64 0]) := FL.out.below (Below.refl _ _).drew FL.out.lt
    have FB : Hid (Below w.heap.size w w6.drew) := FB.out.drew
    obtain ⟨x0_0, x0_1, x0_2, x0_3, x0_4, x0_5, x0_6, x0_7, x0_8, x0_9, x0_10, x0_11⟩ := F0.out
    obtain ⟨x1_0, x1_1, x1_2, y1_0, y1_1, y1_2⟩ := F1.out
    obtain ⟨x2_0, x2_1, x2_2, y2_0, y2_1, y2_2⟩ := F2.out
    have z0_ := FH.out.c 0 _ rfl
    have z1_ := FL.out.c 0 _ rfl
    refine wp_region_held_drew (S := (fun w'' => w''.cell? ⟨b1, 0, none⟩ = some (.int .i64 h.fl) ∧ w''.cell? ⟨b1, 1, none⟩ = some (.int .i64 h.gp) ∧ w''.cell? ⟨b1, 2, none⟩ = some (.int .i64 h.ln) ∧ w''.cell? ⟨b1, 3, none⟩ = some (.int .i64 h.rf) ∧ w''.cell? ⟨b1, 4, none⟩ = some (.int .i64 h.sp) ∧ w''.cell? ⟨b1, 5, none⟩ = some (.int .i64 h.pu) ∧ w''.cell? ⟨b1, 6, none⟩ = some (.int .i64 h.br) ∧ w''.cell? ⟨b1, 7, none⟩ = some (.int .i64 h.dr) ∧ w''.cell? ⟨b1, 8, none⟩ = some (.int .i64 h.lv) ∧ w''.cell? ⟨b1, 9, none⟩ = some (.int .i64 h.dO) ∧ w''.cell? ⟨b1, 10, none⟩ = some (.int .i64 h.ld) ∧ w''.cell? ⟨b1, 11, none⟩ = some (.int .i64 h.qu) ∧ w''.cell? ⟨b2, 0, none⟩ = some (.int .i64 c.pos) ∧ w''.cell? ⟨b2, 1, none⟩ = some (.int .i64 c.vel) ∧ w''.cell? ⟨b2, 2, none⟩ = some (.int .i64 c.door) ∧ w''.cell? ⟨b3, 0, none⟩ = some (.int .i64 x.push) ∧ w''.cell? ⟨b3, 1, none⟩ = some (.bool x.brk) ∧ w''.cell? ⟨b3, 2, none⟩ = some (.bool x.opn) ∧ w''.cell? ⟨b4, 0, none⟩ = some (.int .i64 (Hs.asked h c x)) ∧ w''.cell? ⟨b5, 0, none⟩ = some (.int .i64 (Hs.asked h c x)))) (by kernel_rfl) (by (try dsimp only); first | exact ⟨x0_0, x0_1, x0_2, x0_3, x0_4, x0_5, x0_6, x0_7, x0_8, x0_9, x0_10, x0_11, x1_0, x1_1, x1_2, x2_0, x2_1, x2_2, z0_, z1_⟩ | go_keep) (fun hHeld => ?_)
    obtain ⟨v_1, hw1⟩ : ∃ v_1, v_1 = w6.drew := ⟨_, rfl⟩
    have F0 : Hid (HAt v_1 b1 h) := by rw [hw1]; exact F0.out
    have F1 : Hid (CW v_1 b2 c) := by rw [hw1]; exact F1.out
    have F2 : Hid (XW v_1 b3 x) := by rw [hw1]; exact F2.out
    have FH : Hid (Blk v_1 b4 [.int .i64 (Hs.asked h c x), .int .i64 0]) := by rw [hw1]; exact FH.out
    have FL : Hid (Blk v_1 b5 [.int .i64 (Hs.asked h c x), .int .i64 0]) := by rw [hw1]; exact FL.out
    have FB : Hid (Below w.heap.size w v_1) := by rw [hw1]; exact FB.out
    rw [← hw1] at hHeld ⊢
    clear hw1
    obtain ⟨x0_0, x0_1, x0_2, x0_3, x0_4, x0_5, x0_6, x0_7, x0_8, x0_9, x0_10, x0_11⟩ := F0.out
    obtain ⟨x1_0, x1_1, x1_2, y1_0, y1_1, y1_2⟩ := F1.out
    obtain ⟨x2_0, x2_1, x2_2, y2_0, y2_1, y2_2⟩ := F2.out
    have z0_ := FH.out.c 0 _ rfl
    have z1_ := FL.out.c 0 _ rfl
    refine tkz 0 rfl ?_
    refine tkz 1 rfl ?_
    refine tkz 2 rfl ?_
    refine tkz 5 rfl ?_
    refine tkz 6 rfl ?_
    refine wpAnyH_ready (rs := [3]) (by kernel_rfl) (by simp) ?_
    refine (AllReadyH.cons rfl (fun K hK => ?_) AllReadyH.nil)
    go_simp
    refine ((specWorstHigh_any h c x _).mono (fun _ _ q => hw0 ▸ q)).mono ?_
    rintro e v_2 ⟨rfl, hb⟩
    have F0 : Hid (HAt v_2 b1 h) := F0.out.below hb F0.out.lt
    have F1 : Hid (CW v_2 b2 c) := F1.out.below hb F1.out.lt
    have F2 : Hid (XW v_2 b3 x) := F2.out.below hb F2.out.lt
    have FH : Hid (Blk v_2 b4 [.int .i64 (Hs.asked h c x), .int .i64 0]) := FH.out.below hb FH.out.lt
    have FL : Hid (Blk v_2 b5 [.int .i64 (Hs.asked h c x), .int .i64 0]) := FL.out.below hb FL.out.lt
    have FB : Hid (Below w.heap.size w v_2) := FB.out.trans (hb.mono FB.out.size)
    clear hb
    obtain ⟨x0_0, x0_1, x0_2, x0_3, x0_4, x0_5, x0_6, x0_7, x0_8, x0_9, x0_10, x0_11⟩ := F0.out
    obtain ⟨x1_0, x1_1, x1_2, y1_0, y1_1, y1_2⟩ := F1.out
    obtain ⟨x2_0, x2_1, x2_2, y2_0, y2_1, y2_2⟩ := F2.out
    have z0_ := FH.out.c 0 _ rfl
    have z1_ := FL.out.c 0 _ rfl
    try dsimp only
    refine hK.out _ _ (by (try dsimp only); first | exact ⟨x0_0, x0_1, x0_2, x0_3, x0_4, x0_5, x0_6, x0_7, x0_8, x0_9, x0_10, x0_11, x1_0, x1_1, x1_2, x2_0, x2_1, x2_2, z0_, z1_⟩ | go_keep) (fun hHeld => ?_)
    clear hK K
    try simp only [Act.put, List.getElem_toArray, List.getElem_cons_succ, List.getElem_cons_zero, List.setIfInBounds_toArray, List.set_cons_zero, List.set_cons_succ]
    refine tkz 4 rfl ?_
    refine tkz 7 rfl ?_
    refine tkz 8 rfl ?_
    refine tkz 9 rfl ?_
    refine tkz 10 rfl ?_
    refine tkz 11 rfl ?_
    refine tkz 12 rfl ?_
    refine tkz 13 rfl ?_
    refine tkz 14 rfl ?_
    refine tkz 15 rfl ?_
    refine wpAnyH_done (by kernel_rfl) ?_ _
    go_wp2_with fail
    go_ret
    exact ⟨by simp, FB.out⟩
  obtain ⟨k1, k2⟩ := asked_zero hk
  have ck := Hs.car_zero k1
  have hw0 : Hs.whV h c x = Hs.wh h c x := if_pos hk
  have hl0 : Hs.wlV h c x = Hs.wl h c x := if_pos hk
  obtain ⟨i1, i2, i3⟩ := worst_in (x := x) ck
  have B1 := Hs.wh_bd ck x
  have B2 := Hs.wl_bd ck x
  have en := car_env ck
  have o := ck.ok
  have d1 := o.dr1; have d2 := o.dr2; have d3 := o.pu2; have d4 := o.sp2; have d5 := o.br1; have d6 := o.pu1; have d7 := o.br2; have d8 := o.sp1
  have HA : Hid (∀ d, -h.dr ≤ d → d ≤ h.dr → h.hi (stepC h c x d).pos (stepC h c x d).vel ≤ Hs.wh h c x ∧ Hs.wl h c x ≤ h.lo (stepC h c x d).pos (stepC h c x d).vel ∧ (-7000000 ≤ (stepC h c x d).pos ∧ (stepC h c x d).pos ≤ 7000000 ∧ -500 ≤ (stepC h c x d).vel ∧ (stepC h c x d).vel ≤ 500)) := fun d e1 e2 => ⟨worst_hi ck e2, worst_lo ck e1, step_env ck⟩
  obtain ⟨wh, hwh⟩ : ∃ v, Hs.wh h c x = v := ⟨_, rfl⟩
  obtain ⟨wl, hwl⟩ : ∃ v, Hs.wl h c x = v := ⟨_, rfl⟩
  rw [hwh, hwl] at HA i1
  rw [hwh] at hw0 i2 B1
  rw [hwl] at hl0 i3 B2
  have en1 : IntKind.i64.wrap (-h.dr) = -h.dr := IntWalk.i64_in _ (by omega)
  go_upto_region 5 with (first | (go_at_call 8; refine (implWorstHigh_any h c x _).mono ?_; rw [hk, hw0]; rintro e w3 ⟨rfl, hb⟩; have F0 : Hid (HAt w3 b1 h) := F0.out.below hb F0.out.lt; have F1 : Hid (CW w3 b2 c) := F1.out.below hb F1.out.lt; have F2 : Hid (XW w3 b3 x) := F2.out.below hb F2.out.lt; have FB : Hid (Below w.heap.size w w3) := FB.out.trans (hb.mono FB.out.size); clear hb; obtain ⟨x0_0, x0_1, x0_2, x0_3, x0_4, x0_5, x0_6, x0_7, x0_8, x0_9, x0_10, x0_11⟩ := F0.out; obtain ⟨x1_0, x1_1, x1_2, -, -, -⟩ := F1.out; obtain ⟨x2_0, x2_1, x2_2, -, -, -⟩ := F2.out) | (refine store_new [.int .i64 0, .int .i64 wh] 33 _ _ (by kernel_rfl) (by kernel_rfl) (by kernel_rfl) rfl rfl rfl rfl ?_))
  obtain ⟨b4, hbb⟩ : ∃ b, b = w3.heap.size := ⟨_, rfl⟩
  obtain ⟨w4, hw2⟩ : ∃ W, W = w3.alloc (.cells ([.int .i64 0, .int .i64 wh] : List Value).toArray 33) := ⟨_, rfl⟩
  have F0 : Hid (HAt w4 b1 h) := by rw [hw2]; exact F0.out.alloc _
  have F1 : Hid (CW w4 b2 c) := by rw [hw2]; exact F1.out.alloc _
  have F2 : Hid (XW w4 b3 x) := by rw [hw2]; exact F2.out.alloc _
  have FB : Hid (Below w.heap.size w w4) := by rw [hw2]; exact FB.out.alloc FB.out.size _
  have FH : Hid (Blk w4 b4 [.int .i64 0, .int .i64 wh]) := by rw [hw2]; exact Blk.at_ w3 ([.int .i64 0, .int .i64 wh] : List Value).toArray _ _ hbb
  rw [← hw2, ← hbb]
  clear hbb hw2
  obtain ⟨x0_0, x0_1, x0_2, x0_3, x0_4, x0_5, x0_6, x0_7, x0_8, x0_9, x0_10, x0_11⟩ := F0.out
  obtain ⟨x1_0, x1_1, x1_2, -, -, -⟩ := F1.out
  obtain ⟨x2_0, x2_1, x2_2, -, -, -⟩ := F2.out
  go_upto_region 6 with (first | (go_at_call 9; refine (implWorstLow_any h c x _).mono ?_; rw [hk, hl0]; rintro e w5 ⟨rfl, hb⟩; have F0 : Hid (HAt w5 b1 h) := F0.out.below hb F0.out.lt; have F1 : Hid (CW w5 b2 c) := F1.out.below hb F1.out.lt; have F2 : Hid (XW w5 b3 x) := F2.out.below hb F2.out.lt; have FH : Hid (Blk w5 b4 [.int .i64 0, .int .i64 wh]) := FH.out.below hb FH.out.lt; have FB : Hid (Below w.heap.size w w5) := FB.out.trans (hb.mono FB.out.size); clear hb; obtain ⟨x0_0, x0_1, x0_2, x0_3, x0_4, x0_5, x0_6, x0_7, x0_8, x0_9, x0_10, x0_11⟩ := F0.out; obtain ⟨x1_0, x1_1, x1_2, -, -, -⟩ := F1.out; obtain ⟨x2_0, x2_1, x2_2, -, -, -⟩ := F2.out) | (refine store_new [.int .i64 0, .int .i64 wl] 33 _ _ (by kernel_rfl) (by kernel_rfl) (by kernel_rfl) rfl rfl rfl rfl ?_))
  obtain ⟨b5, hbb⟩ : ∃ b, b = w5.heap.size := ⟨_, rfl⟩
  obtain ⟨w6, hw2⟩ : ∃ W, W = w5.alloc (.cells ([.int .i64 0, .int .i64 wl] : List Value).toArray 33) := ⟨_, rfl⟩
  have F0 : Hid (HAt w6 b1 h) := by rw [hw2]; exact F0.out.alloc _
  have F1 : Hid (CW w6 b2 c) := by rw [hw2]; exact F1.out.alloc _
  have F2 : Hid (XW w6 b3 x) := by rw [hw2]; exact F2.out.alloc _
  have FH : Hid (Blk w6 b4 [.int .i64 0, .int .i64 wh]) := by rw [hw2]; exact FH.out.alloc _
  have FB : Hid (Below w.heap.size w w6) := by rw [hw2]; exact FB.out.alloc FB.out.size _
  have FL : Hid (Blk w6 b5 [.int .i64 0, .int .i64 wl]) := by rw [hw2]; exact Blk.at_ w5 ([.int .i64 0, .int .i64 wl] : List Value).toArray _ _ hbb
  rw [← hw2, ← hbb]
  clear hbb hw2
  clear hw0 hl0 hwh hwl hk ck o en1
  have en1 : IntKind.i64.wrap (-h.dr) = -h.dr := IntWalk.i64_in _ (by omega)
  obtain ⟨x0_0, x0_1, x0_2, x0_3, x0_4, x0_5, x0_6, x0_7, x0_8, x0_9, x0_10, x0_11⟩ := F0.out
  obtain ⟨x1_0, x1_1, x1_2, -, -, -⟩ := F1.out
  obtain ⟨x2_0, x2_1, x2_2, -, -, -⟩ := F2.out
  have u0 := FH.out.c 0 _ rfl
  have u1 := FH.out.c 1 _ rfl
  have v0 := FL.out.c 0 _ rfl
  have v1 := FL.out.c 1 _ rfl
  go_wp2_with fail
  clear en1
  go_loopw [8] (fun kk wr => ∃ d : Int, kk = .int .i64 d ∧ -h.dr ≤ d ∧ d ≤ h.dr + 1 ∧ HAt wr b1 h ∧ CW wr b2 c ∧ XW wr b3 x ∧ Blk wr b4 [.int .i64 0, .int .i64 wh] ∧ Blk wr b5 [.int .i64 0, .int .i64 wl] ∧ Below w.heap.size w wr) (fun kk _ => (h.dr + 1 - intOf kk).toNat)
  case atStart => exact ⟨-h.dr, rfl, by omega, by omega, F0.out, F1.out, F2.out, FH.out, FL.out, FB.out⟩
  case round =>
    obtain ⟨d, rfl, e1, e2, hF0, hF1, hF2, hFH, hFL, hFB⟩ := hrel
    clear F0 F1 F2 FH FL FB u0 u1 v0 v1
    have F0 : Hid (HAt wr b1 h) := hF0
    have F1 : Hid (CW wr b2 c) := hF1
    have F2 : Hid (XW wr b3 x) := hF2
    have FH : Hid (Blk wr b4 [.int .i64 0, .int .i64 wh]) := hFH
    have FL : Hid (Blk wr b5 [.int .i64 0, .int .i64 wl]) := hFL
    have FB : Hid (Below w.heap.size w wr) := hFB
    clear hF0 hF1 hF2 hFH hFL hFB
    obtain ⟨x0_0, x0_1, x0_2, x0_3, x0_4, x0_5, x0_6, x0_7, x0_8, x0_9, x0_10, x0_11⟩ := F0.out
    obtain ⟨x1_0, x1_1, x1_2, -, -, -⟩ := F1.out
    obtain ⟨x2_0, x2_1, x2_2, -, -, -⟩ := F2.out
    have u0 := FH.out.c 0 _ rfl
    have u1 := FH.out.c 1 _ rfl
    have v0 := FL.out.c 0 _ rfl
    have v1 := FL.out.c 1 _ rfl
    by_cases hlt : d ≤ h.dr
    · obtain ⟨s1, s2, s3, s4, s5, s6⟩ := HA.out d e1 hlt
      have hd : inB d (-h.dr) h.dr = true := inB_iff.2 ⟨e1, hlt⟩
      obtain ⟨g, hg⟩ : ∃ g, stepC h c x d = g := ⟨_, rfl⟩
      rw [hg] at s1 s2 s3 s4 s5 s6
      have ed : IntKind.i64.wrap (d + 1) = d + 1 := IntWalk.i64_in _ (by omega)
      go_upto_region 12 with (first | (go_at_call 11; refine (implStepCar_yes h c x d k1 k2 hd g hg _).mono ?_; rintro e w6 ⟨rfl, hb⟩; have F0 : Hid (HAt w6 b1 h) := F0.out.below hb F0.out.lt; have F1 : Hid (CW w6 b2 c) := F1.out.below hb F1.out.lt; have F2 : Hid (XW w6 b3 x) := F2.out.below hb F2.out.lt; have FH : Hid (Blk w6 b4 [.int .i64 0, .int .i64 wh]) := FH.out.below hb FH.out.lt; have FL : Hid (Blk w6 b5 [.int .i64 0, .int .i64 wl]) := FL.out.below hb FL.out.lt; have FB : Hid (Below w.heap.size w w6) := FB.out.trans (hb.mono FB.out.size); clear hb; obtain ⟨x0_0, x0_1, x0_2, x0_3, x0_4, x0_5, x0_6, x0_7, x0_8, x0_9, x0_10, x0_11⟩ := F0.out; obtain ⟨x1_0, x1_1, x1_2, -, -, -⟩ := F1.out; obtain ⟨x2_0, x2_1, x2_2, -, -, -⟩ := F2.out) | (refine store_new [.int .i64 0, .int .i64 g.pos, .int .i64 g.vel, .int .i64 g.door] 36 _ _ (by kernel_rfl) (by kernel_rfl) (by kernel_rfl) rfl rfl rfl rfl ?_))
      obtain ⟨b6, hbb⟩ : ∃ b, b = w6.heap.size := ⟨_, rfl⟩
      obtain ⟨w7, hw2⟩ : ∃ W, W = w6.alloc (.cells ([.int .i64 0, .int .i64 g.pos, .int .i64 g.vel, .int .i64 g.door] : List Value).toArray 36) := ⟨_, rfl⟩
      have F0 : Hid (HAt w7 b1 h) := by rw [hw2]; exact F0.out.alloc _
      have F1 : Hid (CW w7 b2 c) := by rw [hw2]; exact F1.out.alloc _
      have F2 : Hid (XW w7 b3 x) := by rw [hw2]; exact F2.out.alloc _
      have FH : Hid (Blk w7 b4 [.int .i64 0, .int .i64 wh]) := by rw [hw2]; exact FH.out.alloc _
      have FL : Hid (Blk w7 b5 [.int .i64 0, .int .i64 wl]) := by rw [hw2]; exact FL.out.alloc _
      have FB : Hid (Below w.heap.size w w7) := by rw [hw2]; exact FB.out.alloc FB.out.size _
      have FC : Hid (Blk w7 b6 [.int .i64 0, .int .i64 g.pos, .int .i64 g.vel, .int .i64 g.door]) := by rw [hw2]; exact Blk.at_ w6 ([.int .i64 0, .int .i64 g.pos, .int .i64 g.vel, .int .i64 g.door] : List Value).toArray _ _ hbb
      rw [← hw2, ← hbb]
      clear hbb hw2
      obtain ⟨x0_0, x0_1, x0_2, x0_3, x0_4, x0_5, x0_6, x0_7, x0_8, x0_9, x0_10, x0_11⟩ := F0.out
      obtain ⟨x1_0, x1_1, x1_2, -, -, -⟩ := F1.out
      obtain ⟨x2_0, x2_1, x2_2, -, -, -⟩ := F2.out
      have y0 := FC.out.c 0 _ rfl
      have y1 := FC.out.c 1 _ rfl
      have y2 := FC.out.c 2 _ rfl
      have y3 := FC.out.c 3 _ rfl
      have u0 := FH.out.c 0 _ rfl
      have u1 := FH.out.c 1 _ rfl
      have v0 := FL.out.c 0 _ rfl
      have v1 := FL.out.c 1 _ rfl
      clear hg hd
      by_cases vp : 0 < g.vel
      · have sm := stop_small g.vel h.br (by omega) (by omega) (by omega)
        have eh : h.hi g.pos g.vel = g.pos + stopP g.vel h.br := if_pos vp
        have el : h.lo g.pos g.vel = g.pos := if_neg (by omega)
        rw [eh] at s1
        rw [el] at s2
        have ew : IntKind.i64.wrap (g.pos + stopP g.vel h.br) = g.pos + stopP g.vel h.br := IntWalk.i64_in _ (by omega)
        have fp : ∀ W, (Instr.field 33 (.agg #[.int .i64 0, .int .i64 (stopP g.vel h.br)]) 1).run Try.prog W = .ok (.int .i64 (stopP g.vel h.br)) W := fun W => by kernel_rfl
        have c1 : decide (wh < g.pos + stopP g.vel h.br) = false := decide_eq_false (by omega)
        have c2 : decide (g.pos < wl) = false := decide_eq_false (by omega)
        clear eh el
        go_wp2_with (go_at_call 12; refine (implStopPath_in g.vel h.br (by omega) (by omega) (by omega) (by omega) _).mono ?_; rintro e w9 ⟨rfl, hw9⟩; have hb : Below w7.heap.size w7 w9 := (by rw [hw9]; exact (Below.refl _ _).alloc (Nat.le_refl _) _); clear hw9; have F0 : Hid (HAt w9 b1 h) := F0.out.below hb F0.out.lt; have F1 : Hid (CW w9 b2 c) := F1.out.below hb F1.out.lt; have F2 : Hid (XW w9 b3 x) := F2.out.below hb F2.out.lt; have FH : Hid (Blk w9 b4 [.int .i64 0, .int .i64 wh]) := FH.out.below hb FH.out.lt; have FL : Hid (Blk w9 b5 [.int .i64 0, .int .i64 wl]) := FL.out.below hb FL.out.lt; have FC : Hid (Blk w9 b6 [.int .i64 0, .int .i64 g.pos, .int .i64 g.vel, .int .i64 g.door]) := FC.out.below hb FC.out.lt; have FB : Hid (Below w.heap.size w w9) := FB.out.trans (hb.mono FB.out.size); clear hb; obtain ⟨x0_0, x0_1, x0_2, x0_3, x0_4, x0_5, x0_6, x0_7, x0_8, x0_9, x0_10, x0_11⟩ := F0.out; obtain ⟨x1_0, x1_1, x1_2, -, -, -⟩ := F1.out; obtain ⟨x2_0, x2_1, x2_2, -, -, -⟩ := F2.out; have y0 := FC.out.c 0 _ rfl; have y1 := FC.out.c 1 _ rfl; have y2 := FC.out.c 2 _ rfl; have y3 := FC.out.c 3 _ rfl; have u0 := FH.out.c 0 _ rfl; have u1 := FH.out.c 1 _ rfl; have v0 := FL.out.c 0 _ rfl; have v1 := FL.out.c 1 _ rfl)
        go_roundw
        case rel => exact ⟨d + 1, by first | rfl | (rw [ed]), by omega, by omega, F0.out, F1.out, F2.out, FH.out, FL.out, FB.out⟩
        case measure => simp [intOf, ed]; omega
      · have sm : 0 ≤ stopP (-g.vel) h.br ∧ stopP (-g.vel) h.br ≤ 4000000 := by
          by_cases z : g.vel = 0
          · rw [z]; have : stopP (-0) h.br = 0 := (by unfold stopP; simp); omega
          · exact stop_small (-g.vel) h.br (by omega) (by omega) (by omega)
        have eh : h.hi g.pos g.vel = g.pos := if_neg vp
        have el : h.lo g.pos g.vel = g.pos - stopP (-g.vel) h.br := by
          unfold Hs.lo
          by_cases z : g.vel < 0
          · rw [if_pos z]
          · rw [if_neg z, show g.vel = 0 by omega]; have : stopP (-0) h.br = 0 := (by unfold stopP; simp); omega
        rw [eh] at s1
        rw [el] at s2
        have en2 : IntKind.i64.wrap (-g.vel) = -g.vel := IntWalk.i64_in _ (by omega)
        have ew : IntKind.i64.wrap (g.pos - stopP (-g.vel) h.br) = g.pos - stopP (-g.vel) h.br := IntWalk.i64_in _ (by omega)
        have fp : ∀ W, (Instr.field 33 (.agg #[.int .i64 0, .int .i64 (stopP (-g.vel) h.br)]) 1).run Try.prog W = .ok (.int .i64 (stopP (-g.vel) h.br)) W := fun W => by kernel_rfl
        have c1 : decide (wh < g.pos) = false := decide_eq_false (by omega)
        have c2 : decide (g.pos - stopP (-g.vel) h.br < wl) = false := decide_eq_false (by omega)
        have vq : decide (0 < g.vel) = false := decide_eq_false vp
        clear eh el
        go_wp2_with (go_at_call 12; refine (implStopPath_in (-g.vel) h.br (by omega) (by omega) (by omega) (by omega) _).mono ?_; rintro e w9 ⟨rfl, hw9⟩; have hb : Below w7.heap.size w7 w9 := (by rw [hw9]; exact (Below.refl _ _).alloc (Nat.le_refl _) _); clear hw9; have F0 : Hid (HAt w9 b1 h) := F0.out.below hb F0.out.lt; have F1 : Hid (CW w9 b2 c) := F1.out.below hb F1.out.lt; have F2 : Hid (XW w9 b3 x) := F2.out.below hb F2.out.lt; have FH : Hid (Blk w9 b4 [.int .i64 0, .int .i64 wh]) := FH.out.below hb FH.out.lt; have FL : Hid (Blk w9 b5 [.int .i64 0, .int .i64 wl]) := FL.out.below hb FL.out.lt; have FC : Hid (Blk w9 b6 [.int .i64 0, .int .i64 g.pos, .int .i64 g.vel, .int .i64 g.door]) := FC.out.below hb FC.out.lt; have FB : Hid (Below w.heap.size w w9) := FB.out.trans (hb.mono FB.out.size); clear hb; obtain ⟨x0_0, x0_1, x0_2, x0_3, x0_4, x0_5, x0_6, x0_7, x0_8, x0_9, x0_10, x0_11⟩ := F0.out; obtain ⟨x1_0, x1_1, x1_2, -, -, -⟩ := F1.out; obtain ⟨x2_0, x2_1, x2_2, -, -, -⟩ := F2.out; have y0 := FC.out.c 0 _ rfl; have y1 := FC.out.c 1 _ rfl; have y2 := FC.out.c 2 _ rfl; have y3 := FC.out.c 3 _ rfl; have u0 := FH.out.c 0 _ rfl; have u1 := FH.out.c 1 _ rfl; have v0 := FL.out.c 0 _ rfl; have v1 := FL.out.c 1 _ rfl)
        go_roundw
        case rel => exact ⟨d + 1, by first | rfl | (rw [ed]), by omega, by omega, F0.out, F1.out, F2.out, FH.out, FL.out, FB.out⟩
        case measure => simp [intOf, ed]; omega
    · have t1 : decide (wl ≤ wh) = true := decide_eq_true i1
      have t2 : decide (c.pos - h.sp ≤ wh) = true := decide_eq_true i2
      have t3 : decide (wl ≤ c.pos + h.sp) = true := decide_eq_true i3
      have w1_ : IntKind.i64.wrap (c.pos - h.sp) = c.pos - h.sp := IntWalk.i64_in _ (by omega)
      have w2_ : IntKind.i64.wrap (c.pos + h.sp) = c.pos + h.sp := IntWalk.i64_in _ (by omega)
      go_wp2_with fail
      go_ret
      exact ⟨by simp, FB.out⟩
end Go.Proofs.Ytclfdfcakmgffaa
