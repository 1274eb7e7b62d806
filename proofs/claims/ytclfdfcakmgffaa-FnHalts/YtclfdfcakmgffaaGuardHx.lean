/-
  The law FnHalts, walked.
-/
import Derived.Test.YtclfdfcakmgffaaGuardT
namespace Go.Proofs.Ytclfdfcakmgffaa
open Go.RowKit Pl
set_option linter.unusedSimpArgs false
set_option linter.unusedVariables false

set_option maxRecDepth 20000 in
set_option maxHeartbeats 32000000 in
theorem halts_walk (a0 : Option Addr) (len0 cap0 : Nat) (w : World) (hc : CodeIn w w.heap.size a0 len0) (hbig : len0 ≤ 1048576) :
    Calls Try.prog 5 #[.slice a0 len0 cap0] w fun e w' => e = .returned (.bool true) ∧ Below w.heap.size w w' := by
  have HC : Hid (CodeIn w w.heap.size a0 len0) := hc
  clear hc
  go_enter Try.func5, Try.ntmps5
  go_wp2_with (first | (go_at_call 6; refine (lwBig_no _ _ _ hbig _).mono ?_; rintro e w' ⟨rfl, hw⟩; obtain rfl := hw.symm; clear hw))
  refine (DrawHaltShaft_any a0 len0 cap0 _ HC.out).mono ?_
  rintro e w1 ⟨h, s, rfl, hb⟩
  clear HC hbig
  go_upto_region 4 with fail
  have hsz := hb.size
  obtain ⟨w2, hw2⟩ : ∃ w2, w2 = (w1.alloc (.cells #[.int .i64 h.fl, .int .i64 h.gp, .int .i64 h.ln, .int .i64 h.rf, .int .i64 h.sp, .int .i64 h.pu, .int .i64 h.br, .int .i64 h.dr, .int .i64 h.lv, .int .i64 h.dO, .int .i64 h.ld, .int .i64 h.qu] 25)).alloc (.cells #[.int .i64 s.lo.pos, .int .i64 s.lo.vel, .int .i64 s.lo.door, .int .i64 s.up.pos, .int .i64 s.up.vel, .int .i64 s.up.door] 40) := ⟨_, rfl⟩
  obtain ⟨b1, hb1⟩ : ∃ b1, b1 = w1.heap.size := ⟨_, rfl⟩
  obtain ⟨b2, hb2⟩ : ∃ b2, b2 = w1.heap.size + 1 := ⟨_, rfl⟩
  have l12 : b1 < b2 := by omega
  have lw1 : w.heap.size ≤ b1 := by omega
  have F0 : Hid (HAt w2 b1 h) := by rw [hw2]; exact (HAt.at_ w1 h _ _ hb1).alloc _
  have F1 : Hid (SW w2 b2 s) := by rw [hw2]; exact SW.at_ _ s _ _ (by simp; omega)
  have FB : Hid (Below w.heap.size w w2) := by rw [hw2]; exact (hb.alloc hb.size _).alloc (by simp; omega) _
  rw [← hw2, ← hb2, ← hb1]
  clear hw2 hb1 hb2 hb hsz
  obtain ⟨x0_0, x0_1, x0_2, x0_3, x0_4, x0_5, x0_6, x0_7, x0_8, x0_9, x0_10, x0_11⟩ := F0.out
  obtain ⟨x1_0, x1_1, x1_2, x1_3, x1_4, x1_5, -, -, -, -, -, -⟩ := F1.out
  by_cases hk : h.shaft s = 0
  case neg =>
    have hv : Hs.haltV h s = 0 := if_neg hk
    have hn : (h.shaft s != 0) = true := by simpa using hk
    clear hk
    go_upto_region 5 with (first | (go_at_call 19; refine (implHaltShaft_any h s _).mono ?_; rw [hv]; rintro e w3 ⟨rfl, hb⟩; have F0 : Hid (HAt w3 b1 h) := F0.out.below hb F0.out.lt; have F1 : Hid (SW w3 b2 s) := F1.out.below hb F1.out.lt; have FB : Hid (Below w.heap.size w w3) := FB.out.trans (hb.mono FB.out.size); clear hb; obtain ⟨x0_0, x0_1, x0_2, x0_3, x0_4, x0_5, x0_6, x0_7, x0_8, x0_9, x0_10, x0_11⟩ := F0.out; obtain ⟨x1_0, x1_1, x1_2, x1_3, x1_4, x1_5, -, -, -, -, -, -⟩ := F1.out) | (refine store_new [.int .i64 (h.shaft s), .int .i64 0] 33 _ _ (by kernel_rfl) (by kernel_rfl) (by kernel_rfl) rfl rfl rfl rfl ?_))
    obtain ⟨b3, hbb⟩ : ∃ b, b = w3.heap.size := ⟨_, rfl⟩
    obtain ⟨w4, hw2⟩ : ∃ W, W = w3.alloc (.cells ([.int .i64 (h.shaft s), .int .i64 0] : List Value).toArray 33) := ⟨_, rfl⟩
    have F0 : Hid (HAt w4 b1 h) := by rw [hw2]; exact F0.out.alloc _
    have F1 : Hid (SW w4 b2 s) := by rw [hw2]; exact F1.out.alloc _
    have FB : Hid (Below w.heap.size w w4) := by rw [hw2]; exact FB.out.alloc FB.out.size _
    have FN : Hid (Blk w4 b3 [.int .i64 (h.shaft s), .int .i64 0]) := by rw [hw2]; exact Blk.at_ w3 ([.int .i64 (h.shaft s), .int .i64 0] : List Value).toArray _ _ hbb
    rw [← hw2, ← hbb]
    clear hbb hw2
    have z0_ := FN.out.c 0 _ rfl
    go_wp2_with fail
    clear z0_
    have F0 : Hid (HAt w4.drew b1 h) := F0.out.below (Below.refl _ _).drew F0.out.lt
    have F1 : Hid (SW w4.drew b2 s) := F1.out.below (Below.refl _ _).drew F1.out.lt
    have FN : Hid (Blk w4.drew b3 [.int .i64 (h.shaft s), .int .i64 0]) := FN.out.below (Below.refl _ _).drew FN.out.lt
    have FB : Hid (Below w.heap.size w w4.drew) := FB.out.drew
    obtain ⟨x0_0, x0_1, x0_2, x0_3, x0_4, x0_5, x0_6, x0_7, x0_8, x0_9, x0_10, x0_11⟩ := F0.out
    obtain ⟨x1_0, x1_1, x1_2, x1_3, x1_4, x1_5, y1_0, y1_1, y1_2, y1_3, y1_4, y1_5⟩ := F1.out
    have z0_ := FN.out.c 0 _ rfl
    refine wp_region_held_drew (S := (fun w'' => w''.cell? ⟨b1, 0, none⟩ = some (.int .i64 h.fl) ∧ w''.cell? ⟨b1, 1, none⟩ = some (.int .i64 h.gp) ∧ w''.cell? ⟨b1, 2, none⟩ = some (.int .i64 h.ln) ∧ w''.cell? ⟨b1, 3, none⟩ = some (.int .i64 h.rf) ∧ w''.cell? ⟨b1, 4, none⟩ = some (.int .i64 h.sp) ∧ w''.cell? ⟨b1, 5, none⟩ = some (.int .i64 h.pu) ∧ w''.cell? ⟨b1, 6, none⟩ = some (.int .i64 h.br) ∧ w''.cell? ⟨b1, 7, none⟩ = some (.int .i64 h.dr) ∧ w''.cell? ⟨b1, 8, none⟩ = some (.int .i64 h.lv) ∧ w''.cell? ⟨b1, 9, none⟩ = some (.int .i64 h.dO) ∧ w''.cell? ⟨b1, 10, none⟩ = some (.int .i64 h.ld) ∧ w''.cell? ⟨b1, 11, none⟩ = some (.int .i64 h.qu) ∧ w''.cell? ⟨b2, 0, none⟩ = some (.int .i64 s.lo.pos) ∧ w''.cell? ⟨b2, 1, none⟩ = some (.int .i64 s.lo.vel) ∧ w''.cell? ⟨b2, 2, none⟩ = some (.int .i64 s.lo.door) ∧ w''.cell? ⟨b2, 3, none⟩ = some (.int .i64 s.up.pos) ∧ w''.cell? ⟨b2, 4, none⟩ = some (.int .i64 s.up.vel) ∧ w''.cell? ⟨b2, 5, none⟩ = some (.int .i64 s.up.door) ∧ w''.cell? ⟨b3, 0, none⟩ = some (.int .i64 (h.shaft s)))) (by kernel_rfl) (by (try dsimp only); first | exact ⟨x0_0, x0_1, x0_2, x0_3, x0_4, x0_5, x0_6, x0_7, x0_8, x0_9, x0_10, x0_11, x1_0, x1_1, x1_2, x1_3, x1_4, x1_5, z0_⟩ | go_keep) (fun hHeld => ?_)
    obtain ⟨v_1, hw1⟩ : ∃ v_1, v_1 = w4.drew := ⟨_, rfl⟩
    have F0 : Hid (HAt v_1 b1 h) := by rw [hw1]; exact F0.out
    have F1 : Hid (SW v_1 b2 s) := by rw [hw1]; exact F1.out
    have FN : Hid (Blk v_1 b3 [.int .i64 (h.shaft s), .int .i64 0]) := by rw [hw1]; exact FN.out
    have FB : Hid (Below w.heap.size w v_1) := by rw [hw1]; exact FB.out
    rw [← hw1] at hHeld ⊢
    clear hw1
    obtain ⟨x0_0, x0_1, x0_2, x0_3, x0_4, x0_5, x0_6, x0_7, x0_8, x0_9, x0_10, x0_11⟩ := F0.out
    obtain ⟨x1_0, x1_1, x1_2, x1_3, x1_4, x1_5, y1_0, y1_1, y1_2, y1_3, y1_4, y1_5⟩ := F1.out
    have z0_ := FN.out.c 0 _ rfl
    refine tkz 0 rfl ?_
    refine tkz 1 rfl ?_
    refine tkz 3 rfl ?_
    refine tkz 4 rfl ?_
    refine wpAnyH_ready (rs := [2]) (by kernel_rfl) (by simp) ?_
    refine (AllReadyH.cons rfl (fun K hK => ?_) AllReadyH.nil)
    go_simp
    refine (specShaftFault_any h s _).mono ?_
    rintro e v_2 ⟨rfl, hb⟩
    have F0 : Hid (HAt v_2 b1 h) := F0.out.below hb F0.out.lt
    have F1 : Hid (SW v_2 b2 s) := F1.out.below hb F1.out.lt
    have FN : Hid (Blk v_2 b3 [.int .i64 (h.shaft s), .int .i64 0]) := FN.out.below hb FN.out.lt
    have FB : Hid (Below w.heap.size w v_2) := FB.out.trans (hb.mono FB.out.size)
    clear hb
    obtain ⟨x0_0, x0_1, x0_2, x0_3, x0_4, x0_5, x0_6, x0_7, x0_8, x0_9, x0_10, x0_11⟩ := F0.out
    obtain ⟨x1_0, x1_1, x1_2, x1_3, x1_4, x1_5, y1_0, y1_1, y1_2, y1_3, y1_4, y1_5⟩ := F1.out
    have z0_ := FN.out.c 0 _ rfl
    try dsimp only
    refine hK.out _ _ (by (try dsimp only); first | exact ⟨x0_0, x0_1, x0_2, x0_3, x0_4, x0_5, x0_6, x0_7, x0_8, x0_9, x0_10, x0_11, x1_0, x1_1, x1_2, x1_3, x1_4, x1_5, z0_⟩ | go_keep) (fun hHeld => ?_)
    clear hK K
    try simp only [Act.put, List.getElem_toArray, List.getElem_cons_succ, List.getElem_cons_zero, List.setIfInBounds_toArray, List.set_cons_zero, List.set_cons_succ]
    refine tkz 5 rfl ?_
    refine tkz 6 rfl ?_
    refine wpAnyH_done (by kernel_rfl) ?_ _
    go_wp2_with fail
    go_ret
    exact ⟨by simp, FB.out⟩
  have HSt : Hid (Hk h s 0 s) := Hk.start hk
  have hv : Hs.haltV h s = Hs.haltP h s := if_pos hk
  obtain ⟨n, hn⟩ : ∃ n, Hs.haltP h s = n := ⟨_, rfl⟩
  have HN : Hid (Hs.haltP h s = n) := hn
  have nb : n ≤ 100000 ∧ 0 ≤ n := by rw [← hn]; exact halt_small hk
  rw [hn] at hv
  clear hn
  go_upto_region 5 with (first | (go_at_call 19; refine (implHaltShaft_any h s _).mono ?_; rw [hk, hv]; rintro e w3 ⟨rfl, hb⟩; have F0 : Hid (HAt w3 b1 h) := F0.out.below hb F0.out.lt; have F1 : Hid (SW w3 b2 s) := F1.out.below hb F1.out.lt; have FB : Hid (Below w.heap.size w w3) := FB.out.trans (hb.mono FB.out.size); clear hb; obtain ⟨x0_0, x0_1, x0_2, x0_3, x0_4, x0_5, x0_6, x0_7, x0_8, x0_9, x0_10, x0_11⟩ := F0.out; obtain ⟨x1_0, x1_1, x1_2, x1_3, x1_4, x1_5, -, -, -, -, -, -⟩ := F1.out) | (refine store_new [.int .i64 0, .int .i64 n] 33 _ _ (by kernel_rfl) (by kernel_rfl) (by kernel_rfl) rfl rfl rfl rfl ?_))
  obtain ⟨b3, hbb⟩ : ∃ b, b = w3.heap.size := ⟨_, rfl⟩
  obtain ⟨w4, hw2⟩ : ∃ W, W = w3.alloc (.cells ([.int .i64 0, .int .i64 n] : List Value).toArray 33) := ⟨_, rfl⟩
  have F0 : Hid (HAt w4 b1 h) := by rw [hw2]; exact F0.out.alloc _
  have F1 : Hid (SW w4 b2 s) := by rw [hw2]; exact F1.out.alloc _
  have FB : Hid (Below w.heap.size w w4) := by rw [hw2]; exact FB.out.alloc FB.out.size _
  have FN : Hid (Blk w4 b3 [.int .i64 0, .int .i64 n]) := by rw [hw2]; exact Blk.at_ w3 ([.int .i64 0, .int .i64 n] : List Value).toArray _ _ hbb
  rw [← hw2, ← hbb]
  clear hbb hw2
  obtain ⟨x1_0, x1_1, x1_2, x1_3, x1_4, x1_5, -, -, -, -, -, -⟩ := F1.out
  have u0 := FN.out.c 0 _ rfl
  have u1 := FN.out.c 1 _ rfl
  have l13 := F1.out.lt
  go_upto_region 8 with (refine store_new [.int .i64 s.lo.pos, .int .i64 s.lo.vel, .int .i64 s.lo.door, .int .i64 s.up.pos, .int .i64 s.up.vel, .int .i64 s.up.door] 40 _ _ (by kernel_rfl) (by kernel_rfl) (by kernel_rfl) rfl rfl rfl rfl ?_)
  have lF0 := F0.out.lt
  have lFN := FN.out.lt
  obtain ⟨b4, hbb⟩ : ∃ b, b = w4.heap.size := ⟨_, rfl⟩
  obtain ⟨w5, hw5⟩ : ∃ W, W = w4.alloc (.cells ([.int .i64 s.lo.pos, .int .i64 s.lo.vel, .int .i64 s.lo.door, .int .i64 s.up.pos, .int .i64 s.up.vel, .int .i64 s.up.door] : List Value).toArray 40) := ⟨_, rfl⟩
  rw [← hbb] at lF0 lFN
  have l14 : b1 < b4 := lF0
  have F0 : Hid (HAt w5 b1 h) := by rw [hw5]; exact F0.out.alloc _
  have FN : Hid (Blk w5 b3 [.int .i64 0, .int .i64 n]) := by rw [hw5]; exact FN.out.alloc _
  have FA : Hid (Blk w5 b4 [.int .i64 s.lo.pos, .int .i64 s.lo.vel, .int .i64 s.lo.door, .int .i64 s.up.pos, .int .i64 s.up.vel, .int .i64 s.up.door]) := by rw [hw5]; exact Blk.at_ w4 ([.int .i64 s.lo.pos, .int .i64 s.lo.vel, .int .i64 s.lo.door, .int .i64 s.up.pos, .int .i64 s.up.vel, .int .i64 s.up.door] : List Value).toArray _ _ hbb
  have FB : Hid (Below w.heap.size w w5) := by rw [hw5]; exact FB.out.alloc FB.out.size _
  rw [← hw5, ← hbb]
  clear hw5 hbb u0 u1 l13 F1
  go_wp2_with fail
  go_loopw [7] (fun kk wr => ∃ (k : Nat) (t : Sh), kk = .int .i64 k ∧ (k : Int) ≤ n ∧ Hk h s k t ∧ HAt wr b1 h ∧ Blk wr b3 [.int .i64 0, .int .i64 n] ∧ Blk wr b4 [.int .i64 t.lo.pos, .int .i64 t.lo.vel, .int .i64 t.lo.door, .int .i64 t.up.pos, .int .i64 t.up.vel, .int .i64 t.up.door] ∧ Below w.heap.size w wr) (fun kk _ => n.toNat - (intOf kk).toNat)
  case atStart => exact ⟨0, s, rfl, by omega, HSt.out, F0.out, FN.out, FA.out, FB.out⟩
  case round =>
    obtain ⟨k, t, rfl, hkn, hK, hF0, hFN, hFA, hFB⟩ := hrel
    clear F0 FN FA FB HSt
    have F0 : Hid (HAt wr b1 h) := hF0
    have FN : Hid (Blk wr b3 [.int .i64 0, .int .i64 n]) := hFN
    have FA : Hid (Blk wr b4 [.int .i64 t.lo.pos, .int .i64 t.lo.vel, .int .i64 t.lo.door, .int .i64 t.up.pos, .int .i64 t.up.vel, .int .i64 t.up.door]) := hFA
    have FB : Hid (Below w.heap.size w wr) := hFB
    have HK0 : Hid (Hk h s k t) := hK
    have HK1 : Hid (Hs.stepK h t (bzc t.lo) (bzc t.up) 0 0 = 0 ∧ Hs.stepV h t (bzc t.lo) (bzc t.up) 0 0 = hstep h t ∧ h.shaft (hstep h t) = 0) := hstep_ok hK.ok
    clear hF0 hFN hFA hFB hk
    by_cases hlt : (k : Int) < n
    · have no := hK.on (by rw [HN.out]; exact hlt)
      clear hK
      by_cases z : t.lo.vel = 0
      · have y1 : (t.lo.vel == 0) = true := by simpa using z
        have y2 : (t.up.vel == 0) = false := by simpa using fun e => no ⟨z, e⟩
        clear no z
        obtain ⟨x0_0, x0_1, x0_2, x0_3, x0_4, x0_5, x0_6, x0_7, x0_8, x0_9, x0_10, x0_11⟩ := F0.out
        have z0 := FA.out.c 0 _ rfl
        have z1 := FA.out.c 1 _ rfl
        have z2 := FA.out.c 2 _ rfl
        have z3 := FA.out.c 3 _ rfl
        have z4 := FA.out.c 4 _ rfl
        have z5 := FA.out.c 5 _ rfl
        have u0 := FN.out.c 0 _ rfl
        have u1 := FN.out.c 1 _ rfl
        go_upto_region 14 with (refine store_new [.int .i64 0, .bool (t.lo.door == 0), .bool false] 29 _ _ (by kernel_rfl) (by kernel_rfl) (by kernel_rfl) rfl rfl rfl rfl ?_)
        obtain ⟨bx, hbb⟩ : ∃ b, b = wr.heap.size := ⟨_, rfl⟩
        obtain ⟨w5, hw2⟩ : ∃ W, W = wr.alloc (.cells ([.int .i64 0, .bool (t.lo.door == 0), .bool false] : List Value).toArray 29) := ⟨_, rfl⟩
        have F0 : Hid (HAt w5 b1 h) := by rw [hw2]; exact F0.out.alloc _
        have FN : Hid (Blk w5 b3 [.int .i64 0, .int .i64 n]) := by rw [hw2]; exact FN.out.alloc _
        have FA : Hid (Blk w5 b4 [.int .i64 t.lo.pos, .int .i64 t.lo.vel, .int .i64 t.lo.door, .int .i64 t.up.pos, .int .i64 t.up.vel, .int .i64 t.up.door]) := by rw [hw2]; exact FA.out.alloc _
        have FB : Hid (Below w.heap.size w w5) := by rw [hw2]; exact FB.out.alloc FB.out.size _
        have FX : Hid (Blk w5 bx [.int .i64 0, .bool (t.lo.door == 0), .bool false]) := by rw [hw2]; exact Blk.at_ wr ([.int .i64 0, .bool (t.lo.door == 0), .bool false] : List Value).toArray _ _ hbb
        rw [← hw2, ← hbb]
        clear hbb hw2
        have z0 := FA.out.c 0 _ rfl
        have z1 := FA.out.c 1 _ rfl
        have z2 := FA.out.c 2 _ rfl
        have z3 := FA.out.c 3 _ rfl
        have z4 := FA.out.c 4 _ rfl
        have z5 := FA.out.c 5 _ rfl
        go_upto_region 15 with (refine store_new [.int .i64 0, .bool (t.up.door == 0), .bool false] 29 _ _ (by kernel_rfl) (by kernel_rfl) (by kernel_rfl) rfl rfl rfl rfl ?_)
        obtain ⟨by_, hbb⟩ : ∃ b, b = w5.heap.size := ⟨_, rfl⟩
        obtain ⟨w6, hw2⟩ : ∃ W, W = w5.alloc (.cells ([.int .i64 0, .bool (t.up.door == 0), .bool false] : List Value).toArray 29) := ⟨_, rfl⟩
        have F0 : Hid (HAt w6 b1 h) := by rw [hw2]; exact F0.out.alloc _
        have FN : Hid (Blk w6 b3 [.int .i64 0, .int .i64 n]) := by rw [hw2]; exact FN.out.alloc _
        have FA : Hid (Blk w6 b4 [.int .i64 t.lo.pos, .int .i64 t.lo.vel, .int .i64 t.lo.door, .int .i64 t.up.pos, .int .i64 t.up.vel, .int .i64 t.up.door]) := by rw [hw2]; exact FA.out.alloc _
        have FX : Hid (Blk w6 bx [.int .i64 0, .bool (t.lo.door == 0), .bool false]) := by rw [hw2]; exact FX.out.alloc _
        have FB : Hid (Below w.heap.size w w6) := by rw [hw2]; exact FB.out.alloc FB.out.size _
        have FY : Hid (Blk w6 by_ [.int .i64 0, .bool (t.up.door == 0), .bool false]) := by rw [hw2]; exact Blk.at_ w5 ([.int .i64 0, .bool (t.up.door == 0), .bool false] : List Value).toArray _ _ hbb
        rw [← hw2, ← hbb]
        clear hbb hw2
        obtain ⟨x0_0, x0_1, x0_2, x0_3, x0_4, x0_5, x0_6, x0_7, x0_8, x0_9, x0_10, x0_11⟩ := F0.out
        have z0 := FA.out.c 0 _ rfl
        have z1 := FA.out.c 1 _ rfl
        have z2 := FA.out.c 2 _ rfl
        have z3 := FA.out.c 3 _ rfl
        have z4 := FA.out.c 4 _ rfl
        have z5 := FA.out.c 5 _ rfl
        go_upto_region 16 with (first | (refine load_blk 29 _ Try.underlying29 (by kernel_rfl) FX.out rfl rfl rfl ?_) | (refine load_blk 29 _ Try.underlying29 (by kernel_rfl) FY.out rfl rfl rfl ?_) | (go_at_call 14; refine (implStepShaft_any h t (bzc t.lo) (bzc t.up) 0 0 _).mono ?_; rw [HK1.out.1, HK1.out.2.1]; rintro e w8 ⟨rfl, hb⟩; have F0 : Hid (HAt w8 b1 h) := F0.out.below hb F0.out.lt; have FN : Hid (Blk w8 b3 [.int .i64 0, .int .i64 n]) := FN.out.below hb FN.out.lt; have FA : Hid (Blk w8 b4 [.int .i64 t.lo.pos, .int .i64 t.lo.vel, .int .i64 t.lo.door, .int .i64 t.up.pos, .int .i64 t.up.vel, .int .i64 t.up.door]) := FA.out.below hb FA.out.lt; have FB : Hid (Below w.heap.size w w8) := FB.out.trans (hb.mono FB.out.size); clear hb) | (refine store_new [.int .i64 0, .int .i64 (hstep h t).lo.pos, .int .i64 (hstep h t).lo.vel, .int .i64 (hstep h t).lo.door, .int .i64 (hstep h t).up.pos, .int .i64 (hstep h t).up.vel, .int .i64 (hstep h t).up.door] 44 _ _ (by kernel_rfl) (by kernel_rfl) (by kernel_rfl) rfl rfl rfl rfl ?_))
        obtain ⟨br, hbb⟩ : ∃ b, b = w8.heap.size := ⟨_, rfl⟩
        obtain ⟨w9, hw2⟩ : ∃ W, W = w8.alloc (.cells ([.int .i64 0, .int .i64 (hstep h t).lo.pos, .int .i64 (hstep h t).lo.vel, .int .i64 (hstep h t).lo.door, .int .i64 (hstep h t).up.pos, .int .i64 (hstep h t).up.vel, .int .i64 (hstep h t).up.door] : List Value).toArray 44) := ⟨_, rfl⟩
        have F0 : Hid (HAt w9 b1 h) := by rw [hw2]; exact F0.out.alloc _
        have FN : Hid (Blk w9 b3 [.int .i64 0, .int .i64 n]) := by rw [hw2]; exact FN.out.alloc _
        have FA : Hid (Blk w9 b4 [.int .i64 t.lo.pos, .int .i64 t.lo.vel, .int .i64 t.lo.door, .int .i64 t.up.pos, .int .i64 t.up.vel, .int .i64 t.up.door]) := by rw [hw2]; exact FA.out.alloc _
        have FB : Hid (Below w.heap.size w w9) := by rw [hw2]; exact FB.out.alloc FB.out.size _
        have FR : Hid (Blk w9 br [.int .i64 0, .int .i64 (hstep h t).lo.pos, .int .i64 (hstep h t).lo.vel, .int .i64 (hstep h t).lo.door, .int .i64 (hstep h t).up.pos, .int .i64 (hstep h t).up.vel, .int .i64 (hstep h t).up.door]) := by rw [hw2]; exact Blk.at_ w8 ([.int .i64 0, .int .i64 (hstep h t).lo.pos, .int .i64 (hstep h t).lo.vel, .int .i64 (hstep h t).lo.door, .int .i64 (hstep h t).up.pos, .int .i64 (hstep h t).up.vel, .int .i64 (hstep h t).up.door] : List Value).toArray _ _ hbb
        rw [← hw2, ← hbb]
        clear hbb hw2
        have y0 := FR.out.c 0 _ rfl
        have y1 := FR.out.c 1 _ rfl
        have y2 := FR.out.c 2 _ rfl
        have y3 := FR.out.c 3 _ rfl
        have y4 := FR.out.c 4 _ rfl
        have y5 := FR.out.c 5 _ rfl
        have y6 := FR.out.c 6 _ rfl
        go_upto_region 10 with (refine store_blk [.int .i64 (hstep h t).lo.pos, .int .i64 (hstep h t).lo.vel, .int .i64 (hstep h t).lo.door, .int .i64 (hstep h t).up.pos, .int .i64 (hstep h t).up.vel, .int .i64 (hstep h t).up.door] 40 _ _ (by kernel_rfl) (by kernel_rfl) (by kernel_rfl) FA.out rfl rfl rfl rfl ?_)
        obtain ⟨w10, hw10⟩ : ∃ W, W = w9.setRow b4 ([.int .i64 (hstep h t).lo.pos, .int .i64 (hstep h t).lo.vel, .int .i64 (hstep h t).lo.door, .int .i64 (hstep h t).up.pos, .int .i64 (hstep h t).up.vel, .int .i64 (hstep h t).up.door] : List Value).toArray := ⟨_, rfl⟩
        rw [← hw10]
        have F0 : Hid (HAt w10 b1 h) := by rw [hw10]; exact F0.out.below ⟨rfl, rfl, rfl, by simp, fun k hk => setRow_other _ _ k _ (by omega)⟩ l14
        have FN : Hid (Blk w10 b3 [.int .i64 0, .int .i64 n]) := by rw [hw10]; exact FN.out.row_other (by omega) _
        have FA : Hid (Blk w10 b4 [.int .i64 (hstep h t).lo.pos, .int .i64 (hstep h t).lo.vel, .int .i64 (hstep h t).lo.door, .int .i64 (hstep h t).up.pos, .int .i64 (hstep h t).up.vel, .int .i64 (hstep h t).up.door]) := by rw [hw10]; exact FA.out.row _
        have FB : Hid (Below w.heap.size w w10) := by rw [hw10]; exact below_row FB.out (by omega) _
        clear hw10 y0 y1 y2 y3 y4 y5 y6
        go_wp2_with fail
        go_roundw
        case rel => exact ⟨k + 1, hstep h t, by simp, by omega, HK0.out.next, F0.out, FN.out, FA.out, FB.out⟩
        case measure => simp [intOf]; omega
      · have y1 : (t.lo.vel == 0) = false := by simpa using z
        clear no z
        obtain ⟨x0_0, x0_1, x0_2, x0_3, x0_4, x0_5, x0_6, x0_7, x0_8, x0_9, x0_10, x0_11⟩ := F0.out
        have z0 := FA.out.c 0 _ rfl
        have z1 := FA.out.c 1 _ rfl
        have z2 := FA.out.c 2 _ rfl
        have z3 := FA.out.c 3 _ rfl
        have z4 := FA.out.c 4 _ rfl
        have z5 := FA.out.c 5 _ rfl
        have u0 := FN.out.c 0 _ rfl
        have u1 := FN.out.c 1 _ rfl
        go_upto_region 14 with (refine store_new [.int .i64 0, .bool (t.lo.door == 0), .bool false] 29 _ _ (by kernel_rfl) (by kernel_rfl) (by kernel_rfl) rfl rfl rfl rfl ?_)
        obtain ⟨bx, hbb⟩ : ∃ b, b = wr.heap.size := ⟨_, rfl⟩
        obtain ⟨w5, hw2⟩ : ∃ W, W = wr.alloc (.cells ([.int .i64 0, .bool (t.lo.door == 0), .bool false] : List Value).toArray 29) := ⟨_, rfl⟩
        have F0 : Hid (HAt w5 b1 h) := by rw [hw2]; exact F0.out.alloc _
        have FN : Hid (Blk w5 b3 [.int .i64 0, .int .i64 n]) := by rw [hw2]; exact FN.out.alloc _
        have FA : Hid (Blk w5 b4 [.int .i64 t.lo.pos, .int .i64 t.lo.vel, .int .i64 t.lo.door, .int .i64 t.up.pos, .int .i64 t.up.vel, .int .i64 t.up.door]) := by rw [hw2]; exact FA.out.alloc _
        have FB : Hid (Below w.heap.size w w5) := by rw [hw2]; exact FB.out.alloc FB.out.size _
        have FX : Hid (Blk w5 bx [.int .i64 0, .bool (t.lo.door == 0), .bool false]) := by rw [hw2]; exact Blk.at_ wr ([.int .i64 0, .bool (t.lo.door == 0), .bool false] : List Value).toArray _ _ hbb
        rw [← hw2, ← hbb]
        clear hbb hw2
        have z0 := FA.out.c 0 _ rfl
        have z1 := FA.out.c 1 _ rfl
        have z2 := FA.out.c 2 _ rfl
        have z3 := FA.out.c 3 _ rfl
        have z4 := FA.out.c 4 _ rfl
        have z5 := FA.out.c 5 _ rfl
        go_upto_region 15 with (refine store_new [.int .i64 0, .bool (t.up.door == 0), .bool false] 29 _ _ (by kernel_rfl) (by kernel_rfl) (by kernel_rfl) rfl rfl rfl rfl ?_)
        obtain ⟨by_, hbb⟩ : ∃ b, b = w5.heap.size := ⟨_, rfl⟩
        obtain ⟨w6, hw2⟩ : ∃ W, W = w5.alloc (.cells ([.int .i64 0, .bool (t.up.door == 0), .bool false] : List Value).toArray 29) := ⟨_, rfl⟩
        have F0 : Hid (HAt w6 b1 h) := by rw [hw2]; exact F0.out.alloc _
        have FN : Hid (Blk w6 b3 [.int .i64 0, .int .i64 n]) := by rw [hw2]; exact FN.out.alloc _
        have FA : Hid (Blk w6 b4 [.int .i64 t.lo.pos, .int .i64 t.lo.vel, .int .i64 t.lo.door, .int .i64 t.up.pos, .int .i64 t.up.vel, .int .i64 t.up.door]) := by rw [hw2]; exact FA.out.alloc _
        have FX : Hid (Blk w6 bx [.int .i64 0, .bool (t.lo.door == 0), .bool false]) := by rw [hw2]; exact FX.out.alloc _
        have FB : Hid (Below w.heap.size w w6) := by rw [hw2]; exact FB.out.alloc FB.out.size _
        have FY : Hid (Blk w6 by_ [.int .i64 0, .bool (t.up.door == 0), .bool false]) := by rw [hw2]; exact Blk.at_ w5 ([.int .i64 0, .bool (t.up.door == 0), .bool false] : List Value).toArray _ _ hbb
        rw [← hw2, ← hbb]
        clear hbb hw2
        obtain ⟨x0_0, x0_1, x0_2, x0_3, x0_4, x0_5, x0_6, x0_7, x0_8, x0_9, x0_10, x0_11⟩ := F0.out
        have z0 := FA.out.c 0 _ rfl
        have z1 := FA.out.c 1 _ rfl
        have z2 := FA.out.c 2 _ rfl
        have z3 := FA.out.c 3 _ rfl
        have z4 := FA.out.c 4 _ rfl
        have z5 := FA.out.c 5 _ rfl
        go_upto_region 16 with (first | (refine load_blk 29 _ Try.underlying29 (by kernel_rfl) FX.out rfl rfl rfl ?_) | (refine load_blk 29 _ Try.underlying29 (by kernel_rfl) FY.out rfl rfl rfl ?_) | (go_at_call 14; refine (implStepShaft_any h t (bzc t.lo) (bzc t.up) 0 0 _).mono ?_; rw [HK1.out.1, HK1.out.2.1]; rintro e w8 ⟨rfl, hb⟩; have F0 : Hid (HAt w8 b1 h) := F0.out.below hb F0.out.lt; have FN : Hid (Blk w8 b3 [.int .i64 0, .int .i64 n]) := FN.out.below hb FN.out.lt; have FA : Hid (Blk w8 b4 [.int .i64 t.lo.pos, .int .i64 t.lo.vel, .int .i64 t.lo.door, .int .i64 t.up.pos, .int .i64 t.up.vel, .int .i64 t.up.door]) := FA.out.below hb FA.out.lt; have FB : Hid (Below w.heap.size w w8) := FB.out.trans (hb.mono FB.out.size); clear hb) | (refine store_new [.int .i64 0, .int .i64 (hstep h t).lo.pos, .int .i64 (hstep h t).lo.vel, .int .i64 (hstep h t).lo.door, .int .i64 (hstep h t).up.pos, .int .i64 (hstep h t).up.vel, .int .i64 (hstep h t).up.door] 44 _ _ (by kernel_rfl) (by kernel_rfl) (by kernel_rfl) rfl rfl rfl rfl ?_))
        obtain ⟨br, hbb⟩ : ∃ b, b = w8.heap.size := ⟨_, rfl⟩
        obtain ⟨w9, hw2⟩ : ∃ W, W = w8.alloc (.cells ([.int .i64 0, .int .i64 (hstep h t).lo.pos, .int .i64 (hstep h t).lo.vel, .int .i64 (hstep h t).lo.door, .int .i64 (hstep h t).up.pos, .int .i64 (hstep h t).up.vel, .int .i64 (hstep h t).up.door] : List Value).toArray 44) := ⟨_, rfl⟩
        have F0 : Hid (HAt w9 b1 h) := by rw [hw2]; exact F0.out.alloc _
        have FN : Hid (Blk w9 b3 [.int .i64 0, .int .i64 n]) := by rw [hw2]; exact FN.out.alloc _
        have FA : Hid (Blk w9 b4 [.int .i64 t.lo.pos, .int .i64 t.lo.vel, .int .i64 t.lo.door, .int .i64 t.up.pos, .int .i64 t.up.vel, .int .i64 t.up.door]) := by rw [hw2]; exact FA.out.alloc _
        have FB : Hid (Below w.heap.size w w9) := by rw [hw2]; exact FB.out.alloc FB.out.size _
        have FR : Hid (Blk w9 br [.int .i64 0, .int .i64 (hstep h t).lo.pos, .int .i64 (hstep h t).lo.vel, .int .i64 (hstep h t).lo.door, .int .i64 (hstep h t).up.pos, .int .i64 (hstep h t).up.vel, .int .i64 (hstep h t).up.door]) := by rw [hw2]; exact Blk.at_ w8 ([.int .i64 0, .int .i64 (hstep h t).lo.pos, .int .i64 (hstep h t).lo.vel, .int .i64 (hstep h t).lo.door, .int .i64 (hstep h t).up.pos, .int .i64 (hstep h t).up.vel, .int .i64 (hstep h t).up.door] : List Value).toArray _ _ hbb
        rw [← hw2, ← hbb]
        clear hbb hw2
        have y0 := FR.out.c 0 _ rfl
        have y1 := FR.out.c 1 _ rfl
        have y2 := FR.out.c 2 _ rfl
        have y3 := FR.out.c 3 _ rfl
        have y4 := FR.out.c 4 _ rfl
        have y5 := FR.out.c 5 _ rfl
        have y6 := FR.out.c 6 _ rfl
        go_upto_region 10 with (refine store_blk [.int .i64 (hstep h t).lo.pos, .int .i64 (hstep h t).lo.vel, .int .i64 (hstep h t).lo.door, .int .i64 (hstep h t).up.pos, .int .i64 (hstep h t).up.vel, .int .i64 (hstep h t).up.door] 40 _ _ (by kernel_rfl) (by kernel_rfl) (by kernel_rfl) FA.out rfl rfl rfl rfl ?_)
        obtain ⟨w10, hw10⟩ : ∃ W, W = w9.setRow b4 ([.int .i64 (hstep h t).lo.pos, .int .i64 (hstep h t).lo.vel, .int .i64 (hstep h t).lo.door, .int .i64 (hstep h t).up.pos, .int .i64 (hstep h t).up.vel, .int .i64 (hstep h t).up.door] : List Value).toArray := ⟨_, rfl⟩
        rw [← hw10]
        have F0 : Hid (HAt w10 b1 h) := by rw [hw10]; exact F0.out.below ⟨rfl, rfl, rfl, by simp, fun k hk => setRow_other _ _ k _ (by omega)⟩ l14
        have FN : Hid (Blk w10 b3 [.int .i64 0, .int .i64 n]) := by rw [hw10]; exact FN.out.row_other (by omega) _
        have FA : Hid (Blk w10 b4 [.int .i64 (hstep h t).lo.pos, .int .i64 (hstep h t).lo.vel, .int .i64 (hstep h t).lo.door, .int .i64 (hstep h t).up.pos, .int .i64 (hstep h t).up.vel, .int .i64 (hstep h t).up.door]) := by rw [hw10]; exact FA.out.row _
        have FB : Hid (Below w.heap.size w w10) := by rw [hw10]; exact below_row FB.out (by omega) _
        clear hw10 y0 y1 y2 y3 y4 y5 y6
        go_wp2_with fail
        go_roundw
        case rel => exact ⟨k + 1, hstep h t, by simp, by omega, HK0.out.next, F0.out, FN.out, FA.out, FB.out⟩
        case measure => simp [intOf]; omega
    · obtain ⟨z1, z2⟩ := hK.end_ (by rw [HN.out]; omega)
      have y1 : (t.lo.vel == 0) = true := by simpa using z1
      have y2 : (t.up.vel == 0) = true := by simpa using z2
      obtain ⟨p1, p2, p3, -, -⟩ := shaft_parts hK.ok
      have q1 := car_env (Hs.car_zero p1)
      have q2 := car_env (Hs.car_zero p2)
      have g3 : h.ln ≤ t.up.pos - t.lo.pos := by omega
      have ew : IntKind.i64.wrap (t.up.pos - t.lo.pos) = t.up.pos - t.lo.pos := IntWalk.i64_in _ (by omega)
      have t2 : decide (h.ln ≤ t.up.pos - t.lo.pos) = true := decide_eq_true g3
      have HO : Hid (h.shaft t = 0) := hK.ok
      clear z1 z2 p1 p2 p3 q1 q2 g3 hK
      obtain ⟨x0_0, x0_1, x0_2, x0_3, x0_4, x0_5, x0_6, x0_7, x0_8, x0_9, x0_10, x0_11⟩ := F0.out
      have z0 := FA.out.c 0 _ rfl
      have z1 := FA.out.c 1 _ rfl
      have z2 := FA.out.c 2 _ rfl
      have z3 := FA.out.c 3 _ rfl
      have z4 := FA.out.c 4 _ rfl
      have z5 := FA.out.c 5 _ rfl
      have u0 := FN.out.c 0 _ rfl
      have u1 := FN.out.c 1 _ rfl
      go_wp2_with (go_at_call 17; refine (implShaftFault_any h t _).mono ?_; rw [HO.out]; rintro e w7 ⟨rfl, hb⟩; have F0 : Hid (HAt w7 b1 h) := F0.out.below hb F0.out.lt; have FN : Hid (Blk w7 b3 [.int .i64 0, .int .i64 n]) := FN.out.below hb FN.out.lt; have FA : Hid (Blk w7 b4 [.int .i64 t.lo.pos, .int .i64 t.lo.vel, .int .i64 t.lo.door, .int .i64 t.up.pos, .int .i64 t.up.vel, .int .i64 t.up.door]) := FA.out.below hb FA.out.lt; have FB : Hid (Below w.heap.size w w7) := FB.out.trans (hb.mono FB.out.size); clear hb; obtain ⟨x0_0, x0_1, x0_2, x0_3, x0_4, x0_5, x0_6, x0_7, x0_8, x0_9, x0_10, x0_11⟩ := F0.out; have z0 := FA.out.c 0 _ rfl; have z1 := FA.out.c 1 _ rfl; have z2 := FA.out.c 2 _ rfl; have z3 := FA.out.c 3 _ rfl; have z4 := FA.out.c 4 _ rfl; have z5 := FA.out.c 5 _ rfl)
      go_ret
      exact ⟨by simp, FB.out⟩
end Go.Proofs.Ytclfdfcakmgffaa
