/-
  The spans that the bytes draw.
-/
import Derived.Test.YtpfihpplpefikaaDrawT
import Derived.Test.YtpfihpplpefikaaCellsN
import Derived.Test.YtpfihpplpefikaaCarS
import Derived.Test.YtpfihpplpefikaaFnd
namespace Go.Proofs.Ytpfihpplpefikaa
open Go.RowKit Pl
set_option linter.unusedSimpArgs false
set_option linter.unusedVariables false

theorem Blk.keeps {W w : World} {b sb : Nat} {vs : List Value} (a : Blk W b vs) (hk : Keeps sb W w) (hne : b ≠ sb) : Blk w b vs := a.of (hk.block b a.lt hne)
theorem SrcT.blw {W w : World} {sb B C : Nat} {a : Option Addr} {len cap T : Nat} (h : SrcT W sb B a len cap T) (hb : Below C W w) (hC : sb < C) : SrcT w sb B a len cap T := by
  obtain ⟨t, ht, h⟩ := h
  have hB := h.hB
  exact ⟨t, ht, Nat.lt_of_lt_of_le h.lt hb.size, h.hB, (hb.cell (p := ⟨sb, 0, none⟩) hC).trans h.c0, (hb.cell (p := ⟨sb, 1, none⟩) hC).trans h.c1, (hb.frozen (p := ⟨sb, 1, none⟩) hC).trans h.fz, h.hc.keep fun b off hlt _ => hb.cell (p := ⟨b, off, none⟩) (show b < C by omega)⟩
theorem Keeps.blw {sb C : Nat} {a w w' : World} (h : Keeps sb a w) (hb : Below C w w') (hC : a.heap.size ≤ C) : Keeps sb a w' :=
  ⟨hb.os.trans h.os, hb.tape.trans h.tape, hb.output.trans h.output, Nat.le_trans h.size hb.size, fun k hk hn => (hb.block k (by omega)).trans (h.block k hk hn)⟩
set_option maxRecDepth 20000 in
set_option maxHeartbeats 16000000 in
theorem l6Spans_t (h : Hs) (f1 : 2 ≤ h.fl) (f2 : h.fl ≤ 12) (sb B : Nat) (a : Option Addr) (len cap T : Nat) (w : World) (hS : SrcT w sb B a len cap T) (hT : T ≤ 900000) :
    Calls Try.prog 21 #[.pointer (some ⟨sb, 0, none⟩), .agg #[.int .i64 h.fl, .int .i64 h.gp, .int .i64 h.ln, .int .i64 h.rf, .int .i64 h.sp, .int .i64 h.pu, .int .i64 h.br, .int .i64 h.dr, .int .i64 h.lv, .int .i64 h.dO, .int .i64 h.ld, .int .i64 h.qu]] w fun e w' => ∃ x : Ss, e = .returned (.agg #[.int .i64 x.l.lo, .int .i64 x.l.hi, .int .i64 x.u.lo, .int .i64 x.u.hi]) ∧ SrcT w' sb B a len cap (T + 10) ∧ Keeps sb w w' := by
  have ef : IntKind.i64.wrap (h.fl + 1) = h.fl + 1 := IntWalk.i64_in _ (by omega)
  obtain ⟨W0, hW0⟩ : ∃ W0, W0 = ((w.alloc (.cells #[.int .i64 h.fl, .int .i64 h.gp, .int .i64 h.ln, .int .i64 h.rf, .int .i64 h.sp, .int .i64 h.pu, .int .i64 h.br, .int .i64 h.dr, .int .i64 h.lv, .int .i64 h.dO, .int .i64 h.ld, .int .i64 h.qu] 25)).alloc (.cells #[.int .i64 0, .int .i64 0, .int .i64 0, .int .i64 0] 29)) := ⟨_, rfl⟩
  obtain ⟨b0, hb0⟩ : ∃ b0, b0 = w.heap.size := ⟨_, rfl⟩
  obtain ⟨b1, hb1⟩ : ∃ b1, b1 = w.heap.size + 1 := ⟨_, rfl⟩
  have lw := hS.lt
  have l0 : sb < b0 := by omega
  have l1 : b0 < b1 := by omega
  have lb : w.heap.size ≤ b0 := by omega
  have F0 : Hid (HAt W0 b0 h) := by rw [hW0]; exact (HAt.at_ w h _ _ hb0).alloc _
  have FR : Hid (Blk W0 b1 [.int .i64 0, .int .i64 0, .int .i64 0, .int .i64 0]) := by rw [hW0]; exact Blk.at_ _ _ _ _ (by simp; omega)
  have FS : Hid (SrcT W0 sb B a len cap T) := by rw [hW0]; exact (hS.alloc _).alloc _
  have FK : Hid (Keeps sb w W0) := by rw [hW0]; exact ((Keeps.refl _ _).alloc _).alloc _
  have HW0 : Hid (W0 = ((w.alloc (.cells #[.int .i64 h.fl, .int .i64 h.gp, .int .i64 h.ln, .int .i64 h.rf, .int .i64 h.sp, .int .i64 h.pu, .int .i64 h.br, .int .i64 h.dr, .int .i64 h.lv, .int .i64 h.dO, .int .i64 h.ld, .int .i64 h.qu] 25)).alloc (.cells #[.int .i64 0, .int .i64 0, .int .i64 0, .int .i64 0] 29))) := hW0
  have HB0 : Hid (b0 = w.heap.size) := hb0
  have HB1 : Hid (b1 = w.heap.size + 1) := hb1
  clear hW0 hb0 hb1 hS
  go_enter Try.func21, Try.ntmps21
  go_upto_region 1 with fail
  rw [← HW0.out, ← HB1.out, ← HB0.out]
  clear HW0 HB0 HB1
  have x0 := F0.out.c0
  go_wp2_with fail
  refine (l1Next_t sb B a len cap _ _ _ FS.out (by omega) (by omega) (by omega)).mono ?_
  rintro e w1 ⟨v0, rfl, hv0, hs, hk⟩
  have F0 : Hid (HAt w1 b0 h) := F0.out.keeps hk (by omega)
  have FR : Hid (Blk w1 b1 [.int .i64 0, .int .i64 0, .int .i64 0, .int .i64 0]) := FR.out.keeps hk (by omega)
  have FS : Hid (SrcT w1 sb B a len cap (T + 1)) := hs
  have FK : Hid (Keeps sb w w1) := FK.out.trans hk
  clear hs hk
  obtain ⟨xa, ha⟩ : ∃ xa : Int, IntKind.i64.wrap ((v0 : Int) - 1) = xa := ⟨_, rfl⟩
  have ba : -1 ≤ xa ∧ xa ≤ 12 := by rw [← ha, IntWalk.i64_in _ (by omega)]; omega
  go_wp2_with fail
  clear x0
  refine (l1Next_t sb B a len cap _ _ _ FS.out (by omega) (by omega) (by omega)).mono ?_
  rintro e w2 ⟨v1, rfl, hv1, hs, hk⟩
  have F0 : Hid (HAt w2 b0 h) := F0.out.keeps hk (by omega)
  have FR : Hid (Blk w2 b1 [.int .i64 0, .int .i64 0, .int .i64 0, .int .i64 0]) := FR.out.keeps hk (by omega)
  have FS : Hid (SrcT w2 sb B a len cap (T + 1 + 1)) := hs
  have FK : Hid (Keeps sb w w2) := FK.out.trans hk
  clear hs hk
  obtain ⟨xb, hxb⟩ : ∃ xb : Int, IntKind.i64.wrap (xa + (v1 : Int)) = xb := ⟨_, rfl⟩
  have bb : -1 ≤ xb ∧ xb ≤ 14 := by rw [← hxb, IntWalk.i64_in _ (by omega)]; omega
  obtain ⟨xe, hxe⟩ : ∃ xe : Int, IntKind.i64.wrap (xb + 1) = xe := ⟨_, rfl⟩
  have be : 0 ≤ xe ∧ xe ≤ 15 := by rw [← hxe, IntWalk.i64_in _ (by omega)]; omega
  go_wp2_with fail
  refine (l1Next_t sb B a len cap _ _ _ FS.out (by omega) (by omega) (by omega)).mono ?_
  rintro e w3 ⟨v2, rfl, hv2, hs, hk⟩
  have F0 : Hid (HAt w3 b0 h) := F0.out.keeps hk (by omega)
  have FR : Hid (Blk w3 b1 [.int .i64 0, .int .i64 0, .int .i64 0, .int .i64 0]) := FR.out.keeps hk (by omega)
  have FS : Hid (SrcT w3 sb B a len cap (T + 1 + 1 + 1)) := hs
  have FK : Hid (Keeps sb w w3) := FK.out.trans hk
  clear hs hk
  obtain ⟨xc, hxc⟩ : ∃ xc : Int, IntKind.i64.wrap (xe + (v2 : Int)) = xc := ⟨_, rfl⟩
  have bc : 0 ≤ xc ∧ xc ≤ 17 := by rw [← hxc, IntWalk.i64_in _ (by omega)]; omega
  go_wp2_with fail
  refine (l1Next_t sb B a len cap _ _ _ FS.out (by omega) (by omega) (by omega)).mono ?_
  rintro e w4 ⟨v3, rfl, hv3, hs, hk⟩
  have F0 : Hid (HAt w4 b0 h) := F0.out.keeps hk (by omega)
  have FR : Hid (Blk w4 b1 [.int .i64 0, .int .i64 0, .int .i64 0, .int .i64 0]) := FR.out.keeps hk (by omega)
  have FS : Hid (SrcT w4 sb B a len cap (T + 1 + 1 + 1 + 1)) := hs
  have FK : Hid (Keeps sb w w4) := FK.out.trans hk
  clear hs hk
  obtain ⟨xd, hxd⟩ : ∃ xd : Int, IntKind.i64.wrap (xc + (v3 : Int)) = xd := ⟨_, rfl⟩
  obtain ⟨xg, hxg⟩ : ∃ xg : Int, IntKind.i64.wrap (xc - 1) = xg := ⟨_, rfl⟩
  go_upto_region 5 with fail
  go_cut [9] (fun p wx => ∃ b2, p = .pointer (some ⟨b2, 0, none⟩) ∧ b1 < b2 ∧ w.heap.size ≤ b2 ∧ Blk wx b2 [.int .i64 xa, .int .i64 xb, .int .i64 (min h.fl xc), .int .i64 (min h.fl xd)] ∧ HAt wx b0 h ∧ Blk wx b1 [.int .i64 0, .int .i64 0, .int .i64 0, .int .i64 0] ∧ SrcT wx sb B a len cap (T + 1 + 1 + 1 + 1) ∧ Keeps sb w wx)
  case first =>
    have F0 : Hid (HAt w4.drew b0 h) := F0.out.below (Below.refl _ _).drew F0.out.lt
    have FR : Hid (Blk w4.drew b1 [.int .i64 0, .int .i64 0, .int .i64 0, .int .i64 0]) := FR.out.below (Below.refl _ _).drew FR.out.lt
    have FS : Hid (SrcT w4.drew sb B a len cap (T + 1 + 1 + 1 + 1)) := FS.out.drew
    have FK : Hid (Keeps sb w w4.drew) := FK.out.of_below (Below.refl _ _).drew
    have m0 := F0.out.c0
    refine wp_region_held_drew (S := (fun w'' => w''.cell? ⟨b0, 0, none⟩ = some (.int .i64 h.fl))) (by kernel_rfl) (by (try dsimp only); first | exact m0 | go_keep) (fun hHeld => ?_)
    obtain ⟨v_1, hw1⟩ : ∃ v_1, v_1 = w4.drew := ⟨_, rfl⟩
    have F0 : Hid (HAt v_1 b0 h) := by rw [hw1]; exact F0.out
    have FR : Hid (Blk v_1 b1 [.int .i64 0, .int .i64 0, .int .i64 0, .int .i64 0]) := by rw [hw1]; exact FR.out
    have FS : Hid (SrcT v_1 sb B a len cap (T + 1 + 1 + 1 + 1)) := by rw [hw1]; exact FS.out
    have FK : Hid (Keeps sb w v_1) := by rw [hw1]; exact FK.out
    rw [← hw1] at hHeld ⊢
    clear hw1
    have m0 := F0.out.c0
    refine tkz 0 rfl ?_
    refine tkz 1 rfl ?_
    refine tkz 2 rfl ?_
    refine tkz 3 rfl ?_
    refine tkz 4 rfl ?_
    refine tkz 5 rfl ?_
    refine tkz 7 rfl ?_
    refine tkz 8 rfl ?_
    refine tkz 9 rfl ?_
    refine wpAnyH_ready (rs := [6, 13]) (by kernel_rfl) (by simp) ?_
    refine (AllReadyH.cons rfl (fun K hK => ?_) (AllReadyH.cons rfl (fun K hK => ?_) AllReadyH.nil))
    · go_simp
      refine (l1Min_any _ _ _).mono ?_
      rintro e w_ ⟨rfl, hw⟩
      obtain rfl := hw.symm
      clear hw
      try dsimp only
      refine hK.out _ _ (by (try dsimp only); first | exact m0 | go_keep) (fun hHeld => ?_)
      clear hK K
      try simp only [Act.put, List.getElem_toArray, List.getElem_cons_succ, List.getElem_cons_zero, List.setIfInBounds_toArray, List.set_cons_zero, List.set_cons_succ]
      refine wpAnyH_ready (rs := [10, 13]) (by kernel_rfl) (by simp) ?_
      refine (AllReadyH.cons rfl (fun K hK => ?_) (AllReadyH.cons rfl (fun K hK => ?_) AllReadyH.nil))
      · go_simp
        refine (l1Min_any _ _ _).mono ?_
        rintro e w_ ⟨rfl, hw⟩
        obtain rfl := hw.symm
        clear hw
        try dsimp only
        refine hK.out _ _ (by (try dsimp only); first | exact m0 | go_keep) (fun hHeld => ?_)
        clear hK K
        try simp only [Act.put, List.getElem_toArray, List.getElem_cons_succ, List.getElem_cons_zero, List.setIfInBounds_toArray, List.set_cons_zero, List.set_cons_succ]
        refine tkz 11 rfl ?_
        refine tkz 12 rfl ?_
        refine wpAnyH_ready (rs := [13]) (by kernel_rfl) (by simp) ?_
        refine (AllReadyH.cons rfl (fun K hK => ?_) AllReadyH.nil)
        go_simp
        obtain ⟨b2, hbb⟩ : ∃ b2, b2 = v_1.heap.size := ⟨_, rfl⟩
        obtain ⟨v_2, hw2⟩ : ∃ v_2, v_2 = v_1.alloc (.cells #[.int .i64 0, .int .i64 0, .int .i64 0, .int .i64 0] 29) := ⟨_, rfl⟩
        have nb2_0 := F0.out.lt
        rw [← hbb] at nb2_0
        have nb2_1 := FR.out.lt
        rw [← hbb] at nb2_1
        have nb2_s := FS.out.lt
        rw [← hbb] at nb2_s
        have FX : Hid (Blk v_2 b2 [.int .i64 0, .int .i64 0, .int .i64 0, .int .i64 0]) := by rw [hw2]; exact Blk.at_ _ _ _ _ hbb
        have F0 : Hid (HAt v_2 b0 h) := by rw [hw2]; exact F0.out.alloc _
        have FR : Hid (Blk v_2 b1 [.int .i64 0, .int .i64 0, .int .i64 0, .int .i64 0]) := by rw [hw2]; exact FR.out.alloc _
        have FS : Hid (SrcT v_2 sb B a len cap (T + 1 + 1 + 1 + 1)) := by rw [hw2]; exact FS.out.alloc _
        have FK : Hid (Keeps sb w v_2) := by rw [hw2]; exact FK.out.alloc _
        rw [← hw2, ← hbb]
        clear hbb hw2
        have m0 := F0.out.c0
        refine hK.out _ _ (by (try dsimp only); first | exact m0 | go_keep) (fun hHeld => ?_)
        clear hK K
        try simp only [Act.put, List.getElem_toArray, List.getElem_cons_succ, List.getElem_cons_zero, List.setIfInBounds_toArray, List.set_cons_zero, List.set_cons_succ]
        refine wpAnyH_ready (rs := [14]) (by kernel_rfl) (by simp) ?_
        refine (AllReadyH.cons rfl (fun K hK => ?_) AllReadyH.nil)
        have c0_ := FX.out.c 0 _ rfl
        have c1_ := FX.out.c 1 _ rfl
        have c2_ := FX.out.c 2 _ rfl
        have c3_ := FX.out.c 3 _ rfl
        have q0_ := FX.out.f 0 (Nat.le_of_ble_eq_true rfl)
        have q1_ := FX.out.f 1 (Nat.le_of_ble_eq_true rfl)
        have q2_ := FX.out.f 2 (Nat.le_of_ble_eq_true rfl)
        have q3_ := FX.out.f 3 (Nat.le_of_ble_eq_true rfl)
        go_simp
        obtain ⟨v_3, hw2⟩ : ∃ v_3, v_3 = putB v_2 b2 0 [.int .i64 xa, .int .i64 xb, .int .i64 (min h.fl xc), .int .i64 (min h.fl xd)] := ⟨_, rfl⟩
        change K _ (putB v_2 b2 0 [.int .i64 xa, .int .i64 xb, .int .i64 (min h.fl xc), .int .i64 (min h.fl xd)])
        rw [← hw2]
        clear c0_ c1_ c2_ c3_ q0_ q1_ q2_ q3_
        have F0 : Hid (HAt v_3 b0 h) := by rw [hw2]; exact F0.out.below (below_putB (Below.refl b2 _) (Nat.le_refl _) _ _) (by omega)
        have FR : Hid (Blk v_3 b1 [.int .i64 0, .int .i64 0, .int .i64 0, .int .i64 0]) := by rw [hw2]; exact Blk.putB_other (by omega) _ _ FR.out
        have FS : Hid (SrcT v_3 sb B a len cap (T + 1 + 1 + 1 + 1)) := by rw [hw2]; exact FS.out.blw (below_putB (Below.refl b2 _) (Nat.le_refl _) _ _) (by omega)
        have FK : Hid (Keeps sb w v_3) := by rw [hw2]; exact FK.out.blw (below_putB (Below.refl b2 _) (Nat.le_refl _) _ _) (by omega)
        have FX : Hid (Blk v_3 b2 [.int .i64 xa, .int .i64 xb, .int .i64 (min h.fl xc), .int .i64 (min h.fl xd)]) := by rw [hw2]; exact FX.out.put _ rfl
        clear hw2
        have m0 := F0.out.c0
        refine hK.out _ _ (by (try dsimp only); first | exact m0 | go_keep) (fun hHeld => ?_)
        clear hK K
        try simp only [Act.put, List.getElem_toArray, List.getElem_cons_succ, List.getElem_cons_zero, List.setIfInBounds_toArray, List.set_cons_zero, List.set_cons_succ]
        refine wpAnyH_done (by kernel_rfl) ?_ _
        go_wp2_with fail
        go_meet
        case rel => exact ⟨b2, rfl, by omega, by omega, FX.out, F0.out, FR.out, FS.out, FK.out⟩
      · go_simp
        obtain ⟨b2, hbb⟩ : ∃ b2, b2 = v_1.heap.size := ⟨_, rfl⟩
        obtain ⟨v_4, hw2⟩ : ∃ v_4, v_4 = v_1.alloc (.cells #[.int .i64 0, .int .i64 0, .int .i64 0, .int .i64 0] 29) := ⟨_, rfl⟩
        have nb2_0 := F0.out.lt
        rw [← hbb] at nb2_0
        have nb2_1 := FR.out.lt
        rw [← hbb] at nb2_1
        have nb2_s := FS.out.lt
        rw [← hbb] at nb2_s
        have FX : Hid (Blk v_4 b2 [.int .i64 0, .int .i64 0, .int .i64 0, .int .i64 0]) := by rw [hw2]; exact Blk.at_ _ _ _ _ hbb
        have F0 : Hid (HAt v_4 b0 h) := by rw [hw2]; exact F0.out.alloc _
        have FR : Hid (Blk v_4 b1 [.int .i64 0, .int .i64 0, .int .i64 0, .int .i64 0]) := by rw [hw2]; exact FR.out.alloc _
        have FS : Hid (SrcT v_4 sb B a len cap (T + 1 + 1 + 1 + 1)) := by rw [hw2]; exact FS.out.alloc _
        have FK : Hid (Keeps sb w v_4) := by rw [hw2]; exact FK.out.alloc _
        rw [← hw2, ← hbb]
        clear hbb hw2
        have m0 := F0.out.c0
        refine hK.out _ _ (by (try dsimp only); first | exact m0 | go_keep) (fun hHeld => ?_)
        clear hK K
        try simp only [Act.put, List.getElem_toArray, List.getElem_cons_succ, List.getElem_cons_zero, List.setIfInBounds_toArray, List.set_cons_zero, List.set_cons_succ]
        refine wpAnyH_ready (rs := [10]) (by kernel_rfl) (by simp) ?_
        refine (AllReadyH.cons rfl (fun K hK => ?_) AllReadyH.nil)
        go_simp
        refine (l1Min_any _ _ _).mono ?_
        rintro e w_ ⟨rfl, hw⟩
        obtain rfl := hw.symm
        clear hw
        try dsimp only
        refine hK.out _ _ (by (try dsimp only); first | exact m0 | go_keep) (fun hHeld => ?_)
        clear hK K
        try simp only [Act.put, List.getElem_toArray, List.getElem_cons_succ, List.getElem_cons_zero, List.setIfInBounds_toArray, List.set_cons_zero, List.set_cons_succ]
        refine tkz 11 rfl ?_
        refine tkz 12 rfl ?_
        refine wpAnyH_ready (rs := [14]) (by kernel_rfl) (by simp) ?_
        refine (AllReadyH.cons rfl (fun K hK => ?_) AllReadyH.nil)
        have c0_ := FX.out.c 0 _ rfl
        have c1_ := FX.out.c 1 _ rfl
        have c2_ := FX.out.c 2 _ rfl
        have c3_ := FX.out.c 3 _ rfl
        have q0_ := FX.out.f 0 (Nat.le_of_ble_eq_true rfl)
        have q1_ := FX.out.f 1 (Nat.le_of_ble_eq_true rfl)
        have q2_ := FX.out.f 2 (Nat.le_of_ble_eq_true rfl)
        have q3_ := FX.out.f 3 (Nat.le_of_ble_eq_true rfl)
        go_simp
        obtain ⟨v_5, hw2⟩ : ∃ v_5, v_5 = putB v_4 b2 0 [.int .i64 xa, .int .i64 xb, .int .i64 (min h.fl xc), .int .i64 (min h.fl xd)] := ⟨_, rfl⟩
        change K _ (putB v_4 b2 0 [.int .i64 xa, .int .i64 xb, .int .i64 (min h.fl xc), .int .i64 (min h.fl xd)])
        rw [← hw2]
        clear c0_ c1_ c2_ c3_ q0_ q1_ q2_ q3_
        have F0 : Hid (HAt v_5 b0 h) := by rw [hw2]; exact F0.out.below (below_putB (Below.refl b2 _) (Nat.le_refl _) _ _) (by omega)
        have FR : Hid (Blk v_5 b1 [.int .i64 0, .int .i64 0, .int .i64 0, .int .i64 0]) := by rw [hw2]; exact Blk.putB_other (by omega) _ _ FR.out
        have FS : Hid (SrcT v_5 sb B a len cap (T + 1 + 1 + 1 + 1)) := by rw [hw2]; exact FS.out.blw (below_putB (Below.refl b2 _) (Nat.le_refl _) _ _) (by omega)
        have FK : Hid (Keeps sb w v_5) := by rw [hw2]; exact FK.out.blw (below_putB (Below.refl b2 _) (Nat.le_refl _) _ _) (by omega)
        have FX : Hid (Blk v_5 b2 [.int .i64 xa, .int .i64 xb, .int .i64 (min h.fl xc), .int .i64 (min h.fl xd)]) := by rw [hw2]; exact FX.out.put _ rfl
        clear hw2
        have m0 := F0.out.c0
        refine hK.out _ _ (by (try dsimp only); first | exact m0 | go_keep) (fun hHeld => ?_)
        clear hK K
        try simp only [Act.put, List.getElem_toArray, List.getElem_cons_succ, List.getElem_cons_zero, List.setIfInBounds_toArray, List.set_cons_zero, List.set_cons_succ]
        refine wpAnyH_done (by kernel_rfl) ?_ _
        go_wp2_with fail
        go_meet
        case rel => exact ⟨b2, rfl, by omega, by omega, FX.out, F0.out, FR.out, FS.out, FK.out⟩
    · go_simp
      obtain ⟨b2, hbb⟩ : ∃ b2, b2 = v_1.heap.size := ⟨_, rfl⟩
      obtain ⟨v_6, hw2⟩ : ∃ v_6, v_6 = v_1.alloc (.cells #[.int .i64 0, .int .i64 0, .int .i64 0, .int .i64 0] 29) := ⟨_, rfl⟩
      have nb2_0 := F0.out.lt
      rw [← hbb] at nb2_0
      have nb2_1 := FR.out.lt
      rw [← hbb] at nb2_1
      have nb2_s := FS.out.lt
      rw [← hbb] at nb2_s
      have FX : Hid (Blk v_6 b2 [.int .i64 0, .int .i64 0, .int .i64 0, .int .i64 0]) := by rw [hw2]; exact Blk.at_ _ _ _ _ hbb
      have F0 : Hid (HAt v_6 b0 h) := by rw [hw2]; exact F0.out.alloc _
      have FR : Hid (Blk v_6 b1 [.int .i64 0, .int .i64 0, .int .i64 0, .int .i64 0]) := by rw [hw2]; exact FR.out.alloc _
      have FS : Hid (SrcT v_6 sb B a len cap (T + 1 + 1 + 1 + 1)) := by rw [hw2]; exact FS.out.alloc _
      have FK : Hid (Keeps sb w v_6) := by rw [hw2]; exact FK.out.alloc _
      rw [← hw2, ← hbb]
      clear hbb hw2
      have m0 := F0.out.c0
      refine hK.out _ _ (by (try dsimp only); first | exact m0 | go_keep) (fun hHeld => ?_)
      clear hK K
      try simp only [Act.put, List.getElem_toArray, List.getElem_cons_succ, List.getElem_cons_zero, List.setIfInBounds_toArray, List.set_cons_zero, List.set_cons_succ]
      refine wpAnyH_ready (rs := [6]) (by kernel_rfl) (by simp) ?_
      refine (AllReadyH.cons rfl (fun K hK => ?_) AllReadyH.nil)
      go_simp
      refine (l1Min_any _ _ _).mono ?_
      rintro e w_ ⟨rfl, hw⟩
      obtain rfl := hw.symm
      clear hw
      try dsimp only
      refine hK.out _ _ (by (try dsimp only); first | exact m0 | go_keep) (fun hHeld => ?_)
      clear hK K
      try simp only [Act.put, List.getElem_toArray, List.getElem_cons_succ, List.getElem_cons_zero, List.setIfInBounds_toArray, List.set_cons_zero, List.set_cons_succ]
      refine wpAnyH_ready (rs := [10]) (by kernel_rfl) (by simp) ?_
      refine (AllReadyH.cons rfl (fun K hK => ?_) AllReadyH.nil)
      go_simp
      refine (l1Min_any _ _ _).mono ?_
      rintro e w_ ⟨rfl, hw⟩
      obtain rfl := hw.symm
      clear hw
      try dsimp only
      refine hK.out _ _ (by (try dsimp only); first | exact m0 | go_keep) (fun hHeld => ?_)
      clear hK K
      try simp only [Act.put, List.getElem_toArray, List.getElem_cons_succ, List.getElem_cons_zero, List.setIfInBounds_toArray, List.set_cons_zero, List.set_cons_succ]
      refine tkz 11 rfl ?_
      refine tkz 12 rfl ?_
      refine wpAnyH_ready (rs := [14]) (by kernel_rfl) (by simp) ?_
      refine (AllReadyH.cons rfl (fun K hK => ?_) AllReadyH.nil)
      have c0_ := FX.out.c 0 _ rfl
      have c1_ := FX.out.c 1 _ rfl
      have c2_ := FX.out.c 2 _ rfl
      have c3_ := FX.out.c 3 _ rfl
      have q0_ := FX.out.f 0 (Nat.le_of_ble_eq_true rfl)
      have q1_ := FX.out.f 1 (Nat.le_of_ble_eq_true rfl)
      have q2_ := FX.out.f 2 (Nat.le_of_ble_eq_true rfl)
      have q3_ := FX.out.f 3 (Nat.le_of_ble_eq_true rfl)
      go_simp
      obtain ⟨v_7, hw2⟩ : ∃ v_7, v_7 = putB v_6 b2 0 [.int .i64 xa, .int .i64 xb, .int .i64 (min h.fl xc), .int .i64 (min h.fl xd)] := ⟨_, rfl⟩
      change K _ (putB v_6 b2 0 [.int .i64 xa, .int .i64 xb, .int .i64 (min h.fl xc), .int .i64 (min h.fl xd)])
      rw [← hw2]
      clear c0_ c1_ c2_ c3_ q0_ q1_ q2_ q3_
      have F0 : Hid (HAt v_7 b0 h) := by rw [hw2]; exact F0.out.below (below_putB (Below.refl b2 _) (Nat.le_refl _) _ _) (by omega)
      have FR : Hid (Blk v_7 b1 [.int .i64 0, .int .i64 0, .int .i64 0, .int .i64 0]) := by rw [hw2]; exact Blk.putB_other (by omega) _ _ FR.out
      have FS : Hid (SrcT v_7 sb B a len cap (T + 1 + 1 + 1 + 1)) := by rw [hw2]; exact FS.out.blw (below_putB (Below.refl b2 _) (Nat.le_refl _) _ _) (by omega)
      have FK : Hid (Keeps sb w v_7) := by rw [hw2]; exact FK.out.blw (below_putB (Below.refl b2 _) (Nat.le_refl _) _ _) (by omega)
      have FX : Hid (Blk v_7 b2 [.int .i64 xa, .int .i64 xb, .int .i64 (min h.fl xc), .int .i64 (min h.fl xd)]) := by rw [hw2]; exact FX.out.put _ rfl
      clear hw2
      have m0 := F0.out.c0
      refine hK.out _ _ (by (try dsimp only); first | exact m0 | go_keep) (fun hHeld => ?_)
      clear hK K
      try simp only [Act.put, List.getElem_toArray, List.getElem_cons_succ, List.getElem_cons_zero, List.setIfInBounds_toArray, List.set_cons_zero, List.set_cons_succ]
      refine wpAnyH_done (by kernel_rfl) ?_ _
      go_wp2_with fail
      go_meet
      case rel => exact ⟨b2, rfl, by omega, by omega, FX.out, F0.out, FR.out, FS.out, FK.out⟩
  case rest =>
    obtain ⟨b2, rfl, l2, l3, hx, hh, hr, hs, hk⟩ := hcut
    have FX : Hid (Blk wc b2 [.int .i64 xa, .int .i64 xb, .int .i64 (min h.fl xc), .int .i64 (min h.fl xd)]) := hx
    have F0 : Hid (HAt wc b0 h) := hh
    have FR : Hid (Blk wc b1 [.int .i64 0, .int .i64 0, .int .i64 0, .int .i64 0]) := hr
    have FS : Hid (SrcT wc sb B a len cap (T + 1 + 1 + 1 + 1)) := hs
    have FK : Hid (Keeps sb w wc) := hk
    clear hx hh hr hs hk
    go_wp2_with fail
    refine (l1Next_t sb B a len cap _ _ _ FS.out (by omega) (by omega) (by omega)).mono ?_
    rintro e w5 ⟨v4, rfl, hv4, hs, hk⟩
    have F0 : Hid (HAt w5 b0 h) := F0.out.keeps hk (by omega)
    have FR : Hid (Blk w5 b1 [.int .i64 0, .int .i64 0, .int .i64 0, .int .i64 0]) := FR.out.keeps hk (by omega)
    have FX : Hid (Blk w5 b2 [.int .i64 xa, .int .i64 xb, .int .i64 (min h.fl xc), .int .i64 (min h.fl xd)]) := FX.out.keeps hk (by omega)
    have FS : Hid (SrcT w5 sb B a len cap (T + 1 + 1 + 1 + 1 + 1)) := hs
    have FK : Hid (Keeps sb w w5) := FK.out.trans hk
    clear hs hk
    have x0 := F0.out.c0
    by_cases h3 : 3 ≤ v4
    · have k0 : ((v4 : Int) == 0) = false := by simp; omega
      have k1 : ((v4 : Int) == 1) = false := by simp; omega
      have k2 : ((v4 : Int) == 2) = false := by simp; omega
      clear x0
      go_upto_region 13 with fail
      go_wp2_with (first | (refine load_blk 29 _ Try.underlying29 (by kernel_rfl) FX.out rfl rfl rfl ?_) | (refine store_blk [.int .i64 xa, .int .i64 xb, .int .i64 (min h.fl xc), .int .i64 (min h.fl xd)] 29 _ _ (by kernel_rfl) (by kernel_rfl) (by kernel_rfl) FR.out rfl rfl rfl rfl ?_))
      exact bodyPost_ret (v := .agg #[.int .i64 xa, .int .i64 xb, .int .i64 (min h.fl xc), .int .i64 (min h.fl xd)]) ((FR.out.row [.int .i64 xa, .int .i64 xb, .int .i64 (min h.fl xc), .int .i64 (min h.fl xd)]).res _ Try.results21 Try.underlying29 (by kernel_rfl) rfl) rfl ⟨⟨⟨xa, xb⟩, ⟨min h.fl xc, min h.fl xd⟩⟩, rfl, (FS.out.blw (below_row (Below.refl b1 _) (Nat.le_refl _) _) (by omega)).more (by omega), FK.out.blw (below_row (Below.refl b1 _) (Nat.le_refl _) _) (by omega)⟩
    · have hvs : v4 = 0 ∨ v4 = 1 ∨ v4 = 2 := by omega
      clear hv4 h3
      rcases hvs with rfl | rfl | rfl
      · go_wp2_with fail
        refine (l1Pick_at_t sb B _ [-2, h.fl + 1, xe] a len cap _ _ _ rfl FS.out (by omega) (by simp) (by simp)).mono ?_
        rintro e w6 ⟨y, rfl, hs, hk⟩
        have F0 : Hid (HAt w6 b0 h) := F0.out.keeps hk (by omega)
        have FR : Hid (Blk w6 b1 [.int .i64 0, .int .i64 0, .int .i64 0, .int .i64 0]) := FR.out.keeps hk (by omega)
        have FX : Hid (Blk w6 b2 [.int .i64 xa, .int .i64 xb, .int .i64 (min h.fl xc), .int .i64 (min h.fl xd)]) := FX.out.keeps hk (by omega)
        have FS : Hid (SrcT w6 sb B a len cap (T + 1 + 1 + 1 + 1 + 1 + 1)) := hs
        have FK : Hid (Keeps sb w w6) := FK.out.trans hk
        clear hs hk
        clear x0
        have c0_ := FX.out.c 0 _ rfl
        have c1_ := FX.out.c 1 _ rfl
        have c2_ := FX.out.c 2 _ rfl
        have c3_ := FX.out.c 3 _ rfl
        have q0_ := FX.out.f 0 (Nat.le_of_ble_eq_true rfl)
        have q1_ := FX.out.f 1 (Nat.le_of_ble_eq_true rfl)
        have q2_ := FX.out.f 2 (Nat.le_of_ble_eq_true rfl)
        have q3_ := FX.out.f 3 (Nat.le_of_ble_eq_true rfl)
        go_upto_region 13 with fail
        clear c0_ c1_ c2_ c3_ q0_ q1_ q2_ q3_
        obtain ⟨w7, hw_⟩ : ∃ w7, w7 = w6.setCell ⟨b2, 0, none⟩ (.int .i64 y) := ⟨_, rfl⟩
        have F0 : Hid (HAt w7 b0 h) := by rw [hw_]; exact F0.out.below ((Below.refl b2 _).setCell (Nat.le_refl _) _) (by omega)
        have FR : Hid (Blk w7 b1 [.int .i64 0, .int .i64 0, .int .i64 0, .int .i64 0]) := by rw [hw_]; exact FR.out.other (by omega)
        have FS : Hid (SrcT w7 sb B a len cap (T + 1 + 1 + 1 + 1 + 1 + 1)) := by rw [hw_]; exact FS.out.blw ((Below.refl b2 _).setCell (Nat.le_refl _) _) (by omega)
        have FK : Hid (Keeps sb w w7) := by rw [hw_]; exact FK.out.blw ((Below.refl b2 _).setCell (Nat.le_refl _) _) (by omega)
        have FX : Hid (Blk w7 b2 [.int .i64 y, .int .i64 xb, .int .i64 (min h.fl xc), .int .i64 (min h.fl xd)]) := by rw [hw_]; exact FX.out.set _ (Nat.le_of_ble_eq_true rfl)
        rw [← hw_]
        clear hw_
        go_wp2_with (first | (refine load_blk 29 _ Try.underlying29 (by kernel_rfl) FX.out rfl rfl rfl ?_) | (refine store_blk [.int .i64 y, .int .i64 xb, .int .i64 (min h.fl xc), .int .i64 (min h.fl xd)] 29 _ _ (by kernel_rfl) (by kernel_rfl) (by kernel_rfl) FR.out rfl rfl rfl rfl ?_))
        exact bodyPost_ret (v := .agg #[.int .i64 y, .int .i64 xb, .int .i64 (min h.fl xc), .int .i64 (min h.fl xd)]) ((FR.out.row [.int .i64 y, .int .i64 xb, .int .i64 (min h.fl xc), .int .i64 (min h.fl xd)]).res _ Try.results21 Try.underlying29 (by kernel_rfl) rfl) rfl ⟨⟨⟨y, xb⟩, ⟨min h.fl xc, min h.fl xd⟩⟩, rfl, (FS.out.blw (below_row (Below.refl b1 _) (Nat.le_refl _) _) (by omega)).more (by omega), FK.out.blw (below_row (Below.refl b1 _) (Nat.le_refl _) _) (by omega)⟩
      · go_wp2_with fail
        refine (l1Pick_at_t sb B _ [xg, h.fl + 1, h.fl] a len cap _ _ _ rfl FS.out (by omega) (by simp) (by simp)).mono ?_
        rintro e w6 ⟨y, rfl, hs, hk⟩
        have F0 : Hid (HAt w6 b0 h) := F0.out.keeps hk (by omega)
        have FR : Hid (Blk w6 b1 [.int .i64 0, .int .i64 0, .int .i64 0, .int .i64 0]) := FR.out.keeps hk (by omega)
        have FX : Hid (Blk w6 b2 [.int .i64 xa, .int .i64 xb, .int .i64 (min h.fl xc), .int .i64 (min h.fl xd)]) := FX.out.keeps hk (by omega)
        have FS : Hid (SrcT w6 sb B a len cap (T + 1 + 1 + 1 + 1 + 1 + 1)) := hs
        have FK : Hid (Keeps sb w w6) := FK.out.trans hk
        clear hs hk
        clear x0
        have c0_ := FX.out.c 0 _ rfl
        have c1_ := FX.out.c 1 _ rfl
        have c2_ := FX.out.c 2 _ rfl
        have c3_ := FX.out.c 3 _ rfl
        have q0_ := FX.out.f 0 (Nat.le_of_ble_eq_true rfl)
        have q1_ := FX.out.f 1 (Nat.le_of_ble_eq_true rfl)
        have q2_ := FX.out.f 2 (Nat.le_of_ble_eq_true rfl)
        have q3_ := FX.out.f 3 (Nat.le_of_ble_eq_true rfl)
        go_upto_region 13 with fail
        clear c0_ c1_ c2_ c3_ q0_ q1_ q2_ q3_
        obtain ⟨w7, hw_⟩ : ∃ w7, w7 = w6.setCell ⟨b2, 3, none⟩ (.int .i64 y) := ⟨_, rfl⟩
        have F0 : Hid (HAt w7 b0 h) := by rw [hw_]; exact F0.out.below ((Below.refl b2 _).setCell (Nat.le_refl _) _) (by omega)
        have FR : Hid (Blk w7 b1 [.int .i64 0, .int .i64 0, .int .i64 0, .int .i64 0]) := by rw [hw_]; exact FR.out.other (by omega)
        have FS : Hid (SrcT w7 sb B a len cap (T + 1 + 1 + 1 + 1 + 1 + 1)) := by rw [hw_]; exact FS.out.blw ((Below.refl b2 _).setCell (Nat.le_refl _) _) (by omega)
        have FK : Hid (Keeps sb w w7) := by rw [hw_]; exact FK.out.blw ((Below.refl b2 _).setCell (Nat.le_refl _) _) (by omega)
        have FX : Hid (Blk w7 b2 [.int .i64 xa, .int .i64 xb, .int .i64 (min h.fl xc), .int .i64 y]) := by rw [hw_]; exact FX.out.set _ (Nat.le_of_ble_eq_true rfl)
        rw [← hw_]
        clear hw_
        go_wp2_with (first | (refine load_blk 29 _ Try.underlying29 (by kernel_rfl) FX.out rfl rfl rfl ?_) | (refine store_blk [.int .i64 xa, .int .i64 xb, .int .i64 (min h.fl xc), .int .i64 y] 29 _ _ (by kernel_rfl) (by kernel_rfl) (by kernel_rfl) FR.out rfl rfl rfl rfl ?_))
        exact bodyPost_ret (v := .agg #[.int .i64 xa, .int .i64 xb, .int .i64 (min h.fl xc), .int .i64 y]) ((FR.out.row [.int .i64 xa, .int .i64 xb, .int .i64 (min h.fl xc), .int .i64 y]).res _ Try.results21 Try.underlying29 (by kernel_rfl) rfl) rfl ⟨⟨⟨xa, xb⟩, ⟨min h.fl xc, y⟩⟩, rfl, (FS.out.blw (below_row (Below.refl b1 _) (Nat.le_refl _) _) (by omega)).more (by omega), FK.out.blw (below_row (Below.refl b1 _) (Nat.le_refl _) _) (by omega)⟩
      · clear x0
        have c0_ := FX.out.c 0 _ rfl
        have c1_ := FX.out.c 1 _ rfl
        have c2_ := FX.out.c 2 _ rfl
        have c3_ := FX.out.c 3 _ rfl
        have q0_ := FX.out.f 0 (Nat.le_of_ble_eq_true rfl)
        have q1_ := FX.out.f 1 (Nat.le_of_ble_eq_true rfl)
        have q2_ := FX.out.f 2 (Nat.le_of_ble_eq_true rfl)
        have q3_ := FX.out.f 3 (Nat.le_of_ble_eq_true rfl)
        go_upto_region 13 with fail
        clear c0_ c1_ c2_ c3_ q0_ q1_ q2_ q3_
        obtain ⟨w7, hw_⟩ : ∃ w7, w7 = w5.setCell ⟨b2, 2, none⟩ (.int .i64 xb) := ⟨_, rfl⟩
        have F0 : Hid (HAt w7 b0 h) := by rw [hw_]; exact F0.out.below ((Below.refl b2 _).setCell (Nat.le_refl _) _) (by omega)
        have FR : Hid (Blk w7 b1 [.int .i64 0, .int .i64 0, .int .i64 0, .int .i64 0]) := by rw [hw_]; exact FR.out.other (by omega)
        have FS : Hid (SrcT w7 sb B a len cap (T + 1 + 1 + 1 + 1 + 1)) := by rw [hw_]; exact FS.out.blw ((Below.refl b2 _).setCell (Nat.le_refl _) _) (by omega)
        have FK : Hid (Keeps sb w w7) := by rw [hw_]; exact FK.out.blw ((Below.refl b2 _).setCell (Nat.le_refl _) _) (by omega)
        have FX : Hid (Blk w7 b2 [.int .i64 xa, .int .i64 xb, .int .i64 xb, .int .i64 (min h.fl xd)]) := by rw [hw_]; exact FX.out.set _ (Nat.le_of_ble_eq_true rfl)
        rw [← hw_]
        clear hw_
        go_wp2_with (first | (refine load_blk 29 _ Try.underlying29 (by kernel_rfl) FX.out rfl rfl rfl ?_) | (refine store_blk [.int .i64 xa, .int .i64 xb, .int .i64 xb, .int .i64 (min h.fl xd)] 29 _ _ (by kernel_rfl) (by kernel_rfl) (by kernel_rfl) FR.out rfl rfl rfl rfl ?_))
        exact bodyPost_ret (v := .agg #[.int .i64 xa, .int .i64 xb, .int .i64 xb, .int .i64 (min h.fl xd)]) ((FR.out.row [.int .i64 xa, .int .i64 xb, .int .i64 xb, .int .i64 (min h.fl xd)]).res _ Try.results21 Try.underlying29 (by kernel_rfl) rfl) rfl ⟨⟨⟨xa, xb⟩, ⟨xb, min h.fl xd⟩⟩, rfl, (FS.out.blw (below_row (Below.refl b1 _) (Nat.le_refl _) _) (by omega)).more (by omega), FK.out.blw (below_row (Below.refl b1 _) (Nat.le_refl _) _) (by omega)⟩
end Go.Proofs.Ytpfihpplpefikaa
