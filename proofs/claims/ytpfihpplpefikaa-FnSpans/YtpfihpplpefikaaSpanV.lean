/-
  The laws FnOrders and FnSpans.
-/
import Derived.Test.YtpfihpplpefikaaSpanQ
import Derived.Test.YtpfihpplpefikaaSpanH
import Derived.Test.YtpfihpplpefikaaSpanA
import Derived.Test.YtpfihpplpefikaaSpanI
import Derived.Test.YtpfihpplpefikaaTickP
import Derived.Test.YtpfihpplpefikaaFnd
namespace Go.Proofs.Ytpfihpplpefikaa
open Go.RowKit Pl
set_option linter.unusedSimpArgs false
set_option linter.unusedVariables false

theorem implAimOf_any (x : Sp) (g : Int) (hx : x.lo ≤ x.hi) (w : World) :
    Calls Try.prog 11 #[.agg #[.int .i64 x.lo, .int .i64 x.hi], .int .i64 g] w fun e w' => e = .returned (.int .i64 (aimS x g)) ∧ Below w.heap.size w w' := by
  rw [← aim_way g hx]
  have FB : Hid (Below w.heap.size w (w.alloc (.cells #[.int .i64 x.lo, .int .i64 x.hi] 27))) := (Below.refl _ _).alloc (Nat.le_refl _) _
  by_cases c1 : g < x.lo
  · rw [if_pos c1]
    go_enter Try.func11, Try.ntmps11
    go_wp2
    go_ret
    exact ⟨rfl, FB.out⟩
  · rw [if_neg c1]
    by_cases c2 : x.hi < g
    all_goals
      first | rw [if_pos c2] | rw [if_neg c2]
      go_enter Try.func11, Try.ntmps11
      go_wp2
      go_ret
      exact ⟨rfl, FB.out⟩
theorem safe_true {h : Hs} {x : Ss} {p q : Int} (k : Hs.spans h x = 0) (c1 : -1 ≤ p) (c2 : q ≤ h.fl) (c3 : p < q) : Hs.safe h x p q = true := by
  have z := spans_zero_iff.1 k
  have z3 := z.a3
  unfold Hs.safe
  simp only [Bool.and_eq_true, Bool.or_eq_true, decide_eq_true_eq, beq_iff_eq]
  exact ⟨k, inB_iff.2 ⟨by omega, by omega⟩, inB_iff.2 ⟨by omega, by omega⟩, c3, by omega⟩
theorem safe_false {h : Hs} {x : Ss} {p q : Int} (k : ¬ (Hs.spans h x = 0 ∧ -1 ≤ p ∧ q ≤ h.fl ∧ p < q)) : Hs.safe h x p q = false := by
  cases e : Hs.safe h x p q
  · rfl
  · refine absurd ?_ k
    unfold Hs.safe at e
    simp only [Bool.and_eq_true, Bool.or_eq_true, decide_eq_true_eq, beq_iff_eq] at e
    obtain ⟨e1, e2, e3, e4, e5⟩ := e
    exact ⟨e1, (inB_iff.1 e2).1, (inB_iff.1 e3).2, e4⟩
set_option maxRecDepth 20000 in
set_option maxHeartbeats 32000000 in
theorem orders_walk (a0 : Option Addr) (len0 cap0 : Nat) (w : World) (hc : CodeIn w w.heap.size a0 len0) (hbig : len0 ≤ 1048576) :
    Calls Try.prog 5 #[.slice a0 len0 cap0] w fun e w' => e = .returned (.bool true) ∧ Below w.heap.size w w' := by
  have HC : Hid (CodeIn w w.heap.size a0 len0) := hc
  clear hc
  go_enter Try.func5, Try.ntmps5
  go_wp2_with (first | (go_at_call 6; refine (lwBig_no _ _ _ hbig _).mono ?_; rintro e w' ⟨rfl, hw⟩; obtain rfl := hw.symm; clear hw))
  refine (DrawSafeSpans_any a0 len0 cap0 _ HC.out).mono ?_
  rintro e w1 ⟨h, x, p, q, rfl, hb⟩
  clear HC hbig
  go_upto_region 4 with fail
  have hsz := hb.size
  obtain ⟨w2, hw2⟩ : ∃ w2, w2 = (w1.alloc (.cells #[.int .i64 h.fl, .int .i64 h.gp, .int .i64 h.ln, .int .i64 h.rf, .int .i64 h.sp, .int .i64 h.pu, .int .i64 h.br, .int .i64 h.dr, .int .i64 h.lv, .int .i64 h.dO, .int .i64 h.ld, .int .i64 h.qu] 25)).alloc (.cells #[.int .i64 x.l.lo, .int .i64 x.l.hi, .int .i64 x.u.lo, .int .i64 x.u.hi] 29) := ⟨_, rfl⟩
  obtain ⟨b1, hb1⟩ : ∃ b1, b1 = w1.heap.size := ⟨_, rfl⟩
  obtain ⟨b2, hb2⟩ : ∃ b2, b2 = w1.heap.size + 1 := ⟨_, rfl⟩
  have l12 : b1 < b2 := by omega
  have lw1 : w.heap.size ≤ b1 := by omega
  have F0 : Hid (Blk w2 b1 [.int .i64 h.fl, .int .i64 h.gp, .int .i64 h.ln, .int .i64 h.rf, .int .i64 h.sp, .int .i64 h.pu, .int .i64 h.br, .int .i64 h.dr, .int .i64 h.lv, .int .i64 h.dO, .int .i64 h.ld, .int .i64 h.qu]) := by rw [hw2]; exact (Blk.at_ w1 _ _ _ hb1).alloc _
  have F1 : Hid (Blk w2 b2 [.int .i64 x.l.lo, .int .i64 x.l.hi, .int .i64 x.u.lo, .int .i64 x.u.hi]) := by rw [hw2]; exact Blk.at_ _ _ _ _ (by simp; omega)
  have FB : Hid (Below w.heap.size w w2) := by rw [hw2]; exact (hb.alloc hb.size _).alloc (by simp; omega) _
  rw [← hw2, ← hb2, ← hb1]
  clear hw2 hb1 hb2 hb hsz
  by_cases k : Hs.spans h x = 0
  case neg =>
    have hsafe : Hs.safe h x p q = false := safe_false (fun z => k z.1)
    have kz : (Hs.spans h x == 0) = false := by simpa using k
    clear k
    go_upto_region 5 with (first | (refine load_blk 25 _ Try.underlying25 (by kernel_rfl) F0.out rfl rfl rfl ?_) | (refine load_blk 29 _ Try.underlying29 (by kernel_rfl) F1.out rfl rfl rfl ?_) | (go_at_call 10; refine (implSpansFault_any h x _).mono ?_; rintro e w3 ⟨rfl, hb⟩; have F0 : Hid (Blk w3 b1 [.int .i64 h.fl, .int .i64 h.gp, .int .i64 h.ln, .int .i64 h.rf, .int .i64 h.sp, .int .i64 h.pu, .int .i64 h.br, .int .i64 h.dr, .int .i64 h.lv, .int .i64 h.dO, .int .i64 h.ld, .int .i64 h.qu]) := F0.out.below hb F0.out.lt; have F1 : Hid (Blk w3 b2 [.int .i64 x.l.lo, .int .i64 x.l.hi, .int .i64 x.u.lo, .int .i64 x.u.hi]) := F1.out.below hb F1.out.lt; have FB : Hid (Below w.heap.size w w3) := FB.out.trans (hb.mono FB.out.size); clear hb; have x0_ := F0.out.c 0 _ rfl))
    clear x0_
    have F0 : Hid (Blk w3.drew b1 [.int .i64 h.fl, .int .i64 h.gp, .int .i64 h.ln, .int .i64 h.rf, .int .i64 h.sp, .int .i64 h.pu, .int .i64 h.br, .int .i64 h.dr, .int .i64 h.lv, .int .i64 h.dO, .int .i64 h.ld, .int .i64 h.qu]) := F0.out.below (Below.refl _ _).drew F0.out.lt
    have F1 : Hid (Blk w3.drew b2 [.int .i64 x.l.lo, .int .i64 x.l.hi, .int .i64 x.u.lo, .int .i64 x.u.hi]) := F1.out.below (Below.refl _ _).drew F1.out.lt
    have FB : Hid (Below w.heap.size w w3.drew) := FB.out.drew
    refine wp_region_held_drew (S := (fun w'' => Blk w'' b1 ([.int .i64 h.fl, .int .i64 h.gp, .int .i64 h.ln, .int .i64 h.rf, .int .i64 h.sp, .int .i64 h.pu, .int .i64 h.br, .int .i64 h.dr, .int .i64 h.lv, .int .i64 h.dO, .int .i64 h.ld, .int .i64 h.qu]) ∧ Blk w'' b2 ([.int .i64 x.l.lo, .int .i64 x.l.hi, .int .i64 x.u.lo, .int .i64 x.u.hi]))) (by kernel_rfl) (by (try dsimp only); first | exact ⟨F0.out, F1.out⟩ | go_keep) (fun hHeld => ?_)
    obtain ⟨v_1, hw1⟩ : ∃ v_1, v_1 = w3.drew := ⟨_, rfl⟩
    have F0 : Hid (Blk v_1 b1 [.int .i64 h.fl, .int .i64 h.gp, .int .i64 h.ln, .int .i64 h.rf, .int .i64 h.sp, .int .i64 h.pu, .int .i64 h.br, .int .i64 h.dr, .int .i64 h.lv, .int .i64 h.dO, .int .i64 h.ld, .int .i64 h.qu]) := by rw [hw1]; exact F0.out
    have F1 : Hid (Blk v_1 b2 [.int .i64 x.l.lo, .int .i64 x.l.hi, .int .i64 x.u.lo, .int .i64 x.u.hi]) := by rw [hw1]; exact F1.out
    have FB : Hid (Below w.heap.size w v_1) := by rw [hw1]; exact FB.out
    rw [← hw1] at hHeld ⊢
    clear hw1
    refine tkz 0 rfl ?_ (hy := Or.inl ⟨by kernel_rfl, fun wx hSw => exec_load_blk 25 _ Try.underlying25 (by kernel_rfl) rfl rfl hSw.1⟩)
    refine tkz 1 rfl ?_ (hy := Or.inl ⟨by kernel_rfl, fun wx hSw => exec_load_blk 29 _ Try.underlying29 (by kernel_rfl) rfl rfl hSw.2⟩)
    refine tkz 2 rfl ?_
    refine tkz 3 rfl ?_
    refine tkz 5 rfl ?_
    refine wpAnyH_ready (rs := [4]) (by kernel_rfl) (by simp) ?_
    refine (AllReadyH.cons rfl (fun K hK => ?_) AllReadyH.nil)
    go_simp
    refine ((implSafeSpans_any h x p q _).mono (fun _ _ z => hsafe ▸ z)).mono ?_
    rintro e v_2 ⟨rfl, hb⟩
    have F0 : Hid (Blk v_2 b1 [.int .i64 h.fl, .int .i64 h.gp, .int .i64 h.ln, .int .i64 h.rf, .int .i64 h.sp, .int .i64 h.pu, .int .i64 h.br, .int .i64 h.dr, .int .i64 h.lv, .int .i64 h.dO, .int .i64 h.ld, .int .i64 h.qu]) := F0.out.below hb F0.out.lt
    have F1 : Hid (Blk v_2 b2 [.int .i64 x.l.lo, .int .i64 x.l.hi, .int .i64 x.u.lo, .int .i64 x.u.hi]) := F1.out.below hb F1.out.lt
    have FB : Hid (Below w.heap.size w v_2) := FB.out.trans (hb.mono FB.out.size)
    clear hb
    try dsimp only
    refine hK.out _ _ (by (try dsimp only); first | exact ⟨F0.out, F1.out⟩ | go_keep) (fun hHeld => ?_)
    clear hK K
    try simp only [Act.put, List.getElem_toArray, List.getElem_cons_succ, List.getElem_cons_zero, List.setIfInBounds_toArray, List.set_cons_zero, List.set_cons_succ]
    refine tkz 6 rfl ?_
    refine tkz 7 rfl ?_
    refine tkz 8 rfl ?_ (hy := Or.inl ⟨by kernel_rfl, fun wx hSw => exec_load_blk 25 _ Try.underlying25 (by kernel_rfl) rfl rfl hSw.1⟩)
    refine tkz 9 rfl ?_ (hy := Or.inl ⟨by kernel_rfl, fun wx hSw => exec_load_blk 29 _ Try.underlying29 (by kernel_rfl) rfl rfl hSw.2⟩)
    refine tkz 11 rfl ?_ (hy := Or.inl ⟨by kernel_rfl, fun wx hSw => exec_load_blk 25 _ Try.underlying25 (by kernel_rfl) rfl rfl hSw.1⟩)
    refine tkz 12 rfl ?_ (hy := Or.inl ⟨by kernel_rfl, fun wx hSw => exec_load_blk 29 _ Try.underlying29 (by kernel_rfl) rfl rfl hSw.2⟩)
    refine wpAnyH_ready (rs := [10]) (by kernel_rfl) (by simp) ?_
    refine (AllReadyH.cons rfl (fun K hK => ?_) AllReadyH.nil)
    go_simp
    refine (implSpansFault_any h x _).mono ?_
    rintro e v_3 ⟨rfl, hb⟩
    have F0 : Hid (Blk v_3 b1 [.int .i64 h.fl, .int .i64 h.gp, .int .i64 h.ln, .int .i64 h.rf, .int .i64 h.sp, .int .i64 h.pu, .int .i64 h.br, .int .i64 h.dr, .int .i64 h.lv, .int .i64 h.dO, .int .i64 h.ld, .int .i64 h.qu]) := F0.out.below hb F0.out.lt
    have F1 : Hid (Blk v_3 b2 [.int .i64 x.l.lo, .int .i64 x.l.hi, .int .i64 x.u.lo, .int .i64 x.u.hi]) := F1.out.below hb F1.out.lt
    have FB : Hid (Below w.heap.size w v_3) := FB.out.trans (hb.mono FB.out.size)
    clear hb
    try dsimp only
    refine hK.out _ _ (by (try dsimp only); first | exact ⟨F0.out, F1.out⟩ | go_keep) (fun hHeld => ?_)
    clear hK K
    try simp only [Act.put, List.getElem_toArray, List.getElem_cons_succ, List.getElem_cons_zero, List.setIfInBounds_toArray, List.set_cons_zero, List.set_cons_succ]
    refine wpAnyH_ready (rs := [13]) (by kernel_rfl) (by simp) ?_
    refine (AllReadyH.cons rfl (fun K hK => ?_) AllReadyH.nil)
    go_simp
    refine (specSpansFault_any h x _).mono ?_
    rintro e v_4 ⟨rfl, hb⟩
    have F0 : Hid (Blk v_4 b1 [.int .i64 h.fl, .int .i64 h.gp, .int .i64 h.ln, .int .i64 h.rf, .int .i64 h.sp, .int .i64 h.pu, .int .i64 h.br, .int .i64 h.dr, .int .i64 h.lv, .int .i64 h.dO, .int .i64 h.ld, .int .i64 h.qu]) := F0.out.below hb F0.out.lt
    have F1 : Hid (Blk v_4 b2 [.int .i64 x.l.lo, .int .i64 x.l.hi, .int .i64 x.u.lo, .int .i64 x.u.hi]) := F1.out.below hb F1.out.lt
    have FB : Hid (Below w.heap.size w v_4) := FB.out.trans (hb.mono FB.out.size)
    clear hb
    try dsimp only
    refine hK.out _ _ (by (try dsimp only); first | exact ⟨F0.out, F1.out⟩ | go_keep) (fun hHeld => ?_)
    clear hK K
    try simp only [Act.put, List.getElem_toArray, List.getElem_cons_succ, List.getElem_cons_zero, List.setIfInBounds_toArray, List.set_cons_zero, List.set_cons_succ]
    refine tkz 14 rfl ?_
    refine tkz 15 rfl ?_
    refine tkz 16 rfl ?_
    refine wpAnyH_done (by kernel_rfl) ?_ _
    go_wp2_with fail
    go_ret
    exact ⟨by simp, FB.out⟩
  have kz : (Hs.spans h x == 0) = true := by simpa using k
  by_cases c1 : -1 ≤ p
  case neg =>
    have hsafe : Hs.safe h x p q = false := safe_false (fun z => c1 z.2.1)
    have d1 : decide (-1 ≤ p) = false := decide_eq_false c1
    clear k c1
    go_upto_region 5 with (first | (refine load_blk 25 _ Try.underlying25 (by kernel_rfl) F0.out rfl rfl rfl ?_) | (refine load_blk 29 _ Try.underlying29 (by kernel_rfl) F1.out rfl rfl rfl ?_) | (go_at_call 10; refine (implSpansFault_any h x _).mono ?_; rintro e w3 ⟨rfl, hb⟩; have F0 : Hid (Blk w3 b1 [.int .i64 h.fl, .int .i64 h.gp, .int .i64 h.ln, .int .i64 h.rf, .int .i64 h.sp, .int .i64 h.pu, .int .i64 h.br, .int .i64 h.dr, .int .i64 h.lv, .int .i64 h.dO, .int .i64 h.ld, .int .i64 h.qu]) := F0.out.below hb F0.out.lt; have F1 : Hid (Blk w3 b2 [.int .i64 x.l.lo, .int .i64 x.l.hi, .int .i64 x.u.lo, .int .i64 x.u.hi]) := F1.out.below hb F1.out.lt; have FB : Hid (Below w.heap.size w w3) := FB.out.trans (hb.mono FB.out.size); clear hb; have x0_ := F0.out.c 0 _ rfl))
    clear x0_
    have F0 : Hid (Blk w3.drew b1 [.int .i64 h.fl, .int .i64 h.gp, .int .i64 h.ln, .int .i64 h.rf, .int .i64 h.sp, .int .i64 h.pu, .int .i64 h.br, .int .i64 h.dr, .int .i64 h.lv, .int .i64 h.dO, .int .i64 h.ld, .int .i64 h.qu]) := F0.out.below (Below.refl _ _).drew F0.out.lt
    have F1 : Hid (Blk w3.drew b2 [.int .i64 x.l.lo, .int .i64 x.l.hi, .int .i64 x.u.lo, .int .i64 x.u.hi]) := F1.out.below (Below.refl _ _).drew F1.out.lt
    have FB : Hid (Below w.heap.size w w3.drew) := FB.out.drew
    refine wp_region_held_drew (S := (fun w'' => Blk w'' b1 ([.int .i64 h.fl, .int .i64 h.gp, .int .i64 h.ln, .int .i64 h.rf, .int .i64 h.sp, .int .i64 h.pu, .int .i64 h.br, .int .i64 h.dr, .int .i64 h.lv, .int .i64 h.dO, .int .i64 h.ld, .int .i64 h.qu]) ∧ Blk w'' b2 ([.int .i64 x.l.lo, .int .i64 x.l.hi, .int .i64 x.u.lo, .int .i64 x.u.hi]))) (by kernel_rfl) (by (try dsimp only); first | exact ⟨F0.out, F1.out⟩ | go_keep) (fun hHeld => ?_)
    obtain ⟨v_5, hw1⟩ : ∃ v_5, v_5 = w3.drew := ⟨_, rfl⟩
    have F0 : Hid (Blk v_5 b1 [.int .i64 h.fl, .int .i64 h.gp, .int .i64 h.ln, .int .i64 h.rf, .int .i64 h.sp, .int .i64 h.pu, .int .i64 h.br, .int .i64 h.dr, .int .i64 h.lv, .int .i64 h.dO, .int .i64 h.ld, .int .i64 h.qu]) := by rw [hw1]; exact F0.out
    have F1 : Hid (Blk v_5 b2 [.int .i64 x.l.lo, .int .i64 x.l.hi, .int .i64 x.u.lo, .int .i64 x.u.hi]) := by rw [hw1]; exact F1.out
    have FB : Hid (Below w.heap.size w v_5) := by rw [hw1]; exact FB.out
    rw [← hw1] at hHeld ⊢
    clear hw1
    refine tkz 0 rfl ?_ (hy := Or.inl ⟨by kernel_rfl, fun wx hSw => exec_load_blk 25 _ Try.underlying25 (by kernel_rfl) rfl rfl hSw.1⟩)
    refine tkz 1 rfl ?_ (hy := Or.inl ⟨by kernel_rfl, fun wx hSw => exec_load_blk 29 _ Try.underlying29 (by kernel_rfl) rfl rfl hSw.2⟩)
    refine tkz 2 rfl ?_
    refine tkz 3 rfl ?_
    refine tkz 5 rfl ?_
    refine wpAnyH_ready (rs := [4]) (by kernel_rfl) (by simp) ?_
    refine (AllReadyH.cons rfl (fun K hK => ?_) AllReadyH.nil)
    go_simp
    refine ((implSafeSpans_any h x p q _).mono (fun _ _ z => hsafe ▸ z)).mono ?_
    rintro e v_6 ⟨rfl, hb⟩
    have F0 : Hid (Blk v_6 b1 [.int .i64 h.fl, .int .i64 h.gp, .int .i64 h.ln, .int .i64 h.rf, .int .i64 h.sp, .int .i64 h.pu, .int .i64 h.br, .int .i64 h.dr, .int .i64 h.lv, .int .i64 h.dO, .int .i64 h.ld, .int .i64 h.qu]) := F0.out.below hb F0.out.lt
    have F1 : Hid (Blk v_6 b2 [.int .i64 x.l.lo, .int .i64 x.l.hi, .int .i64 x.u.lo, .int .i64 x.u.hi]) := F1.out.below hb F1.out.lt
    have FB : Hid (Below w.heap.size w v_6) := FB.out.trans (hb.mono FB.out.size)
    clear hb
    try dsimp only
    refine hK.out _ _ (by (try dsimp only); first | exact ⟨F0.out, F1.out⟩ | go_keep) (fun hHeld => ?_)
    clear hK K
    try simp only [Act.put, List.getElem_toArray, List.getElem_cons_succ, List.getElem_cons_zero, List.setIfInBounds_toArray, List.set_cons_zero, List.set_cons_succ]
    refine tkz 6 rfl ?_
    refine tkz 7 rfl ?_
    refine tkz 8 rfl ?_ (hy := Or.inl ⟨by kernel_rfl, fun wx hSw => exec_load_blk 25 _ Try.underlying25 (by kernel_rfl) rfl rfl hSw.1⟩)
    refine tkz 9 rfl ?_ (hy := Or.inl ⟨by kernel_rfl, fun wx hSw => exec_load_blk 29 _ Try.underlying29 (by kernel_rfl) rfl rfl hSw.2⟩)
    refine tkz 11 rfl ?_ (hy := Or.inl ⟨by kernel_rfl, fun wx hSw => exec_load_blk 25 _ Try.underlying25 (by kernel_rfl) rfl rfl hSw.1⟩)
    refine tkz 12 rfl ?_ (hy := Or.inl ⟨by kernel_rfl, fun wx hSw => exec_load_blk 29 _ Try.underlying29 (by kernel_rfl) rfl rfl hSw.2⟩)
    refine wpAnyH_ready (rs := [10]) (by kernel_rfl) (by simp) ?_
    refine (AllReadyH.cons rfl (fun K hK => ?_) AllReadyH.nil)
    go_simp
    refine (implSpansFault_any h x _).mono ?_
    rintro e v_7 ⟨rfl, hb⟩
    have F0 : Hid (Blk v_7 b1 [.int .i64 h.fl, .int .i64 h.gp, .int .i64 h.ln, .int .i64 h.rf, .int .i64 h.sp, .int .i64 h.pu, .int .i64 h.br, .int .i64 h.dr, .int .i64 h.lv, .int .i64 h.dO, .int .i64 h.ld, .int .i64 h.qu]) := F0.out.below hb F0.out.lt
    have F1 : Hid (Blk v_7 b2 [.int .i64 x.l.lo, .int .i64 x.l.hi, .int .i64 x.u.lo, .int .i64 x.u.hi]) := F1.out.below hb F1.out.lt
    have FB : Hid (Below w.heap.size w v_7) := FB.out.trans (hb.mono FB.out.size)
    clear hb
    try dsimp only
    refine hK.out _ _ (by (try dsimp only); first | exact ⟨F0.out, F1.out⟩ | go_keep) (fun hHeld => ?_)
    clear hK K
    try simp only [Act.put, List.getElem_toArray, List.getElem_cons_succ, List.getElem_cons_zero, List.setIfInBounds_toArray, List.set_cons_zero, List.set_cons_succ]
    refine wpAnyH_ready (rs := [13]) (by kernel_rfl) (by simp) ?_
    refine (AllReadyH.cons rfl (fun K hK => ?_) AllReadyH.nil)
    go_simp
    refine (specSpansFault_any h x _).mono ?_
    rintro e v_8 ⟨rfl, hb⟩
    have F0 : Hid (Blk v_8 b1 [.int .i64 h.fl, .int .i64 h.gp, .int .i64 h.ln, .int .i64 h.rf, .int .i64 h.sp, .int .i64 h.pu, .int .i64 h.br, .int .i64 h.dr, .int .i64 h.lv, .int .i64 h.dO, .int .i64 h.ld, .int .i64 h.qu]) := F0.out.below hb F0.out.lt
    have F1 : Hid (Blk v_8 b2 [.int .i64 x.l.lo, .int .i64 x.l.hi, .int .i64 x.u.lo, .int .i64 x.u.hi]) := F1.out.below hb F1.out.lt
    have FB : Hid (Below w.heap.size w v_8) := FB.out.trans (hb.mono FB.out.size)
    clear hb
    try dsimp only
    refine hK.out _ _ (by (try dsimp only); first | exact ⟨F0.out, F1.out⟩ | go_keep) (fun hHeld => ?_)
    clear hK K
    try simp only [Act.put, List.getElem_toArray, List.getElem_cons_succ, List.getElem_cons_zero, List.setIfInBounds_toArray, List.set_cons_zero, List.set_cons_succ]
    refine tkz 14 rfl ?_
    refine tkz 15 rfl ?_
    refine tkz 16 rfl ?_
    refine wpAnyH_done (by kernel_rfl) ?_ _
    go_wp2_with fail
    go_ret
    exact ⟨by simp, FB.out⟩
  have d1 : decide (-1 ≤ p) = true := decide_eq_true c1
  by_cases c2 : q ≤ h.fl
  case neg =>
    have hsafe : Hs.safe h x p q = false := safe_false (fun z => c2 z.2.2.1)
    have d2 : decide (q ≤ h.fl) = false := decide_eq_false c2
    clear k c1 c2
    go_upto_region 5 with (first | (refine load_blk 25 _ Try.underlying25 (by kernel_rfl) F0.out rfl rfl rfl ?_) | (refine load_blk 29 _ Try.underlying29 (by kernel_rfl) F1.out rfl rfl rfl ?_) | (go_at_call 10; refine (implSpansFault_any h x _).mono ?_; rintro e w3 ⟨rfl, hb⟩; have F0 : Hid (Blk w3 b1 [.int .i64 h.fl, .int .i64 h.gp, .int .i64 h.ln, .int .i64 h.rf, .int .i64 h.sp, .int .i64 h.pu, .int .i64 h.br, .int .i64 h.dr, .int .i64 h.lv, .int .i64 h.dO, .int .i64 h.ld, .int .i64 h.qu]) := F0.out.below hb F0.out.lt; have F1 : Hid (Blk w3 b2 [.int .i64 x.l.lo, .int .i64 x.l.hi, .int .i64 x.u.lo, .int .i64 x.u.hi]) := F1.out.below hb F1.out.lt; have FB : Hid (Below w.heap.size w w3) := FB.out.trans (hb.mono FB.out.size); clear hb; have x0_ := F0.out.c 0 _ rfl))
    clear x0_
    have F0 : Hid (Blk w3.drew b1 [.int .i64 h.fl, .int .i64 h.gp, .int .i64 h.ln, .int .i64 h.rf, .int .i64 h.sp, .int .i64 h.pu, .int .i64 h.br, .int .i64 h.dr, .int .i64 h.lv, .int .i64 h.dO, .int .i64 h.ld, .int .i64 h.qu]) := F0.out.below (Below.refl _ _).drew F0.out.lt
    have F1 : Hid (Blk w3.drew b2 [.int .i64 x.l.lo, .int .i64 x.l.hi, .int .i64 x.u.lo, .int .i64 x.u.hi]) := F1.out.below (Below.refl _ _).drew F1.out.lt
    have FB : Hid (Below w.heap.size w w3.drew) := FB.out.drew
    refine wp_region_held_drew (S := (fun w'' => Blk w'' b1 ([.int .i64 h.fl, .int .i64 h.gp, .int .i64 h.ln, .int .i64 h.rf, .int .i64 h.sp, .int .i64 h.pu, .int .i64 h.br, .int .i64 h.dr, .int .i64 h.lv, .int .i64 h.dO, .int .i64 h.ld, .int .i64 h.qu]) ∧ Blk w'' b2 ([.int .i64 x.l.lo, .int .i64 x.l.hi, .int .i64 x.u.lo, .int .i64 x.u.hi]))) (by kernel_rfl) (by (try dsimp only); first | exact ⟨F0.out, F1.out⟩ | go_keep) (fun hHeld => ?_)
    obtain ⟨v_9, hw1⟩ : ∃ v_9, v_9 = w3.drew := ⟨_, rfl⟩
    have F0 : Hid (Blk v_9 b1 [.int .i64 h.fl, .int .i64 h.gp, .int .i64 h.ln, .int .i64 h.rf, .int .i64 h.sp, .int .i64 h.pu, .int .i64 h.br, .int .i64 h.dr, .int .i64 h.lv, .int .i64 h.dO, .int .i64 h.ld, .int .i64 h.qu]) := by rw [hw1]; exact F0.out
    have F1 : Hid (Blk v_9 b2 [.int .i64 x.l.lo, .int .i64 x.l.hi, .int .i64 x.u.lo, .int .i64 x.u.hi]) := by rw [hw1]; exact F1.out
    have FB : Hid (Below w.heap.size w v_9) := by rw [hw1]; exact FB.out
    rw [← hw1] at hHeld ⊢
    clear hw1
    refine tkz 0 rfl ?_ (hy := Or.inl ⟨by kernel_rfl, fun wx hSw => exec_load_blk 25 _ Try.underlying25 (by kernel_rfl) rfl rfl hSw.1⟩)
    refine tkz 1 rfl ?_ (hy := Or.inl ⟨by kernel_rfl, fun wx hSw => exec_load_blk 29 _ Try.underlying29 (by kernel_rfl) rfl rfl hSw.2⟩)
    refine tkz 2 rfl ?_
    refine tkz 3 rfl ?_
    refine tkz 5 rfl ?_
    refine wpAnyH_ready (rs := [4]) (by kernel_rfl) (by simp) ?_
    refine (AllReadyH.cons rfl (fun K hK => ?_) AllReadyH.nil)
    go_simp
    refine ((implSafeSpans_any h x p q _).mono (fun _ _ z => hsafe ▸ z)).mono ?_
    rintro e v_10 ⟨rfl, hb⟩
    have F0 : Hid (Blk v_10 b1 [.int .i64 h.fl, .int .i64 h.gp, .int .i64 h.ln, .int .i64 h.rf, .int .i64 h.sp, .int .i64 h.pu, .int .i64 h.br, .int .i64 h.dr, .int .i64 h.lv, .int .i64 h.dO, .int .i64 h.ld, .int .i64 h.qu]) := F0.out.below hb F0.out.lt
    have F1 : Hid (Blk v_10 b2 [.int .i64 x.l.lo, .int .i64 x.l.hi, .int .i64 x.u.lo, .int .i64 x.u.hi]) := F1.out.below hb F1.out.lt
    have FB : Hid (Below w.heap.size w v_10) := FB.out.trans (hb.mono FB.out.size)
    clear hb
    try dsimp only
    refine hK.out _ _ (by (try dsimp only); first | exact ⟨F0.out, F1.out⟩ | go_keep) (fun hHeld => ?_)
    clear hK K
    try simp only [Act.put, List.getElem_toArray, List.getElem_cons_succ, List.getElem_cons_zero, List.setIfInBounds_toArray, List.set_cons_zero, List.set_cons_succ]
    refine tkz 6 rfl ?_
    refine tkz 7 rfl ?_
    refine tkz 8 rfl ?_ (hy := Or.inl ⟨by kernel_rfl, fun wx hSw => exec_load_blk 25 _ Try.underlying25 (by kernel_rfl) rfl rfl hSw.1⟩)
    refine tkz 9 rfl ?_ (hy := Or.inl ⟨by kernel_rfl, fun wx hSw => exec_load_blk 29 _ Try.underlying29 (by kernel_rfl) rfl rfl hSw.2⟩)
    refine tkz 11 rfl ?_ (hy := Or.inl ⟨by kernel_rfl, fun wx hSw => exec_load_blk 25 _ Try.underlying25 (by kernel_rfl) rfl rfl hSw.1⟩)
    refine tkz 12 rfl ?_ (hy := Or.inl ⟨by kernel_rfl, fun wx hSw => exec_load_blk 29 _ Try.underlying29 (by kernel_rfl) rfl rfl hSw.2⟩)
    refine wpAnyH_ready (rs := [10]) (by kernel_rfl) (by simp) ?_
    refine (AllReadyH.cons rfl (fun K hK => ?_) AllReadyH.nil)
    go_simp
    refine (implSpansFault_any h x _).mono ?_
    rintro e v_11 ⟨rfl, hb⟩
    have F0 : Hid (Blk v_11 b1 [.int .i64 h.fl, .int .i64 h.gp, .int .i64 h.ln, .int .i64 h.rf, .int .i64 h.sp, .int .i64 h.pu, .int .i64 h.br, .int .i64 h.dr, .int .i64 h.lv, .int .i64 h.dO, .int .i64 h.ld, .int .i64 h.qu]) := F0.out.below hb F0.out.lt
    have F1 : Hid (Blk v_11 b2 [.int .i64 x.l.lo, .int .i64 x.l.hi, .int .i64 x.u.lo, .int .i64 x.u.hi]) := F1.out.below hb F1.out.lt
    have FB : Hid (Below w.heap.size w v_11) := FB.out.trans (hb.mono FB.out.size)
    clear hb
    try dsimp only
    refine hK.out _ _ (by (try dsimp only); first | exact ⟨F0.out, F1.out⟩ | go_keep) (fun hHeld => ?_)
    clear hK K
    try simp only [Act.put, List.getElem_toArray, List.getElem_cons_succ, List.getElem_cons_zero, List.setIfInBounds_toArray, List.set_cons_zero, List.set_cons_succ]
    refine wpAnyH_ready (rs := [13]) (by kernel_rfl) (by simp) ?_
    refine (AllReadyH.cons rfl (fun K hK => ?_) AllReadyH.nil)
    go_simp
    refine (specSpansFault_any h x _).mono ?_
    rintro e v_12 ⟨rfl, hb⟩
    have F0 : Hid (Blk v_12 b1 [.int .i64 h.fl, .int .i64 h.gp, .int .i64 h.ln, .int .i64 h.rf, .int .i64 h.sp, .int .i64 h.pu, .int .i64 h.br, .int .i64 h.dr, .int .i64 h.lv, .int .i64 h.dO, .int .i64 h.ld, .int .i64 h.qu]) := F0.out.below hb F0.out.lt
    have F1 : Hid (Blk v_12 b2 [.int .i64 x.l.lo, .int .i64 x.l.hi, .int .i64 x.u.lo, .int .i64 x.u.hi]) := F1.out.below hb F1.out.lt
    have FB : Hid (Below w.heap.size w v_12) := FB.out.trans (hb.mono FB.out.size)
    clear hb
    try dsimp only
    refine hK.out _ _ (by (try dsimp only); first | exact ⟨F0.out, F1.out⟩ | go_keep) (fun hHeld => ?_)
    clear hK K
    try simp only [Act.put, List.getElem_toArray, List.getElem_cons_succ, List.getElem_cons_zero, List.setIfInBounds_toArray, List.set_cons_zero, List.set_cons_succ]
    refine tkz 14 rfl ?_
    refine tkz 15 rfl ?_
    refine tkz 16 rfl ?_
    refine wpAnyH_done (by kernel_rfl) ?_ _
    go_wp2_with fail
    go_ret
    exact ⟨by simp, FB.out⟩
  have d2 : decide (q ≤ h.fl) = true := decide_eq_true c2
  by_cases c3 : p < q
  case neg =>
    have hsafe : Hs.safe h x p q = false := safe_false (fun z => c3 z.2.2.2)
    have d3 : decide (p < q) = false := decide_eq_false c3
    clear k c1 c2 c3
    go_upto_region 5 with (first | (refine load_blk 25 _ Try.underlying25 (by kernel_rfl) F0.out rfl rfl rfl ?_) | (refine load_blk 29 _ Try.underlying29 (by kernel_rfl) F1.out rfl rfl rfl ?_) | (go_at_call 10; refine (implSpansFault_any h x _).mono ?_; rintro e w3 ⟨rfl, hb⟩; have F0 : Hid (Blk w3 b1 [.int .i64 h.fl, .int .i64 h.gp, .int .i64 h.ln, .int .i64 h.rf, .int .i64 h.sp, .int .i64 h.pu, .int .i64 h.br, .int .i64 h.dr, .int .i64 h.lv, .int .i64 h.dO, .int .i64 h.ld, .int .i64 h.qu]) := F0.out.below hb F0.out.lt; have F1 : Hid (Blk w3 b2 [.int .i64 x.l.lo, .int .i64 x.l.hi, .int .i64 x.u.lo, .int .i64 x.u.hi]) := F1.out.below hb F1.out.lt; have FB : Hid (Below w.heap.size w w3) := FB.out.trans (hb.mono FB.out.size); clear hb; have x0_ := F0.out.c 0 _ rfl))
    clear x0_
    have F0 : Hid (Blk w3.drew b1 [.int .i64 h.fl, .int .i64 h.gp, .int .i64 h.ln, .int .i64 h.rf, .int .i64 h.sp, .int .i64 h.pu, .int .i64 h.br, .int .i64 h.dr, .int .i64 h.lv, .int .i64 h.dO, .int .i64 h.ld, .int .i64 h.qu]) := F0.out.below (Below.refl _ _).drew F0.out.lt
    have F1 : Hid (Blk w3.drew b2 [.int .i64 x.l.lo, .int .i64 x.l.hi, .int .i64 x.u.lo, .int .i64 x.u.hi]) := F1.out.below (Below.refl _ _).drew F1.out.lt
    have FB : Hid (Below w.heap.size w w3.drew) := FB.out.drew
    refine wp_region_held_drew (S := (fun w'' => Blk w'' b1 ([.int .i64 h.fl, .int .i64 h.gp, .int .i64 h.ln, .int .i64 h.rf, .int .i64 h.sp, .int .i64 h.pu, .int .i64 h.br, .int .i64 h.dr, .int .i64 h.lv, .int .i64 h.dO, .int .i64 h.ld, .int .i64 h.qu]) ∧ Blk w'' b2 ([.int .i64 x.l.lo, .int .i64 x.l.hi, .int .i64 x.u.lo, .int .i64 x.u.hi]))) (by kernel_rfl) (by (try dsimp only); first | exact ⟨F0.out, F1.out⟩ | go_keep) (fun hHeld => ?_)
    obtain ⟨v_13, hw1⟩ : ∃ v_13, v_13 = w3.drew := ⟨_, rfl⟩
    have F0 : Hid (Blk v_13 b1 [.int .i64 h.fl, .int .i64 h.gp, .int .i64 h.ln, .int .i64 h.rf, .int .i64 h.sp, .int .i64 h.pu, .int .i64 h.br, .int .i64 h.dr, .int .i64 h.lv, .int .i64 h.dO, .int .i64 h.ld, .int .i64 h.qu]) := by rw [hw1]; exact F0.out
    have F1 : Hid (Blk v_13 b2 [.int .i64 x.l.lo, .int .i64 x.l.hi, .int .i64 x.u.lo, .int .i64 x.u.hi]) := by rw [hw1]; exact F1.out
    have FB : Hid (Below w.heap.size w v_13) := by rw [hw1]; exact FB.out
    rw [← hw1] at hHeld ⊢
    clear hw1
    refine tkz 0 rfl ?_ (hy := Or.inl ⟨by kernel_rfl, fun wx hSw => exec_load_blk 25 _ Try.underlying25 (by kernel_rfl) rfl rfl hSw.1⟩)
    refine tkz 1 rfl ?_ (hy := Or.inl ⟨by kernel_rfl, fun wx hSw => exec_load_blk 29 _ Try.underlying29 (by kernel_rfl) rfl rfl hSw.2⟩)
    refine tkz 2 rfl ?_
    refine tkz 3 rfl ?_
    refine tkz 5 rfl ?_
    refine wpAnyH_ready (rs := [4]) (by kernel_rfl) (by simp) ?_
    refine (AllReadyH.cons rfl (fun K hK => ?_) AllReadyH.nil)
    go_simp
    refine ((implSafeSpans_any h x p q _).mono (fun _ _ z => hsafe ▸ z)).mono ?_
    rintro e v_14 ⟨rfl, hb⟩
    have F0 : Hid (Blk v_14 b1 [.int .i64 h.fl, .int .i64 h.gp, .int .i64 h.ln, .int .i64 h.rf, .int .i64 h.sp, .int .i64 h.pu, .int .i64 h.br, .int .i64 h.dr, .int .i64 h.lv, .int .i64 h.dO, .int .i64 h.ld, .int .i64 h.qu]) := F0.out.below hb F0.out.lt
    have F1 : Hid (Blk v_14 b2 [.int .i64 x.l.lo, .int .i64 x.l.hi, .int .i64 x.u.lo, .int .i64 x.u.hi]) := F1.out.below hb F1.out.lt
    have FB : Hid (Below w.heap.size w v_14) := FB.out.trans (hb.mono FB.out.size)
    clear hb
    try dsimp only
    refine hK.out _ _ (by (try dsimp only); first | exact ⟨F0.out, F1.out⟩ | go_keep) (fun hHeld => ?_)
    clear hK K
    try simp only [Act.put, List.getElem_toArray, List.getElem_cons_succ, List.getElem_cons_zero, List.setIfInBounds_toArray, List.set_cons_zero, List.set_cons_succ]
    refine tkz 6 rfl ?_
    refine tkz 7 rfl ?_
    refine tkz 8 rfl ?_ (hy := Or.inl ⟨by kernel_rfl, fun wx hSw => exec_load_blk 25 _ Try.underlying25 (by kernel_rfl) rfl rfl hSw.1⟩)
    refine tkz 9 rfl ?_ (hy := Or.inl ⟨by kernel_rfl, fun wx hSw => exec_load_blk 29 _ Try.underlying29 (by kernel_rfl) rfl rfl hSw.2⟩)
    refine tkz 11 rfl ?_ (hy := Or.inl ⟨by kernel_rfl, fun wx hSw => exec_load_blk 25 _ Try.underlying25 (by kernel_rfl) rfl rfl hSw.1⟩)
    refine tkz 12 rfl ?_ (hy := Or.inl ⟨by kernel_rfl, fun wx hSw => exec_load_blk 29 _ Try.underlying29 (by kernel_rfl) rfl rfl hSw.2⟩)
    refine wpAnyH_ready (rs := [10]) (by kernel_rfl) (by simp) ?_
    refine (AllReadyH.cons rfl (fun K hK => ?_) AllReadyH.nil)
    go_simp
    refine (implSpansFault_any h x _).mono ?_
    rintro e v_15 ⟨rfl, hb⟩
    have F0 : Hid (Blk v_15 b1 [.int .i64 h.fl, .int .i64 h.gp, .int .i64 h.ln, .int .i64 h.rf, .int .i64 h.sp, .int .i64 h.pu, .int .i64 h.br, .int .i64 h.dr, .int .i64 h.lv, .int .i64 h.dO, .int .i64 h.ld, .int .i64 h.qu]) := F0.out.below hb F0.out.lt
    have F1 : Hid (Blk v_15 b2 [.int .i64 x.l.lo, .int .i64 x.l.hi, .int .i64 x.u.lo, .int .i64 x.u.hi]) := F1.out.below hb F1.out.lt
    have FB : Hid (Below w.heap.size w v_15) := FB.out.trans (hb.mono FB.out.size)
    clear hb
    try dsimp only
    refine hK.out _ _ (by (try dsimp only); first | exact ⟨F0.out, F1.out⟩ | go_keep) (fun hHeld => ?_)
    clear hK K
    try simp only [Act.put, List.getElem_toArray, List.getElem_cons_succ, List.getElem_cons_zero, List.setIfInBounds_toArray, List.set_cons_zero, List.set_cons_succ]
    refine wpAnyH_ready (rs := [13]) (by kernel_rfl) (by simp) ?_
    refine (AllReadyH.cons rfl (fun K hK => ?_) AllReadyH.nil)
    go_simp
    refine (specSpansFault_any h x _).mono ?_
    rintro e v_16 ⟨rfl, hb⟩
    have F0 : Hid (Blk v_16 b1 [.int .i64 h.fl, .int .i64 h.gp, .int .i64 h.ln, .int .i64 h.rf, .int .i64 h.sp, .int .i64 h.pu, .int .i64 h.br, .int .i64 h.dr, .int .i64 h.lv, .int .i64 h.dO, .int .i64 h.ld, .int .i64 h.qu]) := F0.out.below hb F0.out.lt
    have F1 : Hid (Blk v_16 b2 [.int .i64 x.l.lo, .int .i64 x.l.hi, .int .i64 x.u.lo, .int .i64 x.u.hi]) := F1.out.below hb F1.out.lt
    have FB : Hid (Below w.heap.size w v_16) := FB.out.trans (hb.mono FB.out.size)
    clear hb
    try dsimp only
    refine hK.out _ _ (by (try dsimp only); first | exact ⟨F0.out, F1.out⟩ | go_keep) (fun hHeld => ?_)
    clear hK K
    try simp only [Act.put, List.getElem_toArray, List.getElem_cons_succ, List.getElem_cons_zero, List.setIfInBounds_toArray, List.set_cons_zero, List.set_cons_succ]
    refine tkz 14 rfl ?_
    refine tkz 15 rfl ?_
    refine tkz 16 rfl ?_
    refine wpAnyH_done (by kernel_rfl) ?_ _
    go_wp2_with fail
    go_ret
    exact ⟨by simp, FB.out⟩
  have d3 : decide (p < q) = true := decide_eq_true c3
  have hsafe : Hs.safe h x p q = true := safe_true k c1 c2 c3
  clear k c1 c2 c3
  go_upto_region 5 with (first | (refine load_blk 25 _ Try.underlying25 (by kernel_rfl) F0.out rfl rfl rfl ?_) | (refine load_blk 29 _ Try.underlying29 (by kernel_rfl) F1.out rfl rfl rfl ?_) | (go_at_call 10; refine (implSpansFault_any h x _).mono ?_; rintro e w3 ⟨rfl, hb⟩; have F0 : Hid (Blk w3 b1 [.int .i64 h.fl, .int .i64 h.gp, .int .i64 h.ln, .int .i64 h.rf, .int .i64 h.sp, .int .i64 h.pu, .int .i64 h.br, .int .i64 h.dr, .int .i64 h.lv, .int .i64 h.dO, .int .i64 h.ld, .int .i64 h.qu]) := F0.out.below hb F0.out.lt; have F1 : Hid (Blk w3 b2 [.int .i64 x.l.lo, .int .i64 x.l.hi, .int .i64 x.u.lo, .int .i64 x.u.hi]) := F1.out.below hb F1.out.lt; have FB : Hid (Below w.heap.size w w3) := FB.out.trans (hb.mono FB.out.size); clear hb; have x0_ := F0.out.c 0 _ rfl))
  clear x0_
  have F0 : Hid (Blk w3.drew b1 [.int .i64 h.fl, .int .i64 h.gp, .int .i64 h.ln, .int .i64 h.rf, .int .i64 h.sp, .int .i64 h.pu, .int .i64 h.br, .int .i64 h.dr, .int .i64 h.lv, .int .i64 h.dO, .int .i64 h.ld, .int .i64 h.qu]) := F0.out.below (Below.refl _ _).drew F0.out.lt
  have F1 : Hid (Blk w3.drew b2 [.int .i64 x.l.lo, .int .i64 x.l.hi, .int .i64 x.u.lo, .int .i64 x.u.hi]) := F1.out.below (Below.refl _ _).drew F1.out.lt
  have FB : Hid (Below w.heap.size w w3.drew) := FB.out.drew
  refine wp_region_held_drew (S := (fun w'' => Blk w'' b1 ([.int .i64 h.fl, .int .i64 h.gp, .int .i64 h.ln, .int .i64 h.rf, .int .i64 h.sp, .int .i64 h.pu, .int .i64 h.br, .int .i64 h.dr, .int .i64 h.lv, .int .i64 h.dO, .int .i64 h.ld, .int .i64 h.qu]) ∧ Blk w'' b2 ([.int .i64 x.l.lo, .int .i64 x.l.hi, .int .i64 x.u.lo, .int .i64 x.u.hi]))) (by kernel_rfl) (by (try dsimp only); first | exact ⟨F0.out, F1.out⟩ | go_keep) (fun hHeld => ?_)
  obtain ⟨v_17, hw1⟩ : ∃ v_17, v_17 = w3.drew := ⟨_, rfl⟩
  have F0 : Hid (Blk v_17 b1 [.int .i64 h.fl, .int .i64 h.gp, .int .i64 h.ln, .int .i64 h.rf, .int .i64 h.sp, .int .i64 h.pu, .int .i64 h.br, .int .i64 h.dr, .int .i64 h.lv, .int .i64 h.dO, .int .i64 h.ld, .int .i64 h.qu]) := by rw [hw1]; exact F0.out
  have F1 : Hid (Blk v_17 b2 [.int .i64 x.l.lo, .int .i64 x.l.hi, .int .i64 x.u.lo, .int .i64 x.u.hi]) := by rw [hw1]; exact F1.out
  have FB : Hid (Below w.heap.size w v_17) := by rw [hw1]; exact FB.out
  rw [← hw1] at hHeld ⊢
  clear hw1
  refine tkz 0 rfl ?_ (hy := Or.inl ⟨by kernel_rfl, fun wx hSw => exec_load_blk 25 _ Try.underlying25 (by kernel_rfl) rfl rfl hSw.1⟩)
  refine tkz 1 rfl ?_ (hy := Or.inl ⟨by kernel_rfl, fun wx hSw => exec_load_blk 29 _ Try.underlying29 (by kernel_rfl) rfl rfl hSw.2⟩)
  refine tkz 2 rfl ?_
  refine tkz 3 rfl ?_
  refine tkz 5 rfl ?_
  refine wpAnyH_ready (rs := [4]) (by kernel_rfl) (by simp) ?_
  refine (AllReadyH.cons rfl (fun K hK => ?_) AllReadyH.nil)
  go_simp
  refine ((implSafeSpans_any h x p q _).mono (fun _ _ z => hsafe ▸ z)).mono ?_
  rintro e v_18 ⟨rfl, hb⟩
  have F0 : Hid (Blk v_18 b1 [.int .i64 h.fl, .int .i64 h.gp, .int .i64 h.ln, .int .i64 h.rf, .int .i64 h.sp, .int .i64 h.pu, .int .i64 h.br, .int .i64 h.dr, .int .i64 h.lv, .int .i64 h.dO, .int .i64 h.ld, .int .i64 h.qu]) := F0.out.below hb F0.out.lt
  have F1 : Hid (Blk v_18 b2 [.int .i64 x.l.lo, .int .i64 x.l.hi, .int .i64 x.u.lo, .int .i64 x.u.hi]) := F1.out.below hb F1.out.lt
  have FB : Hid (Below w.heap.size w v_18) := FB.out.trans (hb.mono FB.out.size)
  clear hb
  try dsimp only
  refine hK.out _ _ (by (try dsimp only); first | exact ⟨F0.out, F1.out⟩ | go_keep) (fun hHeld => ?_)
  clear hK K
  try simp only [Act.put, List.getElem_toArray, List.getElem_cons_succ, List.getElem_cons_zero, List.setIfInBounds_toArray, List.set_cons_zero, List.set_cons_succ]
  refine tkz 6 rfl ?_
  refine tkz 7 rfl ?_
  refine tkz 8 rfl ?_ (hy := Or.inl ⟨by kernel_rfl, fun wx hSw => exec_load_blk 25 _ Try.underlying25 (by kernel_rfl) rfl rfl hSw.1⟩)
  refine tkz 9 rfl ?_ (hy := Or.inl ⟨by kernel_rfl, fun wx hSw => exec_load_blk 29 _ Try.underlying29 (by kernel_rfl) rfl rfl hSw.2⟩)
  refine tkz 11 rfl ?_ (hy := Or.inl ⟨by kernel_rfl, fun wx hSw => exec_load_blk 25 _ Try.underlying25 (by kernel_rfl) rfl rfl hSw.1⟩)
  refine tkz 12 rfl ?_ (hy := Or.inl ⟨by kernel_rfl, fun wx hSw => exec_load_blk 29 _ Try.underlying29 (by kernel_rfl) rfl rfl hSw.2⟩)
  refine wpAnyH_ready (rs := [10]) (by kernel_rfl) (by simp) ?_
  refine (AllReadyH.cons rfl (fun K hK => ?_) AllReadyH.nil)
  go_simp
  refine (implSpansFault_any h x _).mono ?_
  rintro e v_19 ⟨rfl, hb⟩
  have F0 : Hid (Blk v_19 b1 [.int .i64 h.fl, .int .i64 h.gp, .int .i64 h.ln, .int .i64 h.rf, .int .i64 h.sp, .int .i64 h.pu, .int .i64 h.br, .int .i64 h.dr, .int .i64 h.lv, .int .i64 h.dO, .int .i64 h.ld, .int .i64 h.qu]) := F0.out.below hb F0.out.lt
  have F1 : Hid (Blk v_19 b2 [.int .i64 x.l.lo, .int .i64 x.l.hi, .int .i64 x.u.lo, .int .i64 x.u.hi]) := F1.out.below hb F1.out.lt
  have FB : Hid (Below w.heap.size w v_19) := FB.out.trans (hb.mono FB.out.size)
  clear hb
  try dsimp only
  refine hK.out _ _ (by (try dsimp only); first | exact ⟨F0.out, F1.out⟩ | go_keep) (fun hHeld => ?_)
  clear hK K
  try simp only [Act.put, List.getElem_toArray, List.getElem_cons_succ, List.getElem_cons_zero, List.setIfInBounds_toArray, List.set_cons_zero, List.set_cons_succ]
  refine wpAnyH_ready (rs := [13]) (by kernel_rfl) (by simp) ?_
  refine (AllReadyH.cons rfl (fun K hK => ?_) AllReadyH.nil)
  go_simp
  refine (specSpansFault_any h x _).mono ?_
  rintro e v_20 ⟨rfl, hb⟩
  have F0 : Hid (Blk v_20 b1 [.int .i64 h.fl, .int .i64 h.gp, .int .i64 h.ln, .int .i64 h.rf, .int .i64 h.sp, .int .i64 h.pu, .int .i64 h.br, .int .i64 h.dr, .int .i64 h.lv, .int .i64 h.dO, .int .i64 h.ld, .int .i64 h.qu]) := F0.out.below hb F0.out.lt
  have F1 : Hid (Blk v_20 b2 [.int .i64 x.l.lo, .int .i64 x.l.hi, .int .i64 x.u.lo, .int .i64 x.u.hi]) := F1.out.below hb F1.out.lt
  have FB : Hid (Below w.heap.size w v_20) := FB.out.trans (hb.mono FB.out.size)
  clear hb
  try dsimp only
  refine hK.out _ _ (by (try dsimp only); first | exact ⟨F0.out, F1.out⟩ | go_keep) (fun hHeld => ?_)
  clear hK K
  try simp only [Act.put, List.getElem_toArray, List.getElem_cons_succ, List.getElem_cons_zero, List.setIfInBounds_toArray, List.set_cons_zero, List.set_cons_succ]
  refine tkz 14 rfl ?_
  refine tkz 15 rfl ?_
  refine tkz 16 rfl ?_
  refine wpAnyH_done (by kernel_rfl) ?_ _
  go_wp2_with fail
  go_ret
  exact ⟨by simp, FB.out⟩
end Go.Proofs.Ytpfihpplpefikaa
