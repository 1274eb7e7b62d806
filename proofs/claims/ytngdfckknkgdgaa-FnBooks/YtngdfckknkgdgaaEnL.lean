/-
  Books: what went in less what came out and was lost is what a car has more.
-/
import Derived.Test.YtngdfckknkgdgaaEnM
import Derived.Test.YtngdfckknkgdgaaEnF
import Derived.Test.YtngdfckknkgdgaaEnJ
import Derived.Test.YtngdfckknkgdgaaEnR
import Derived.Test.YtngdfckknkgdgaaDry
import Derived.Test.YtngdfckknkgdgaaAt
namespace Go.Proofs.Ytngdfckknkgdgaa
open Go.RowKit Pl
set_option linter.unusedSimpArgs false
set_option linter.unusedVariables false

set_option maxRecDepth 20000 in
set_option maxHeartbeats 32000000 in
theorem books_walk (a0 : Option Addr) (len0 cap0 : Nat) (w : World) (hc : CodeIn w w.heap.size a0 len0) (hbig : len0 ≤ 1048576) (hz : a0 = none → len0 = 0 ∧ cap0 = 0) :
    Calls Try.prog 9 #[.slice a0 len0 cap0] w fun e w' => e = .returned (.bool true) ∧ Below w.heap.size w w' := by
  have HC : Hid (CodeIn w w.heap.size a0 len0) := hc
  have HZ : Hid (a0 = none → len0 = 0 ∧ cap0 = 0) := hz
  clear hc hz
  go_enter Try.func9, Try.ntmps9
  go_upto_region 4 with (first | (go_at_call 27; refine (lwBig_no _ _ _ hbig _).mono ?_; rintro e w' ⟨rfl, hw⟩; obtain rfl := hw.symm; clear hw) | (go_at_call 28; refine (DrawBookRun_any a0 len0 cap0 _ HC.out hbig HZ.out).mono ?_; rintro e w1 ⟨h, c, f, r, t, rfl, hb⟩; have FB : Hid (Below w.heap.size w w1) := hb; clear hb))
  clear HC HZ hbig
  obtain ⟨b0, hb0⟩ : ∃ b0, b0 = w1.heap.size := ⟨_, rfl⟩
  obtain ⟨b1, hb1⟩ : ∃ b1, b1 = b0 + 1 := ⟨_, rfl⟩
  obtain ⟨w2, hw2⟩ : ∃ w2, w2 = (w1.alloc (.cells #[.int .i64 h.fl, .int .i64 h.gp, .int .i64 h.ln, .int .i64 h.rf, .int .i64 h.sp, .int .i64 h.pu, .int .i64 h.br, .int .i64 h.dr, .int .i64 h.lv, .int .i64 h.dO, .int .i64 h.ld, .int .i64 h.qu] 27)).alloc (.cells #[.int .i64 c.pos, .int .i64 c.vel, .int .i64 c.door] 34) := ⟨_, rfl⟩
  have F0 : Hid (Blk w2 b0 [.int .i64 h.fl, .int .i64 h.gp, .int .i64 h.ln, .int .i64 h.rf, .int .i64 h.sp, .int .i64 h.pu, .int .i64 h.br, .int .i64 h.dr, .int .i64 h.lv, .int .i64 h.dO, .int .i64 h.ld, .int .i64 h.qu]) := by rw [hw2]; exact (Blk.at_ w1 #[.int .i64 h.fl, .int .i64 h.gp, .int .i64 h.ln, .int .i64 h.rf, .int .i64 h.sp, .int .i64 h.pu, .int .i64 h.br, .int .i64 h.dr, .int .i64 h.lv, .int .i64 h.dO, .int .i64 h.ld, .int .i64 h.qu] _ _ hb0).alloc _
  have F1 : Hid (Blk w2 b1 [.int .i64 c.pos, .int .i64 c.vel, .int .i64 c.door]) := by rw [hw2]; exact Blk.at_ _ #[.int .i64 c.pos, .int .i64 c.vel, .int .i64 c.door] _ _ (by simp; omega)
  have FB : Hid (Below w.heap.size w w2) := by rw [hw2]; exact (FB.out.alloc FB.out.size _).alloc (by have := FB.out.size; simp; omega) _
  have l01 : b0 < b1 := by omega
  (try simp only [Act.put])
  rw [← hb0, ← hb1, ← hw2]
  clear hb0 hb1 hw2
  obtain ⟨R, hR⟩ : ∃ R, Hs.bkV h c f r t = R := ⟨_, rfl⟩
  have C1 : ∀ W, Calls Try.prog 26 #[.agg #[.int .i64 h.fl, .int .i64 h.gp, .int .i64 h.ln, .int .i64 h.rf, .int .i64 h.sp, .int .i64 h.pu, .int .i64 h.br, .int .i64 h.dr, .int .i64 h.lv, .int .i64 h.dO, .int .i64 h.ld, .int .i64 h.qu], .agg #[.int .i64 c.pos, .int .i64 c.vel, .int .i64 c.door], .int .i64 f, .int .i64 r, .int .i64 t] W (isBk W R) := fun W => by have q := implBookRun_any h c f r t W; rw [hR] at q; exact q
  have C2 : ∀ W, Calls Try.prog 25 #[.agg #[.int .i64 h.fl, .int .i64 h.gp, .int .i64 h.ln, .int .i64 h.rf, .int .i64 h.sp, .int .i64 h.pu, .int .i64 h.br, .int .i64 h.dr, .int .i64 h.lv, .int .i64 h.dO, .int .i64 h.ld, .int .i64 h.qu], .agg #[.int .i64 c.pos, .int .i64 c.vel, .int .i64 c.door], .int .i64 f, .int .i64 r, .int .i64 t] W (isBk W R) := fun W => by have q := specBookRun_any h c f r t W; rw [hR] at q; exact q
  go_upto_region 5 with (first | (refine load_blk 27 _ Try.underlying27 (by kernel_rfl) F0.out rfl rfl rfl ?_) | (refine load_blk 34 _ Try.underlying34 (by kernel_rfl) F1.out rfl rfl rfl ?_) | (go_at_call 26; refine (C1 _).mono ?_; rintro e w3 ⟨rfl, hb⟩; have F0 : Hid (Blk w3 b0 [.int .i64 h.fl, .int .i64 h.gp, .int .i64 h.ln, .int .i64 h.rf, .int .i64 h.sp, .int .i64 h.pu, .int .i64 h.br, .int .i64 h.dr, .int .i64 h.lv, .int .i64 h.dO, .int .i64 h.ld, .int .i64 h.qu]) := F0.out.below hb F0.out.lt; have F1 : Hid (Blk w3 b1 [.int .i64 c.pos, .int .i64 c.vel, .int .i64 c.door]) := F1.out.below hb F1.out.lt; have FB : Hid (Below w.heap.size w w3) := FB.out.trans (hb.mono FB.out.size); clear hb) | (refine store_new [.int .i64 R.k, .int .i64 R.b.i, .int .i64 R.b.o, .int .i64 R.b.l, .int .i64 R.c.pos, .int .i64 R.c.vel, .int .i64 R.c.door] 40 _ _ (by kernel_rfl) (by kernel_rfl) (by kernel_rfl) rfl rfl rfl rfl ?_))
  have FB0 := FB
  obtain ⟨b2, hbb⟩ : ∃ b2, b2 = w3.heap.size := ⟨_, rfl⟩
  obtain ⟨w4, hw2⟩ : ∃ w4, w4 = w3.alloc (.cells #[.int .i64 R.k, .int .i64 R.b.i, .int .i64 R.b.o, .int .i64 R.b.l, .int .i64 R.c.pos, .int .i64 R.c.vel, .int .i64 R.c.door] 40) := ⟨_, rfl⟩
  have nb2b0 : b0 < b2 := by rw [hbb]; exact F0.out.lt
  have nb2b1 : b1 < b2 := by rw [hbb]; exact F1.out.lt
  have F0 : Hid (Blk w4 b0 [.int .i64 h.fl, .int .i64 h.gp, .int .i64 h.ln, .int .i64 h.rf, .int .i64 h.sp, .int .i64 h.pu, .int .i64 h.br, .int .i64 h.dr, .int .i64 h.lv, .int .i64 h.dO, .int .i64 h.ld, .int .i64 h.qu]) := by rw [hw2]; exact F0.out.alloc _
  have F1 : Hid (Blk w4 b1 [.int .i64 c.pos, .int .i64 c.vel, .int .i64 c.door]) := by rw [hw2]; exact F1.out.alloc _
  have F2 : Hid (Blk w4 b2 [.int .i64 R.k, .int .i64 R.b.i, .int .i64 R.b.o, .int .i64 R.b.l, .int .i64 R.c.pos, .int .i64 R.c.vel, .int .i64 R.c.door]) := by rw [hw2]; exact Blk.at_ w3 #[.int .i64 R.k, .int .i64 R.b.i, .int .i64 R.b.o, .int .i64 R.b.l, .int .i64 R.c.pos, .int .i64 R.c.vel, .int .i64 R.c.door] _ _ hbb
  have FB : Hid (Below w.heap.size w w4) := by rw [hw2]; exact FB.out.alloc FB.out.size _
  have leb2 : w.heap.size ≤ b2 := by rw [hbb]; exact FB0.out.size
  (try simp only [Act.put])
  rw [← hw2, ← hbb]
  clear hbb hw2 FB0
  have z0 := F2.out.c 0 _ rfl
  by_cases hk : R.k = 0
  case neg =>
    have hn : (R.k != 0) = true := by simpa using hk
    have hee : (R.k == R.k) = true := by simp
    have fb := fieldB0
    clear hk hR
    go_upto_region 6 with fail
    have F0 : Hid (Blk w4.drew b0 [.int .i64 h.fl, .int .i64 h.gp, .int .i64 h.ln, .int .i64 h.rf, .int .i64 h.sp, .int .i64 h.pu, .int .i64 h.br, .int .i64 h.dr, .int .i64 h.lv, .int .i64 h.dO, .int .i64 h.ld, .int .i64 h.qu]) := F0.out.below (Below.refl _ _).drew F0.out.lt
    have F1 : Hid (Blk w4.drew b1 [.int .i64 c.pos, .int .i64 c.vel, .int .i64 c.door]) := F1.out.below (Below.refl _ _).drew F1.out.lt
    have F2 : Hid (Blk w4.drew b2 [.int .i64 R.k, .int .i64 R.b.i, .int .i64 R.b.o, .int .i64 R.b.l, .int .i64 R.c.pos, .int .i64 R.c.vel, .int .i64 R.c.door]) := F2.out.below (Below.refl _ _).drew F2.out.lt
    have FB : Hid (Below w.heap.size w w4.drew) := FB.out.drew
    refine wp_region_held_drew (S := (fun w'' => Blk w'' b0 ([.int .i64 h.fl, .int .i64 h.gp, .int .i64 h.ln, .int .i64 h.rf, .int .i64 h.sp, .int .i64 h.pu, .int .i64 h.br, .int .i64 h.dr, .int .i64 h.lv, .int .i64 h.dO, .int .i64 h.ld, .int .i64 h.qu]) ∧ Blk w'' b1 ([.int .i64 c.pos, .int .i64 c.vel, .int .i64 c.door]) ∧ Blk w'' b2 ([.int .i64 R.k, .int .i64 R.b.i, .int .i64 R.b.o, .int .i64 R.b.l, .int .i64 R.c.pos, .int .i64 R.c.vel, .int .i64 R.c.door]))) (by kernel_rfl) (by (try dsimp only); first | exact ⟨F0.out, F1.out, F2.out⟩ | go_keep) (fun hHeld => ?_)
    obtain ⟨v_1, hw1⟩ : ∃ v_1, v_1 = w4.drew := ⟨_, rfl⟩
    have F0 : Hid (Blk v_1 b0 [.int .i64 h.fl, .int .i64 h.gp, .int .i64 h.ln, .int .i64 h.rf, .int .i64 h.sp, .int .i64 h.pu, .int .i64 h.br, .int .i64 h.dr, .int .i64 h.lv, .int .i64 h.dO, .int .i64 h.ld, .int .i64 h.qu]) := by rw [hw1]; exact F0.out
    have F1 : Hid (Blk v_1 b1 [.int .i64 c.pos, .int .i64 c.vel, .int .i64 c.door]) := by rw [hw1]; exact F1.out
    have F2 : Hid (Blk v_1 b2 [.int .i64 R.k, .int .i64 R.b.i, .int .i64 R.b.o, .int .i64 R.b.l, .int .i64 R.c.pos, .int .i64 R.c.vel, .int .i64 R.c.door]) := by rw [hw1]; exact F2.out
    have FB : Hid (Below w.heap.size w v_1) := by rw [hw1]; exact FB.out
    rw [← hw1] at hHeld ⊢
    clear hw1
    refine tkz 0 rfl ?_ (hy := Or.inl ⟨by kernel_rfl, fun wx hSw => exec_load_blk 27 _ Try.underlying27 (by kernel_rfl) rfl rfl hSw.1⟩)
    refine tkz 1 rfl ?_ (hy := Or.inl ⟨by kernel_rfl, fun wx hSw => exec_load_blk 34 _ Try.underlying34 (by kernel_rfl) rfl rfl hSw.2.1⟩)
    refine tkz 2 rfl ?_
    refine tkz 3 rfl ?_
    refine tkz 4 rfl ?_
    refine tkz 7 rfl ?_
    refine tkz 8 rfl ?_ (hy := Or.inl ⟨by kernel_rfl, by (intro wx hSw; have hq2_0 := hSw.2.2.c 0 _ rfl; (try dsimp only at hSw); go_simp <;> with_reducible rfl)⟩)
    refine wpAnyH_ready (rs := [5]) (by kernel_rfl) (by simp) ?_
    refine (AllReadyH.cons rfl (fun K hK => ?_) AllReadyH.nil)
    go_simp
    refine (C2 _).mono ?_
    rintro e v_2 ⟨rfl, hb⟩
    have F0 : Hid (Blk v_2 b0 [.int .i64 h.fl, .int .i64 h.gp, .int .i64 h.ln, .int .i64 h.rf, .int .i64 h.sp, .int .i64 h.pu, .int .i64 h.br, .int .i64 h.dr, .int .i64 h.lv, .int .i64 h.dO, .int .i64 h.ld, .int .i64 h.qu]) := F0.out.below hb F0.out.lt
    have F1 : Hid (Blk v_2 b1 [.int .i64 c.pos, .int .i64 c.vel, .int .i64 c.door]) := F1.out.below hb F1.out.lt
    have F2 : Hid (Blk v_2 b2 [.int .i64 R.k, .int .i64 R.b.i, .int .i64 R.b.o, .int .i64 R.b.l, .int .i64 R.c.pos, .int .i64 R.c.vel, .int .i64 R.c.door]) := F2.out.below hb F2.out.lt
    have FB : Hid (Below w.heap.size w v_2) := FB.out.trans (hb.mono FB.out.size)
    clear hb
    try dsimp only
    refine hK.out _ _ (by (try dsimp only); first | exact ⟨F0.out, F1.out, F2.out⟩ | go_keep) (fun hHeld => ?_)
    clear hK K
    try simp only [Act.put, List.getElem_toArray, List.getElem_cons_succ, List.getElem_cons_zero, List.setIfInBounds_toArray, List.set_cons_zero, List.set_cons_succ]
    refine tkz 6 rfl ?_
    refine tkz 9 rfl ?_
    refine tkz 10 rfl ?_
    refine wpAnyH_done (by kernel_rfl) ?_ _
    go_wp2
    go_ret
    exact ⟨by first | rfl | simp, FB.out⟩
  case pos =>
  obtain ⟨Rk, ⟨i, o, l⟩, g⟩ := R
  have hk2 : Rk = 0 := hk
  subst hk2
  have bk := bkV_ok hR
  have F2 : Hid (Blk w4 b2 [.int .i64 0, .int .i64 i, .int .i64 o, .int .i64 l, .int .i64 g.pos, .int .i64 g.vel, .int .i64 g.door]) := F2.out
  have z0 := F2.out.c 0 _ rfl
  clear hR C1 C2
  have cr := bk.ng.mov bk.r1 bk.r2
  have cq := bk.ng.rai bk.ok bk.r1 bk.r2
  have ca := bk.nc.en bk.ok bk.r1 bk.r2
  have cb := bk.ng.en bk.ok bk.r1 bk.r2
  have mb := mass_bd bk.r1 bk.r2
  have E1 : ∀ W, Calls Try.prog 20 #[.agg #[.int .i64 h.fl, .int .i64 h.gp, .int .i64 h.ln, .int .i64 h.rf, .int .i64 h.sp, .int .i64 h.pu, .int .i64 h.br, .int .i64 h.dr, .int .i64 h.lv, .int .i64 h.dO, .int .i64 h.ld, .int .i64 h.qu], .agg #[.int .i64 c.pos, .int .i64 c.vel, .int .i64 c.door], .int .i64 r] W fun e w' => e = .returned (.agg #[.int .i64 0, .int .i64 (enE h c r)]) ∧ Below W.heap.size W w' := fun W => by have q := implEnergyOf_any h c r W; rw [bk.a, if_pos rfl] at q; exact q
  have E2 : ∀ W, Calls Try.prog 20 #[.agg #[.int .i64 h.fl, .int .i64 h.gp, .int .i64 h.ln, .int .i64 h.rf, .int .i64 h.sp, .int .i64 h.pu, .int .i64 h.br, .int .i64 h.dr, .int .i64 h.lv, .int .i64 h.dO, .int .i64 h.ld, .int .i64 h.qu], .agg #[.int .i64 g.pos, .int .i64 g.vel, .int .i64 g.door], .int .i64 r] W fun e w' => e = .returned (.agg #[.int .i64 0, .int .i64 (enE h g r)]) ∧ Below W.heap.size W w' := fun W => by have q := implEnergyOf_any h g r W; rw [bk.b, if_pos rfl] at q; exact q
  have E3 : ∀ W, Calls Try.prog 16 #[.agg #[.int .i64 h.fl, .int .i64 h.gp, .int .i64 h.ln, .int .i64 h.rf, .int .i64 h.sp, .int .i64 h.pu, .int .i64 h.br, .int .i64 h.dr, .int .i64 h.lv, .int .i64 h.dO, .int .i64 h.ld, .int .i64 h.qu], .agg #[.int .i64 g.pos, .int .i64 g.vel, .int .i64 g.door], .int .i64 r] W fun e w' => e = .returned (.agg #[.int .i64 0, .int .i64 (movE g r)]) ∧ Below W.heap.size W w' := fun W => by have q := implMovingOf_any h g r W; rw [bk.b, if_pos rfl] at q; exact q
  have E4 : ∀ W, Calls Try.prog 18 #[.agg #[.int .i64 h.fl, .int .i64 h.gp, .int .i64 h.ln, .int .i64 h.rf, .int .i64 h.sp, .int .i64 h.pu, .int .i64 h.br, .int .i64 h.dr, .int .i64 h.lv, .int .i64 h.dO, .int .i64 h.ld, .int .i64 h.qu], .agg #[.int .i64 g.pos, .int .i64 g.vel, .int .i64 g.door], .int .i64 r] W fun e w' => e = .returned (.agg #[.int .i64 0, .int .i64 (raiE h g r)]) ∧ Below W.heap.size W w' := fun W => by have q := implRaisedOf_any h g r W; rw [bk.b, if_pos rfl] at q; exact q
  have E5 : ∀ W, Calls Try.prog 12 #[.agg #[.int .i64 h.fl, .int .i64 h.gp, .int .i64 h.ln, .int .i64 h.rf, .int .i64 h.sp, .int .i64 h.pu, .int .i64 h.br, .int .i64 h.dr, .int .i64 h.lv, .int .i64 h.dO, .int .i64 h.ld, .int .i64 h.qu], .int .i64 r] W fun e w' => e = .returned (.agg #[.int .i64 0, .int .i64 (massN r)]) ∧ Below W.heap.size W w' := fun W => by have q := implMassOf_any h r W; unfold Hs.massV at q; rw [bk.m, if_pos rfl] at q; exact q
  have es : enE h g r = movE g r + raiE h g r := rfl
  have bs := bk.s
  have i1 := bk.i1; have i2 := bk.i2; have o1 := bk.o1; have o2 := bk.o2; have l1 := bk.l1; have l2 := bk.l2
  clear bk
  obtain ⟨ea, hea⟩ : ∃ x, enE h c r = x := ⟨_, rfl⟩
  obtain ⟨eb, heb⟩ : ∃ x, enE h g r = x := ⟨_, rfl⟩
  obtain ⟨mv, hmv⟩ : ∃ x, movE g r = x := ⟨_, rfl⟩
  obtain ⟨ra, hra⟩ : ∃ x, raiE h g r = x := ⟨_, rfl⟩
  obtain ⟨mm, hmm⟩ : ∃ x, massN r = x := ⟨_, rfl⟩
  rw [hea] at E1 ca bs
  rw [heb] at E2 cb bs es
  rw [hmv] at E3 es
  rw [hra] at E4 es
  rw [hmm] at E5 mb
  have cr2 : -575000000 ≤ mv ∧ mv ≤ 575000000 := by rw [← hmv]; exact cr.2
  have cq2 : -414000000000 ≤ ra ∧ ra ≤ 414000000000 := by rw [← hra]; exact cq.2
  clear cr cq hea heb hmv hra hmm
  have q1 : IntKind.i64.wrap (i - o) = i - o := IntWalk.i64_in _ (by omega)
  have q2 : IntKind.i64.wrap (i - o - l) = i - o - l := IntWalk.i64_in _ (by omega)
  have q3 : IntKind.i64.wrap (eb - ea) = eb - ea := IntWalk.i64_in _ (by omega)
  have q4 : IntKind.i64.wrap (mv + ra) = mv + ra := IntWalk.i64_in _ (by omega)
  have p1 : (i - o - l == eb - ea) = true := by simpa using bs
  have p2 : (eb == mv + ra) = true := by simpa using es
  have p3 : decide (i ≥ 0) = true := decide_eq_true i1
  have p4 : decide (o ≥ 0) = true := decide_eq_true o1
  have p5 : decide (l ≥ 0) = true := decide_eq_true l1
  have p6 : decide (mm ≥ 800) = true := decide_eq_true mb.1
  have fr := fieldR1
  clear bs es i1 i2 o1 o2 l1 l2 ca cb cr2 cq2 mb
  go_upto_region 8 with (first | (refine load_blk 27 _ Try.underlying27 (by kernel_rfl) F0.out rfl rfl rfl ?_) | (refine load_blk 34 _ Try.underlying34 (by kernel_rfl) F1.out rfl rfl rfl ?_) | (go_at_call 20; refine (E1 _).mono ?_; rintro e w5 ⟨rfl, hb⟩; have F0 : Hid (Blk w5 b0 [.int .i64 h.fl, .int .i64 h.gp, .int .i64 h.ln, .int .i64 h.rf, .int .i64 h.sp, .int .i64 h.pu, .int .i64 h.br, .int .i64 h.dr, .int .i64 h.lv, .int .i64 h.dO, .int .i64 h.ld, .int .i64 h.qu]) := F0.out.below hb F0.out.lt; have F1 : Hid (Blk w5 b1 [.int .i64 c.pos, .int .i64 c.vel, .int .i64 c.door]) := F1.out.below hb F1.out.lt; have F2 : Hid (Blk w5 b2 [.int .i64 0, .int .i64 i, .int .i64 o, .int .i64 l, .int .i64 g.pos, .int .i64 g.vel, .int .i64 g.door]) := F2.out.below hb F2.out.lt; have FB : Hid (Below w.heap.size w w5) := FB.out.trans (hb.mono FB.out.size); clear hb) | (refine store_new [.int .i64 0, .int .i64 ea] 25 _ _ (by kernel_rfl) (by kernel_rfl) (by kernel_rfl) rfl rfl rfl rfl ?_))
  have FB0 := FB
  obtain ⟨b3, hbb⟩ : ∃ b3, b3 = w5.heap.size := ⟨_, rfl⟩
  obtain ⟨w6, hw2⟩ : ∃ w6, w6 = w5.alloc (.cells #[.int .i64 0, .int .i64 ea] 25) := ⟨_, rfl⟩
  have nb3b0 : b0 < b3 := by rw [hbb]; exact F0.out.lt
  have nb3b1 : b1 < b3 := by rw [hbb]; exact F1.out.lt
  have nb3b2 : b2 < b3 := by rw [hbb]; exact F2.out.lt
  have F0 : Hid (Blk w6 b0 [.int .i64 h.fl, .int .i64 h.gp, .int .i64 h.ln, .int .i64 h.rf, .int .i64 h.sp, .int .i64 h.pu, .int .i64 h.br, .int .i64 h.dr, .int .i64 h.lv, .int .i64 h.dO, .int .i64 h.ld, .int .i64 h.qu]) := by rw [hw2]; exact F0.out.alloc _
  have F1 : Hid (Blk w6 b1 [.int .i64 c.pos, .int .i64 c.vel, .int .i64 c.door]) := by rw [hw2]; exact F1.out.alloc _
  have F2 : Hid (Blk w6 b2 [.int .i64 0, .int .i64 i, .int .i64 o, .int .i64 l, .int .i64 g.pos, .int .i64 g.vel, .int .i64 g.door]) := by rw [hw2]; exact F2.out.alloc _
  have F3 : Hid (Blk w6 b3 [.int .i64 0, .int .i64 ea]) := by rw [hw2]; exact Blk.at_ w5 #[.int .i64 0, .int .i64 ea] _ _ hbb
  have FB : Hid (Below w.heap.size w w6) := by rw [hw2]; exact FB.out.alloc FB.out.size _
  have leb3 : w.heap.size ≤ b3 := by rw [hbb]; exact FB0.out.size
  (try simp only [Act.put])
  rw [← hw2, ← hbb]
  clear hbb hw2 FB0
  go_upto_region 9 with (first | (refine load_blk 27 _ Try.underlying27 (by kernel_rfl) F0.out rfl rfl rfl ?_) | (refine load_mid 34 _ 4 [.int .i64 g.pos, .int .i64 g.vel, .int .i64 g.door] Try.underlying34 (by kernel_rfl) F2.out rfl rfl rfl rfl ?_) | (go_at_call 20; refine (E2 _).mono ?_; rintro e w7 ⟨rfl, hb⟩; have F0 : Hid (Blk w7 b0 [.int .i64 h.fl, .int .i64 h.gp, .int .i64 h.ln, .int .i64 h.rf, .int .i64 h.sp, .int .i64 h.pu, .int .i64 h.br, .int .i64 h.dr, .int .i64 h.lv, .int .i64 h.dO, .int .i64 h.ld, .int .i64 h.qu]) := F0.out.below hb F0.out.lt; have F1 : Hid (Blk w7 b1 [.int .i64 c.pos, .int .i64 c.vel, .int .i64 c.door]) := F1.out.below hb F1.out.lt; have F2 : Hid (Blk w7 b2 [.int .i64 0, .int .i64 i, .int .i64 o, .int .i64 l, .int .i64 g.pos, .int .i64 g.vel, .int .i64 g.door]) := F2.out.below hb F2.out.lt; have F3 : Hid (Blk w7 b3 [.int .i64 0, .int .i64 ea]) := F3.out.below hb F3.out.lt; have FB : Hid (Below w.heap.size w w7) := FB.out.trans (hb.mono FB.out.size); clear hb) | (refine store_new [.int .i64 0, .int .i64 eb] 25 _ _ (by kernel_rfl) (by kernel_rfl) (by kernel_rfl) rfl rfl rfl rfl ?_))
  have FB0 := FB
  obtain ⟨b4, hbb⟩ : ∃ b4, b4 = w7.heap.size := ⟨_, rfl⟩
  obtain ⟨w8, hw2⟩ : ∃ w8, w8 = w7.alloc (.cells #[.int .i64 0, .int .i64 eb] 25) := ⟨_, rfl⟩
  have nb4b0 : b0 < b4 := by rw [hbb]; exact F0.out.lt
  have nb4b1 : b1 < b4 := by rw [hbb]; exact F1.out.lt
  have nb4b2 : b2 < b4 := by rw [hbb]; exact F2.out.lt
  have nb4b3 : b3 < b4 := by rw [hbb]; exact F3.out.lt
  have F0 : Hid (Blk w8 b0 [.int .i64 h.fl, .int .i64 h.gp, .int .i64 h.ln, .int .i64 h.rf, .int .i64 h.sp, .int .i64 h.pu, .int .i64 h.br, .int .i64 h.dr, .int .i64 h.lv, .int .i64 h.dO, .int .i64 h.ld, .int .i64 h.qu]) := by rw [hw2]; exact F0.out.alloc _
  have F1 : Hid (Blk w8 b1 [.int .i64 c.pos, .int .i64 c.vel, .int .i64 c.door]) := by rw [hw2]; exact F1.out.alloc _
  have F2 : Hid (Blk w8 b2 [.int .i64 0, .int .i64 i, .int .i64 o, .int .i64 l, .int .i64 g.pos, .int .i64 g.vel, .int .i64 g.door]) := by rw [hw2]; exact F2.out.alloc _
  have F3 : Hid (Blk w8 b3 [.int .i64 0, .int .i64 ea]) := by rw [hw2]; exact F3.out.alloc _
  have F4 : Hid (Blk w8 b4 [.int .i64 0, .int .i64 eb]) := by rw [hw2]; exact Blk.at_ w7 #[.int .i64 0, .int .i64 eb] _ _ hbb
  have FB : Hid (Below w.heap.size w w8) := by rw [hw2]; exact FB.out.alloc FB.out.size _
  have leb4 : w.heap.size ≤ b4 := by rw [hbb]; exact FB0.out.size
  (try simp only [Act.put])
  rw [← hw2, ← hbb]
  clear hbb hw2 FB0
  simp only [List.append_eq, List.cons_append, List.nil_append]
  have F0 : Hid (Blk w8.drew b0 [.int .i64 h.fl, .int .i64 h.gp, .int .i64 h.ln, .int .i64 h.rf, .int .i64 h.sp, .int .i64 h.pu, .int .i64 h.br, .int .i64 h.dr, .int .i64 h.lv, .int .i64 h.dO, .int .i64 h.ld, .int .i64 h.qu]) := F0.out.below (Below.refl _ _).drew F0.out.lt
  have F1 : Hid (Blk w8.drew b1 [.int .i64 c.pos, .int .i64 c.vel, .int .i64 c.door]) := F1.out.below (Below.refl _ _).drew F1.out.lt
  have F2 : Hid (Blk w8.drew b2 [.int .i64 0, .int .i64 i, .int .i64 o, .int .i64 l, .int .i64 g.pos, .int .i64 g.vel, .int .i64 g.door]) := F2.out.below (Below.refl _ _).drew F2.out.lt
  have F3 : Hid (Blk w8.drew b3 [.int .i64 0, .int .i64 ea]) := F3.out.below (Below.refl _ _).drew F3.out.lt
  have F4 : Hid (Blk w8.drew b4 [.int .i64 0, .int .i64 eb]) := F4.out.below (Below.refl _ _).drew F4.out.lt
  have FB : Hid (Below w.heap.size w w8.drew) := FB.out.drew
  refine wp_region_held_drew (S := (fun w'' => Blk w'' b0 ([.int .i64 h.fl, .int .i64 h.gp, .int .i64 h.ln, .int .i64 h.rf, .int .i64 h.sp, .int .i64 h.pu, .int .i64 h.br, .int .i64 h.dr, .int .i64 h.lv, .int .i64 h.dO, .int .i64 h.ld, .int .i64 h.qu]) ∧ Blk w'' b2 ([.int .i64 0, .int .i64 i, .int .i64 o, .int .i64 l, .int .i64 g.pos, .int .i64 g.vel, .int .i64 g.door]) ∧ Blk w'' b3 ([.int .i64 0, .int .i64 ea]) ∧ Blk w'' b4 ([.int .i64 0, .int .i64 eb]))) (by kernel_rfl) (by (try dsimp only); first | exact ⟨F0.out, F2.out, F3.out, F4.out⟩ | go_keep) (fun hHeld => ?_)
  obtain ⟨v_3, hw1⟩ : ∃ v_3, v_3 = w8.drew := ⟨_, rfl⟩
  have F0 : Hid (Blk v_3 b0 [.int .i64 h.fl, .int .i64 h.gp, .int .i64 h.ln, .int .i64 h.rf, .int .i64 h.sp, .int .i64 h.pu, .int .i64 h.br, .int .i64 h.dr, .int .i64 h.lv, .int .i64 h.dO, .int .i64 h.ld, .int .i64 h.qu]) := by rw [hw1]; exact F0.out
  have F1 : Hid (Blk v_3 b1 [.int .i64 c.pos, .int .i64 c.vel, .int .i64 c.door]) := by rw [hw1]; exact F1.out
  have F2 : Hid (Blk v_3 b2 [.int .i64 0, .int .i64 i, .int .i64 o, .int .i64 l, .int .i64 g.pos, .int .i64 g.vel, .int .i64 g.door]) := by rw [hw1]; exact F2.out
  have F3 : Hid (Blk v_3 b3 [.int .i64 0, .int .i64 ea]) := by rw [hw1]; exact F3.out
  have F4 : Hid (Blk v_3 b4 [.int .i64 0, .int .i64 eb]) := by rw [hw1]; exact F4.out
  have FB : Hid (Below w.heap.size w v_3) := by rw [hw1]; exact FB.out
  rw [← hw1] at hHeld ⊢
  clear hw1
  refine tkz 0 rfl ?_
  refine tkz 1 rfl ?_ (hy := Or.inl ⟨by kernel_rfl, by (intro wx hSw; have hq2_0 := hSw.2.2.1.c 0 _ rfl; (try dsimp only at hSw); go_simp <;> with_reducible rfl)⟩)
  refine tkz 2 rfl ?_
  refine tkz 3 rfl ?_
  refine tkz 4 rfl ?_
  refine tkz 5 rfl ?_ (hy := Or.inl ⟨by kernel_rfl, by (intro wx hSw; have hq3_0 := hSw.2.2.2.c 0 _ rfl; (try dsimp only at hSw); go_simp <;> with_reducible rfl)⟩)
  refine tkz 6 rfl ?_
  refine tkz 7 rfl ?_
  refine tkz 8 rfl ?_
  refine tkz 9 rfl ?_
  refine tkz 10 rfl ?_ (hy := Or.inl ⟨by kernel_rfl, by (intro wx hSw; have hq1_1 := hSw.2.1.c 1 _ rfl; (try dsimp only at hSw); go_simp <;> with_reducible rfl)⟩)
  refine tkz 11 rfl ?_
  refine tkz 12 rfl ?_ (hy := Or.inl ⟨by kernel_rfl, by (intro wx hSw; have hq1_2 := hSw.2.1.c 2 _ rfl; (try dsimp only at hSw); go_simp <;> with_reducible rfl)⟩)
  refine tkz 13 rfl ?_
  refine tkz 14 rfl ?_
  refine tkz 15 rfl ?_ (hy := Or.inl ⟨by kernel_rfl, by (intro wx hSw; have hq1_3 := hSw.2.1.c 3 _ rfl; (try dsimp only at hSw); go_simp <;> with_reducible rfl)⟩)
  refine tkz 16 rfl ?_
  refine tkz 17 rfl ?_
  refine tkz 18 rfl ?_ (hy := Or.inl ⟨by kernel_rfl, by (intro wx hSw; have hq3_1 := hSw.2.2.2.c 1 _ rfl; (try dsimp only at hSw); go_simp <;> with_reducible rfl)⟩)
  refine tkz 19 rfl ?_
  refine tkz 20 rfl ?_ (hy := Or.inl ⟨by kernel_rfl, by (intro wx hSw; have hq2_1 := hSw.2.2.1.c 1 _ rfl; (try dsimp only at hSw); go_simp <;> with_reducible rfl)⟩)
  refine tkz 21 rfl ?_
  refine tkz 22 rfl ?_
  refine tkz 23 rfl ?_
  refine tkz 24 rfl ?_
  refine tkz 25 rfl ?_
  refine tkz 26 rfl ?_ (hy := Or.inl ⟨by kernel_rfl, by (intro wx hSw; have hq1_1 := hSw.2.1.c 1 _ rfl; (try dsimp only at hSw); go_simp <;> with_reducible rfl)⟩)
  refine tkz 27 rfl ?_
  refine tkz 28 rfl ?_
  refine tkz 29 rfl ?_
  refine tkz 30 rfl ?_
  refine tkz 31 rfl ?_ (hy := Or.inl ⟨by kernel_rfl, by (intro wx hSw; have hq1_2 := hSw.2.1.c 2 _ rfl; (try dsimp only at hSw); go_simp <;> with_reducible rfl)⟩)
  refine tkz 32 rfl ?_
  refine tkz 33 rfl ?_
  refine tkz 34 rfl ?_
  refine tkz 35 rfl ?_
  refine tkz 36 rfl ?_ (hy := Or.inl ⟨by kernel_rfl, by (intro wx hSw; have hq1_3 := hSw.2.1.c 3 _ rfl; (try dsimp only at hSw); go_simp <;> with_reducible rfl)⟩)
  refine tkz 37 rfl ?_
  refine tkz 38 rfl ?_
  refine tkz 39 rfl ?_
  refine tkz 40 rfl ?_ (hy := Or.inl ⟨by kernel_rfl, fun wx hSw => exec_load_blk 27 _ Try.underlying27 (by kernel_rfl) rfl rfl hSw.1⟩)
  refine tkz 41 rfl ?_
  refine tkz 42 rfl ?_ (hy := Or.inl ⟨by kernel_rfl, fun wx hSw => exec_load_mid 34 _ 4 [.int .i64 g.pos, .int .i64 g.vel, .int .i64 g.door] Try.underlying34 (by kernel_rfl) rfl rfl rfl hSw.2.1⟩)
  refine tkz 43 rfl ?_
  refine tkz 46 rfl ?_ (hy := Or.inl ⟨by kernel_rfl, fun wx hSw => exec_load_blk 27 _ Try.underlying27 (by kernel_rfl) rfl rfl hSw.1⟩)
  refine tkz 47 rfl ?_
  refine tkz 48 rfl ?_ (hy := Or.inl ⟨by kernel_rfl, fun wx hSw => exec_load_mid 34 _ 4 [.int .i64 g.pos, .int .i64 g.vel, .int .i64 g.door] Try.underlying34 (by kernel_rfl) rfl rfl rfl hSw.2.1⟩)
  refine tkz 49 rfl ?_
  refine tkz 52 rfl ?_ (hy := Or.inl ⟨by kernel_rfl, fun wx hSw => exec_load_blk 27 _ Try.underlying27 (by kernel_rfl) rfl rfl hSw.1⟩)
  refine tkz 53 rfl ?_
  refine tkz 54 rfl ?_ (hy := Or.inl ⟨by kernel_rfl, fun wx hSw => exec_load_mid 34 _ 4 [.int .i64 g.pos, .int .i64 g.vel, .int .i64 g.door] Try.underlying34 (by kernel_rfl) rfl rfl rfl hSw.2.1⟩)
  refine tkz 55 rfl ?_
  refine wpAnyH_ready (rs := [44]) (by kernel_rfl) (by simp) ?_
  refine (AllReadyH.cons rfl (fun K hK => ?_) AllReadyH.nil)
  go_simp
  refine (E2 _).mono ?_
  rintro e v_4 ⟨rfl, hb⟩
  have F0 : Hid (Blk v_4 b0 [.int .i64 h.fl, .int .i64 h.gp, .int .i64 h.ln, .int .i64 h.rf, .int .i64 h.sp, .int .i64 h.pu, .int .i64 h.br, .int .i64 h.dr, .int .i64 h.lv, .int .i64 h.dO, .int .i64 h.ld, .int .i64 h.qu]) := F0.out.below hb F0.out.lt
  have F1 : Hid (Blk v_4 b1 [.int .i64 c.pos, .int .i64 c.vel, .int .i64 c.door]) := F1.out.below hb F1.out.lt
  have F2 : Hid (Blk v_4 b2 [.int .i64 0, .int .i64 i, .int .i64 o, .int .i64 l, .int .i64 g.pos, .int .i64 g.vel, .int .i64 g.door]) := F2.out.below hb F2.out.lt
  have F3 : Hid (Blk v_4 b3 [.int .i64 0, .int .i64 ea]) := F3.out.below hb F3.out.lt
  have F4 : Hid (Blk v_4 b4 [.int .i64 0, .int .i64 eb]) := F4.out.below hb F4.out.lt
  have FB : Hid (Below w.heap.size w v_4) := FB.out.trans (hb.mono FB.out.size)
  clear hb
  try dsimp only
  refine hK.out _ _ (by (try dsimp only); first | exact ⟨F0.out, F2.out, F3.out, F4.out⟩ | go_keep) (fun hHeld => ?_)
  clear hK K
  try simp only [Act.put, List.getElem_toArray, List.getElem_cons_succ, List.getElem_cons_zero, List.setIfInBounds_toArray, List.set_cons_zero, List.set_cons_succ]
  refine tkz 45 rfl ?_
  refine wpAnyH_ready (rs := [50]) (by kernel_rfl) (by simp) ?_
  refine (AllReadyH.cons rfl (fun K hK => ?_) AllReadyH.nil)
  go_simp
  refine (E3 _).mono ?_
  rintro e v_5 ⟨rfl, hb⟩
  have F0 : Hid (Blk v_5 b0 [.int .i64 h.fl, .int .i64 h.gp, .int .i64 h.ln, .int .i64 h.rf, .int .i64 h.sp, .int .i64 h.pu, .int .i64 h.br, .int .i64 h.dr, .int .i64 h.lv, .int .i64 h.dO, .int .i64 h.ld, .int .i64 h.qu]) := F0.out.below hb F0.out.lt
  have F1 : Hid (Blk v_5 b1 [.int .i64 c.pos, .int .i64 c.vel, .int .i64 c.door]) := F1.out.below hb F1.out.lt
  have F2 : Hid (Blk v_5 b2 [.int .i64 0, .int .i64 i, .int .i64 o, .int .i64 l, .int .i64 g.pos, .int .i64 g.vel, .int .i64 g.door]) := F2.out.below hb F2.out.lt
  have F3 : Hid (Blk v_5 b3 [.int .i64 0, .int .i64 ea]) := F3.out.below hb F3.out.lt
  have F4 : Hid (Blk v_5 b4 [.int .i64 0, .int .i64 eb]) := F4.out.below hb F4.out.lt
  have FB : Hid (Below w.heap.size w v_5) := FB.out.trans (hb.mono FB.out.size)
  clear hb
  try dsimp only
  refine hK.out _ _ (by (try dsimp only); first | exact ⟨F0.out, F2.out, F3.out, F4.out⟩ | go_keep) (fun hHeld => ?_)
  clear hK K
  try simp only [Act.put, List.getElem_toArray, List.getElem_cons_succ, List.getElem_cons_zero, List.setIfInBounds_toArray, List.set_cons_zero, List.set_cons_succ]
  refine tkz 51 rfl ?_
  refine wpAnyH_ready (rs := [56]) (by kernel_rfl) (by simp) ?_
  refine (AllReadyH.cons rfl (fun K hK => ?_) AllReadyH.nil)
  go_simp
  refine (E4 _).mono ?_
  rintro e v_6 ⟨rfl, hb⟩
  have F0 : Hid (Blk v_6 b0 [.int .i64 h.fl, .int .i64 h.gp, .int .i64 h.ln, .int .i64 h.rf, .int .i64 h.sp, .int .i64 h.pu, .int .i64 h.br, .int .i64 h.dr, .int .i64 h.lv, .int .i64 h.dO, .int .i64 h.ld, .int .i64 h.qu]) := F0.out.below hb F0.out.lt
  have F1 : Hid (Blk v_6 b1 [.int .i64 c.pos, .int .i64 c.vel, .int .i64 c.door]) := F1.out.below hb F1.out.lt
  have F2 : Hid (Blk v_6 b2 [.int .i64 0, .int .i64 i, .int .i64 o, .int .i64 l, .int .i64 g.pos, .int .i64 g.vel, .int .i64 g.door]) := F2.out.below hb F2.out.lt
  have F3 : Hid (Blk v_6 b3 [.int .i64 0, .int .i64 ea]) := F3.out.below hb F3.out.lt
  have F4 : Hid (Blk v_6 b4 [.int .i64 0, .int .i64 eb]) := F4.out.below hb F4.out.lt
  have FB : Hid (Below w.heap.size w v_6) := FB.out.trans (hb.mono FB.out.size)
  clear hb
  try dsimp only
  refine hK.out _ _ (by (try dsimp only); first | exact ⟨F0.out, F2.out, F3.out, F4.out⟩ | go_keep) (fun hHeld => ?_)
  clear hK K
  try simp only [Act.put, List.getElem_toArray, List.getElem_cons_succ, List.getElem_cons_zero, List.setIfInBounds_toArray, List.set_cons_zero, List.set_cons_succ]
  refine tkz 57 rfl ?_
  refine tkz 58 rfl ?_
  refine tkz 59 rfl ?_
  refine tkz 60 rfl ?_
  refine tkz 61 rfl ?_
  refine tkz 62 rfl ?_ (hy := Or.inl ⟨by kernel_rfl, fun wx hSw => exec_load_blk 27 _ Try.underlying27 (by kernel_rfl) rfl rfl hSw.1⟩)
  refine tkz 63 rfl ?_
  refine wpAnyH_ready (rs := [64]) (by kernel_rfl) (by simp) ?_
  refine (AllReadyH.cons rfl (fun K hK => ?_) AllReadyH.nil)
  go_simp
  refine (E5 _).mono ?_
  rintro e v_7 ⟨rfl, hb⟩
  have F0 : Hid (Blk v_7 b0 [.int .i64 h.fl, .int .i64 h.gp, .int .i64 h.ln, .int .i64 h.rf, .int .i64 h.sp, .int .i64 h.pu, .int .i64 h.br, .int .i64 h.dr, .int .i64 h.lv, .int .i64 h.dO, .int .i64 h.ld, .int .i64 h.qu]) := F0.out.below hb F0.out.lt
  have F1 : Hid (Blk v_7 b1 [.int .i64 c.pos, .int .i64 c.vel, .int .i64 c.door]) := F1.out.below hb F1.out.lt
  have F2 : Hid (Blk v_7 b2 [.int .i64 0, .int .i64 i, .int .i64 o, .int .i64 l, .int .i64 g.pos, .int .i64 g.vel, .int .i64 g.door]) := F2.out.below hb F2.out.lt
  have F3 : Hid (Blk v_7 b3 [.int .i64 0, .int .i64 ea]) := F3.out.below hb F3.out.lt
  have F4 : Hid (Blk v_7 b4 [.int .i64 0, .int .i64 eb]) := F4.out.below hb F4.out.lt
  have FB : Hid (Below w.heap.size w v_7) := FB.out.trans (hb.mono FB.out.size)
  clear hb
  try dsimp only
  refine hK.out _ _ (by (try dsimp only); first | exact ⟨F0.out, F2.out, F3.out, F4.out⟩ | go_keep) (fun hHeld => ?_)
  clear hK K
  try simp only [Act.put, List.getElem_toArray, List.getElem_cons_succ, List.getElem_cons_zero, List.setIfInBounds_toArray, List.set_cons_zero, List.set_cons_succ]
  refine tkz 65 rfl ?_
  refine tkz 66 rfl ?_
  refine tkz 67 rfl ?_
  refine tkz 68 rfl ?_
  refine wpAnyH_done (by kernel_rfl) ?_ _
  go_wp2
  go_ret
  exact ⟨by first | rfl | simp, FB.out⟩
end Go.Proofs.Ytngdfckknkgdgaa
