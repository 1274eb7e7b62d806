/-
  The house, the spans and the goals that the bytes draw.
-/
import Derived.Test.YtpfihpplpefikaaSpanP
import Derived.Test.YtpfihpplpefikaaAt
namespace Go.Proofs.Ytpfihpplpefikaa
open Go.RowKit Pl
set_option linter.unusedSimpArgs false
set_option linter.unusedVariables false

theorem codeIn_monoQ {w : World} {B C : Nat} {a : Option Addr} {len : Nat} (h : CodeIn w B a len) (hB : B ≤ C) : CodeIn w C a len := by
  obtain ⟨h1, h2⟩ := h
  refine ⟨h1, ?_⟩
  rcases h2 with h2 | ⟨b, off, e, hb, r⟩
  · exact Or.inl h2
  · exact Or.inr ⟨b, off, e, Nat.lt_of_lt_of_le hb hB, r⟩
set_option maxRecDepth 20000 in
set_option maxHeartbeats 16000000 in
theorem DrawExtendSpans_any (a : Option Addr) (len cap : Nat) (w : World) (hc : CodeIn w w.heap.size a len) :
    Calls Try.prog 7 #[.slice a len cap] w fun e w' => ∃ (h : Hs) (x : Ss) (p q : Int), e = .returned (.tuple #[.agg #[.int .i64 h.fl, .int .i64 h.gp, .int .i64 h.ln, .int .i64 h.rf, .int .i64 h.sp, .int .i64 h.pu, .int .i64 h.br, .int .i64 h.dr, .int .i64 h.lv, .int .i64 h.dO, .int .i64 h.ld, .int .i64 h.qu], .agg #[.int .i64 x.l.lo, .int .i64 x.l.hi, .int .i64 x.u.lo, .int .i64 x.u.hi], .int .i64 p, .int .i64 q]) ∧ Below w.heap.size w w' := by
  obtain ⟨W0, hW0⟩ : ∃ W0, W0 = ((w.alloc (.cells #[.int .i64 0, .int .i64 0, .int .i64 0, .int .i64 0, .int .i64 0, .int .i64 0, .int .i64 0, .int .i64 0, .int .i64 0, .int .i64 0, .int .i64 0, .int .i64 0] 25)).alloc (.cells #[.int .i64 0, .int .i64 0, .int .i64 0, .int .i64 0] 29)) := ⟨_, rfl⟩
  obtain ⟨sb, hsb⟩ : ∃ sb, sb = W0.heap.size := ⟨_, rfl⟩
  have hsz : w.heap.size + 1 < sb := by rw [hsb, hW0]; simp
  have HC : Hid (CodeIn W0 w.heap.size a len) := by rw [hW0]; exact hc.keep fun b off _ hb => (World.cell?_alloc_past _ _ _ (by simp; omega)).trans (World.cell?_alloc_past _ _ _ hb)
  have G0 : Hid (Blk W0 w.heap.size [.int .i64 0, .int .i64 0, .int .i64 0, .int .i64 0, .int .i64 0, .int .i64 0, .int .i64 0, .int .i64 0, .int .i64 0, .int .i64 0, .int .i64 0, .int .i64 0]) := by rw [hW0]; exact (Blk.at_ w _ _ _ rfl).alloc _
  have G1 : Hid (Blk W0 (w.heap.size + 1) [.int .i64 0, .int .i64 0, .int .i64 0, .int .i64 0]) := by rw [hW0]; exact Blk.at_ _ _ _ _ (by simp)
  have FK : Hid (Keeps sb w W0) := by rw [hW0]; exact ((Keeps.refl _ _).alloc _).alloc _
  have HW0 : Hid (W0 = ((w.alloc (.cells #[.int .i64 0, .int .i64 0, .int .i64 0, .int .i64 0, .int .i64 0, .int .i64 0, .int .i64 0, .int .i64 0, .int .i64 0, .int .i64 0, .int .i64 0, .int .i64 0] 25)).alloc (.cells #[.int .i64 0, .int .i64 0, .int .i64 0, .int .i64 0] 29))) := hW0
  have HSB : Hid (sb = W0.heap.size) := hsb
  clear hW0 hsb hc
  go_enter Try.func7, Try.ntmps7
  go_wp2_with fail
  rw [← HW0.out]
  clear HW0
  refine (l1Source_t w.heap.size a len cap _ (by have := HSB.out; omega) HC.out).mono ?_
  rw [← HSB.out]
  rintro e w1 ⟨rfl, hs, hk⟩
  clear HSB
  have G0 : Hid (Blk w1 w.heap.size [.int .i64 0, .int .i64 0, .int .i64 0, .int .i64 0, .int .i64 0, .int .i64 0, .int .i64 0, .int .i64 0, .int .i64 0, .int .i64 0, .int .i64 0, .int .i64 0]) := G0.out.keeps hk (by omega)
  have G1 : Hid (Blk w1 (w.heap.size + 1) [.int .i64 0, .int .i64 0, .int .i64 0, .int .i64 0]) := G1.out.keeps hk (by omega)
  have FS : Hid (SrcT w1 sb w.heap.size a len cap (0)) := hs
  have FK : Hid (Keeps sb w w1) := FK.out.trans hk
  clear hs hk
  go_upto_region 3 with (first | (go_at_call 20; refine (l2House_t sb _ a len cap _ _ FS.out (by omega)).mono ?_; rintro e w2 ⟨h, rfl, ho, hs, hk⟩; have ho2 := ho.ok; have f1 := ho2.fl1; have f2 := ho2.fl2; clear ho ho2; have G0 : Hid (Blk w2 w.heap.size [.int .i64 0, .int .i64 0, .int .i64 0, .int .i64 0, .int .i64 0, .int .i64 0, .int .i64 0, .int .i64 0, .int .i64 0, .int .i64 0, .int .i64 0, .int .i64 0]) := G0.out.keeps hk (by omega); have G1 : Hid (Blk w2 (w.heap.size + 1) [.int .i64 0, .int .i64 0, .int .i64 0, .int .i64 0]) := G1.out.keeps hk (by omega); have FS : Hid (SrcT w2 sb w.heap.size a len cap (0 + 40)) := hs; have FK : Hid (Keeps sb w w2) := FK.out.trans hk; clear hs hk) | (refine store_new [.int .i64 h.fl, .int .i64 h.gp, .int .i64 h.ln, .int .i64 h.rf, .int .i64 h.sp, .int .i64 h.pu, .int .i64 h.br, .int .i64 h.dr, .int .i64 h.lv, .int .i64 h.dO, .int .i64 h.ld, .int .i64 h.qu] 25 _ _ (by kernel_rfl) (by kernel_rfl) (by kernel_rfl) rfl rfl rfl rfl ?_))
  have e0 : IntKind.i64.wrap (h.fl + 1) = h.fl + 1 := IntWalk.i64_in _ (by omega)
  obtain ⟨w3, hw_⟩ : ∃ w3, w3 = w2.alloc (.cells #[.int .i64 h.fl, .int .i64 h.gp, .int .i64 h.ln, .int .i64 h.rf, .int .i64 h.sp, .int .i64 h.pu, .int .i64 h.br, .int .i64 h.dr, .int .i64 h.lv, .int .i64 h.dO, .int .i64 h.ld, .int .i64 h.qu] 25) := ⟨_, rfl⟩
  obtain ⟨b1, hb_⟩ : ∃ b1, b1 = w2.heap.size := ⟨_, rfl⟩
  have ln_b1_G0 := G0.out.lt
  have ln_b1_G1 := G1.out.lt
  have ln_b1_s := FS.out.lt
  rw [← hb_] at ln_b1_G0 ln_b1_G1 ln_b1_s
  have G0 : Hid (Blk w3 w.heap.size [.int .i64 0, .int .i64 0, .int .i64 0, .int .i64 0, .int .i64 0, .int .i64 0, .int .i64 0, .int .i64 0, .int .i64 0, .int .i64 0, .int .i64 0, .int .i64 0]) := by rw [hw_]; exact G0.out.alloc _
  have G1 : Hid (Blk w3 (w.heap.size + 1) [.int .i64 0, .int .i64 0, .int .i64 0, .int .i64 0]) := by rw [hw_]; exact G1.out.alloc _
  have F0 : Hid (Blk w3 b1 [.int .i64 h.fl, .int .i64 h.gp, .int .i64 h.ln, .int .i64 h.rf, .int .i64 h.sp, .int .i64 h.pu, .int .i64 h.br, .int .i64 h.dr, .int .i64 h.lv, .int .i64 h.dO, .int .i64 h.ld, .int .i64 h.qu]) := by rw [hw_]; exact Blk.at_ _ _ _ _ hb_
  have FS : Hid (SrcT w3 sb w.heap.size a len cap (0 + 40)) := by rw [hw_]; exact FS.out.alloc _
  have FK : Hid (Keeps sb w w3) := by rw [hw_]; exact FK.out.alloc _
  rw [← hw_, ← hb_]
  clear hw_ hb_
  go_upto_region 4 with (first | (refine load_blk 25 _ Try.underlying25 (by kernel_rfl) F0.out rfl rfl rfl ?_) | (go_at_call 21; refine (l6Spans_t h f1 f2 sb _ a len cap _ _ FS.out (by omega)).mono ?_; rintro e w4 ⟨x, rfl, hs, hk⟩; have G0 : Hid (Blk w4 w.heap.size [.int .i64 0, .int .i64 0, .int .i64 0, .int .i64 0, .int .i64 0, .int .i64 0, .int .i64 0, .int .i64 0, .int .i64 0, .int .i64 0, .int .i64 0, .int .i64 0]) := G0.out.keeps hk (by omega); have G1 : Hid (Blk w4 (w.heap.size + 1) [.int .i64 0, .int .i64 0, .int .i64 0, .int .i64 0]) := G1.out.keeps hk (by omega); have F0 : Hid (Blk w4 b1 [.int .i64 h.fl, .int .i64 h.gp, .int .i64 h.ln, .int .i64 h.rf, .int .i64 h.sp, .int .i64 h.pu, .int .i64 h.br, .int .i64 h.dr, .int .i64 h.lv, .int .i64 h.dO, .int .i64 h.ld, .int .i64 h.qu]) := F0.out.keeps hk (by omega); have FS : Hid (SrcT w4 sb w.heap.size a len cap (0 + 40 + 10)) := hs; have FK : Hid (Keeps sb w w4) := FK.out.trans hk; clear hs hk) | (refine store_new [.int .i64 x.l.lo, .int .i64 x.l.hi, .int .i64 x.u.lo, .int .i64 x.u.hi] 29 _ _ (by kernel_rfl) (by kernel_rfl) (by kernel_rfl) rfl rfl rfl rfl ?_))
  obtain ⟨w5, hw_⟩ : ∃ w5, w5 = w4.alloc (.cells #[.int .i64 x.l.lo, .int .i64 x.l.hi, .int .i64 x.u.lo, .int .i64 x.u.hi] 29) := ⟨_, rfl⟩
  obtain ⟨b2, hb_⟩ : ∃ b2, b2 = w4.heap.size := ⟨_, rfl⟩
  have ln_b2_G0 := G0.out.lt
  have ln_b2_G1 := G1.out.lt
  have ln_b2_F0 := F0.out.lt
  have ln_b2_s := FS.out.lt
  rw [← hb_] at ln_b2_G0 ln_b2_G1 ln_b2_F0 ln_b2_s
  have G0 : Hid (Blk w5 w.heap.size [.int .i64 0, .int .i64 0, .int .i64 0, .int .i64 0, .int .i64 0, .int .i64 0, .int .i64 0, .int .i64 0, .int .i64 0, .int .i64 0, .int .i64 0, .int .i64 0]) := by rw [hw_]; exact G0.out.alloc _
  have G1 : Hid (Blk w5 (w.heap.size + 1) [.int .i64 0, .int .i64 0, .int .i64 0, .int .i64 0]) := by rw [hw_]; exact G1.out.alloc _
  have F0 : Hid (Blk w5 b1 [.int .i64 h.fl, .int .i64 h.gp, .int .i64 h.ln, .int .i64 h.rf, .int .i64 h.sp, .int .i64 h.pu, .int .i64 h.br, .int .i64 h.dr, .int .i64 h.lv, .int .i64 h.dO, .int .i64 h.ld, .int .i64 h.qu]) := by rw [hw_]; exact F0.out.alloc _
  have F1 : Hid (Blk w5 b2 [.int .i64 x.l.lo, .int .i64 x.l.hi, .int .i64 x.u.lo, .int .i64 x.u.hi]) := by rw [hw_]; exact Blk.at_ _ _ _ _ hb_
  have FS : Hid (SrcT w5 sb w.heap.size a len cap (0 + 40 + 10)) := by rw [hw_]; exact FS.out.alloc _
  have FK : Hid (Keeps sb w w5) := by rw [hw_]; exact FK.out.alloc _
  rw [← hw_, ← hb_]
  clear hw_ hb_
  have x0 := F0.out.c 0 _ rfl
  go_wp2_with fail
  refine (l1Next_t sb w.heap.size a len cap _ _ _ FS.out (by omega) (by omega) (by omega)).mono ?_
  rintro e w6 ⟨v0, rfl, hv0, hs, hk⟩
  clear x0
  have G0 : Hid (Blk w6 w.heap.size [.int .i64 0, .int .i64 0, .int .i64 0, .int .i64 0, .int .i64 0, .int .i64 0, .int .i64 0, .int .i64 0, .int .i64 0, .int .i64 0, .int .i64 0, .int .i64 0]) := G0.out.keeps hk (by omega)
  have G1 : Hid (Blk w6 (w.heap.size + 1) [.int .i64 0, .int .i64 0, .int .i64 0, .int .i64 0]) := G1.out.keeps hk (by omega)
  have F0 : Hid (Blk w6 b1 [.int .i64 h.fl, .int .i64 h.gp, .int .i64 h.ln, .int .i64 h.rf, .int .i64 h.sp, .int .i64 h.pu, .int .i64 h.br, .int .i64 h.dr, .int .i64 h.lv, .int .i64 h.dO, .int .i64 h.ld, .int .i64 h.qu]) := F0.out.keeps hk (by omega)
  have F1 : Hid (Blk w6 b2 [.int .i64 x.l.lo, .int .i64 x.l.hi, .int .i64 x.u.lo, .int .i64 x.u.hi]) := F1.out.keeps hk (by omega)
  have FS : Hid (SrcT w6 sb w.heap.size a len cap (0 + 40 + 10 + 1)) := hs
  have FK : Hid (Keeps sb w w6) := FK.out.trans hk
  clear hs hk
  obtain ⟨xa, ha⟩ : ∃ xa : Int, IntKind.i64.wrap ((v0 : Int) - 1) = xa := ⟨_, rfl⟩
  obtain ⟨y1, hy1⟩ : ∃ y : Int, IntKind.i64.wrap (xa + 1) = y := ⟨_, rfl⟩
  obtain ⟨y2, hy2⟩ : ∃ y : Int, IntKind.i64.wrap (xa + 2) = y := ⟨_, rfl⟩
  go_upto_region 5 with fail
  have F0 : Hid (Blk w6.drew b1 [.int .i64 h.fl, .int .i64 h.gp, .int .i64 h.ln, .int .i64 h.rf, .int .i64 h.sp, .int .i64 h.pu, .int .i64 h.br, .int .i64 h.dr, .int .i64 h.lv, .int .i64 h.dO, .int .i64 h.ld, .int .i64 h.qu]) := F0.out.below (Below.refl _ _).drew F0.out.lt
  have F1 : Hid (Blk w6.drew b2 [.int .i64 x.l.lo, .int .i64 x.l.hi, .int .i64 x.u.lo, .int .i64 x.u.hi]) := F1.out.below (Below.refl _ _).drew F1.out.lt
  have G0 : Hid (Blk w6.drew w.heap.size [.int .i64 0, .int .i64 0, .int .i64 0, .int .i64 0, .int .i64 0, .int .i64 0, .int .i64 0, .int .i64 0, .int .i64 0, .int .i64 0, .int .i64 0, .int .i64 0]) := G0.out.below (Below.refl _ _).drew G0.out.lt
  have G1 : Hid (Blk w6.drew (w.heap.size + 1) [.int .i64 0, .int .i64 0, .int .i64 0, .int .i64 0]) := G1.out.below (Below.refl _ _).drew G1.out.lt
  have FS : Hid (SrcT w6.drew sb w.heap.size a len cap (0 + 40 + 10 + 1)) := FS.out.drew
  have FK : Hid (Keeps sb w w6.drew) := FK.out.of_below (Below.refl _ _).drew
  refine wp_region_held_drew (S := (fun w'' => Blk w'' b1 ([.int .i64 h.fl, .int .i64 h.gp, .int .i64 h.ln, .int .i64 h.rf, .int .i64 h.sp, .int .i64 h.pu, .int .i64 h.br, .int .i64 h.dr, .int .i64 h.lv, .int .i64 h.dO, .int .i64 h.ld, .int .i64 h.qu]) ∧ Blk w'' b2 ([.int .i64 x.l.lo, .int .i64 x.l.hi, .int .i64 x.u.lo, .int .i64 x.u.hi]))) (by kernel_rfl) (by (try dsimp only); first | exact ⟨F0.out, F1.out⟩ | go_keep) (fun hHeld => ?_)
  obtain ⟨v_1, hw1⟩ : ∃ v_1, v_1 = w6.drew := ⟨_, rfl⟩
  have F0 : Hid (Blk v_1 b1 [.int .i64 h.fl, .int .i64 h.gp, .int .i64 h.ln, .int .i64 h.rf, .int .i64 h.sp, .int .i64 h.pu, .int .i64 h.br, .int .i64 h.dr, .int .i64 h.lv, .int .i64 h.dO, .int .i64 h.ld, .int .i64 h.qu]) := by rw [hw1]; exact F0.out
  have F1 : Hid (Blk v_1 b2 [.int .i64 x.l.lo, .int .i64 x.l.hi, .int .i64 x.u.lo, .int .i64 x.u.hi]) := by rw [hw1]; exact F1.out
  have G0 : Hid (Blk v_1 w.heap.size [.int .i64 0, .int .i64 0, .int .i64 0, .int .i64 0, .int .i64 0, .int .i64 0, .int .i64 0, .int .i64 0, .int .i64 0, .int .i64 0, .int .i64 0, .int .i64 0]) := by rw [hw1]; exact G0.out
  have G1 : Hid (Blk v_1 (w.heap.size + 1) [.int .i64 0, .int .i64 0, .int .i64 0, .int .i64 0]) := by rw [hw1]; exact G1.out
  have FS : Hid (SrcT v_1 sb w.heap.size a len cap (0 + 40 + 10 + 1)) := by rw [hw1]; exact FS.out
  have FK : Hid (Keeps sb w v_1) := by rw [hw1]; exact FK.out
  rw [← hw1] at hHeld ⊢
  clear hw1
  refine tkz 0 rfl ?_ (hy := Or.inl ⟨by kernel_rfl, fun wx hSw => exec_load_blk 25 _ Try.underlying25 (by kernel_rfl) rfl rfl hSw.1⟩)
  refine tkz 1 rfl ?_ (hy := Or.inl ⟨by kernel_rfl, fun wx hSw => exec_load_blk 29 _ Try.underlying29 (by kernel_rfl) rfl rfl hSw.2⟩)
  refine tkz 2 rfl ?_
  refine tkz 3 rfl ?_
  refine tkz 4 rfl ?_
  refine tkz 5 rfl ?_
  refine tkz 6 rfl ?_
  refine tkz 9 rfl ?_
  refine tkz 10 rfl ?_
  refine tkz 11 rfl ?_
  refine tkz 12 rfl ?_
  refine tkz 13 rfl ?_
  refine tkz 14 rfl ?_
  refine tkz 15 rfl ?_
  refine tkz 16 rfl ?_
  refine tkz 17 rfl ?_ (hy := Or.inl ⟨by kernel_rfl, by (intro wx hSw; have hq0_0 := hSw.1.c 0 _ rfl; (try dsimp only at hSw); go_simp <;> with_reducible rfl)⟩)
  refine tkz 18 rfl ?_
  refine tkz 19 rfl ?_
  refine tkz 20 rfl ?_ (hy := Or.inl ⟨by kernel_rfl, by (intro wx hSw; have hq0_0 := hSw.1.c 0 _ rfl; (try dsimp only at hSw); go_simp <;> with_reducible rfl)⟩)
  refine tkz 21 rfl ?_
  refine wpAnyH_ready (rs := [7, 22]) (by kernel_rfl) (by simp) ?_
  refine (AllReadyH.cons rfl (fun K hK => ?_) (AllReadyH.cons rfl (fun K hK => ?_) AllReadyH.nil))
  · go_simp
    obtain ⟨lb7, hbb⟩ : ∃ lb7, lb7 = v_1.heap.size := ⟨_, rfl⟩
    obtain ⟨v_2, hw2⟩ : ∃ v_2, v_2 = v_1.alloc (.cells #[.int .i64 xa, .int .i64 xa, .int .i64 xa, .int .i64 xa, .int .i64 (-2)] 2) := ⟨_, rfl⟩
    have nlb7_0 := F0.out.lt
    rw [← hbb] at nlb7_0
    have nlb7_1 := F1.out.lt
    rw [← hbb] at nlb7_1
    have nlb7_2 := G0.out.lt
    rw [← hbb] at nlb7_2
    have nlb7_3 := G1.out.lt
    rw [← hbb] at nlb7_3
    have nlb7_s := FS.out.lt
    rw [← hbb] at nlb7_s
    have FL7 : Hid (LstAt v_2 lb7 [xa, xa, xa, xa, (-2)]) := by rw [hw2]; exact LstAt.new v_1 [xa, xa, xa, xa, (-2)] 2 lb7 hbb (by simp)
    have F0 : Hid (Blk v_2 b1 [.int .i64 h.fl, .int .i64 h.gp, .int .i64 h.ln, .int .i64 h.rf, .int .i64 h.sp, .int .i64 h.pu, .int .i64 h.br, .int .i64 h.dr, .int .i64 h.lv, .int .i64 h.dO, .int .i64 h.ld, .int .i64 h.qu]) := by rw [hw2]; exact F0.out.alloc _
    have F1 : Hid (Blk v_2 b2 [.int .i64 x.l.lo, .int .i64 x.l.hi, .int .i64 x.u.lo, .int .i64 x.u.hi]) := by rw [hw2]; exact F1.out.alloc _
    have G0 : Hid (Blk v_2 w.heap.size [.int .i64 0, .int .i64 0, .int .i64 0, .int .i64 0, .int .i64 0, .int .i64 0, .int .i64 0, .int .i64 0, .int .i64 0, .int .i64 0, .int .i64 0, .int .i64 0]) := by rw [hw2]; exact G0.out.alloc _
    have G1 : Hid (Blk v_2 (w.heap.size + 1) [.int .i64 0, .int .i64 0, .int .i64 0, .int .i64 0]) := by rw [hw2]; exact G1.out.alloc _
    have FS : Hid (SrcT v_2 sb w.heap.size a len cap (0 + 40 + 10 + 1)) := by rw [hw2]; exact FS.out.alloc _
    have FK : Hid (Keeps sb w v_2) := by rw [hw2]; exact FK.out.alloc _
    rw [← hw2, ← hbb]
    clear hbb hw2
    refine hK.out _ _ (by (try dsimp only); first | exact ⟨F0.out, F1.out⟩ | go_keep) (fun hHeld => ?_)
    clear hK K
    try simp only [Act.put, List.getElem_toArray, List.getElem_cons_succ, List.getElem_cons_zero, List.setIfInBounds_toArray, List.set_cons_zero, List.set_cons_succ]
    refine wpAnyH_ready (rs := [8, 22]) (by kernel_rfl) (by simp) ?_
    refine (AllReadyH.cons rfl (fun K hK => ?_) (AllReadyH.cons rfl (fun K hK => ?_) AllReadyH.nil))
    · go_simp
      refine (l1Pick_t sb _ lb7 [xa, xa, xa, xa, (-2)] (fun _ => True) (fun _ _ => trivial) a len cap _ _ FS.out (by omega) FL7.out (by simp) (by omega)).mono ?_
      rintro e v_3 ⟨p, rfl, -, hs, hk⟩
      have F0 : Hid (Blk v_3 b1 [.int .i64 h.fl, .int .i64 h.gp, .int .i64 h.ln, .int .i64 h.rf, .int .i64 h.sp, .int .i64 h.pu, .int .i64 h.br, .int .i64 h.dr, .int .i64 h.lv, .int .i64 h.dO, .int .i64 h.ld, .int .i64 h.qu]) := F0.out.keeps hk (by omega)
      have F1 : Hid (Blk v_3 b2 [.int .i64 x.l.lo, .int .i64 x.l.hi, .int .i64 x.u.lo, .int .i64 x.u.hi]) := F1.out.keeps hk (by omega)
      have G0 : Hid (Blk v_3 w.heap.size [.int .i64 0, .int .i64 0, .int .i64 0, .int .i64 0, .int .i64 0, .int .i64 0, .int .i64 0, .int .i64 0, .int .i64 0, .int .i64 0, .int .i64 0, .int .i64 0]) := G0.out.keeps hk (by omega)
      have G1 : Hid (Blk v_3 (w.heap.size + 1) [.int .i64 0, .int .i64 0, .int .i64 0, .int .i64 0]) := G1.out.keeps hk (by omega)
      have FS : Hid (SrcT v_3 sb w.heap.size a len cap ((0 + 40 + 10 + 1) + 1)) := hs
      have FK : Hid (Keeps sb w v_3) := FK.out.trans hk
      have FL7 : Hid (LstAt v_3 lb7 [xa, xa, xa, xa, (-2)]) := FL7.out.keeps hk (by omega)
      clear hs hk
      try dsimp only
      refine hK.out _ _ (by (try dsimp only); first | exact ⟨F0.out, F1.out⟩ | go_keep) (fun hHeld => ?_)
      clear hK K
      try simp only [Act.put, List.getElem_toArray, List.getElem_cons_succ, List.getElem_cons_zero, List.setIfInBounds_toArray, List.set_cons_zero, List.set_cons_succ]
      refine wpAnyH_ready (rs := [22]) (by kernel_rfl) (by simp) ?_
      refine (AllReadyH.cons rfl (fun K hK => ?_) AllReadyH.nil)
      go_simp
      obtain ⟨lb22, hbb⟩ : ∃ lb22, lb22 = v_3.heap.size := ⟨_, rfl⟩
      obtain ⟨v_4, hw2⟩ : ∃ v_4, v_4 = v_3.alloc (.cells #[.int .i64 y1, .int .i64 y2, .int .i64 y1, .int .i64 h.fl, .int .i64 xa, .int .i64 (h.fl + 1)] 2) := ⟨_, rfl⟩
      have nlb22_0 := F0.out.lt
      rw [← hbb] at nlb22_0
      have nlb22_1 := F1.out.lt
      rw [← hbb] at nlb22_1
      have nlb22_2 := G0.out.lt
      rw [← hbb] at nlb22_2
      have nlb22_3 := G1.out.lt
      rw [← hbb] at nlb22_3
      have nlb22_s := FS.out.lt
      rw [← hbb] at nlb22_s
      have nlb22_6 := FL7.out.lt
      rw [← hbb] at nlb22_6
      have FL22 : Hid (LstAt v_4 lb22 [y1, y2, y1, h.fl, xa, (h.fl + 1)]) := by rw [hw2]; exact LstAt.new v_3 [y1, y2, y1, h.fl, xa, (h.fl + 1)] 2 lb22 hbb (by simp)
      have F0 : Hid (Blk v_4 b1 [.int .i64 h.fl, .int .i64 h.gp, .int .i64 h.ln, .int .i64 h.rf, .int .i64 h.sp, .int .i64 h.pu, .int .i64 h.br, .int .i64 h.dr, .int .i64 h.lv, .int .i64 h.dO, .int .i64 h.ld, .int .i64 h.qu]) := by rw [hw2]; exact F0.out.alloc _
      have F1 : Hid (Blk v_4 b2 [.int .i64 x.l.lo, .int .i64 x.l.hi, .int .i64 x.u.lo, .int .i64 x.u.hi]) := by rw [hw2]; exact F1.out.alloc _
      have G0 : Hid (Blk v_4 w.heap.size [.int .i64 0, .int .i64 0, .int .i64 0, .int .i64 0, .int .i64 0, .int .i64 0, .int .i64 0, .int .i64 0, .int .i64 0, .int .i64 0, .int .i64 0, .int .i64 0]) := by rw [hw2]; exact G0.out.alloc _
      have G1 : Hid (Blk v_4 (w.heap.size + 1) [.int .i64 0, .int .i64 0, .int .i64 0, .int .i64 0]) := by rw [hw2]; exact G1.out.alloc _
      have FS : Hid (SrcT v_4 sb w.heap.size a len cap ((0 + 40 + 10 + 1) + 1)) := by rw [hw2]; exact FS.out.alloc _
      have FK : Hid (Keeps sb w v_4) := by rw [hw2]; exact FK.out.alloc _
      have FL7 : Hid (LstAt v_4 lb7 [xa, xa, xa, xa, (-2)]) := by rw [hw2]; exact FL7.out.alloc _
      rw [← hw2, ← hbb]
      clear hbb hw2
      refine hK.out _ _ (by (try dsimp only); first | exact ⟨F0.out, F1.out⟩ | go_keep) (fun hHeld => ?_)
      clear hK K
      try simp only [Act.put, List.getElem_toArray, List.getElem_cons_succ, List.getElem_cons_zero, List.setIfInBounds_toArray, List.set_cons_zero, List.set_cons_succ]
      refine wpAnyH_ready (rs := [23]) (by kernel_rfl) (by simp) ?_
      refine (AllReadyH.cons rfl (fun K hK => ?_) AllReadyH.nil)
      go_simp
      refine (l1Pick_t sb _ lb22 [y1, y2, y1, h.fl, xa, (h.fl + 1)] (fun _ => True) (fun _ _ => trivial) a len cap _ _ FS.out (by omega) FL22.out (by simp) (by omega)).mono ?_
      rintro e v_5 ⟨q, rfl, -, hs, hk⟩
      have F0 : Hid (Blk v_5 b1 [.int .i64 h.fl, .int .i64 h.gp, .int .i64 h.ln, .int .i64 h.rf, .int .i64 h.sp, .int .i64 h.pu, .int .i64 h.br, .int .i64 h.dr, .int .i64 h.lv, .int .i64 h.dO, .int .i64 h.ld, .int .i64 h.qu]) := F0.out.keeps hk (by omega)
      have F1 : Hid (Blk v_5 b2 [.int .i64 x.l.lo, .int .i64 x.l.hi, .int .i64 x.u.lo, .int .i64 x.u.hi]) := F1.out.keeps hk (by omega)
      have G0 : Hid (Blk v_5 w.heap.size [.int .i64 0, .int .i64 0, .int .i64 0, .int .i64 0, .int .i64 0, .int .i64 0, .int .i64 0, .int .i64 0, .int .i64 0, .int .i64 0, .int .i64 0, .int .i64 0]) := G0.out.keeps hk (by omega)
      have G1 : Hid (Blk v_5 (w.heap.size + 1) [.int .i64 0, .int .i64 0, .int .i64 0, .int .i64 0]) := G1.out.keeps hk (by omega)
      have FS : Hid (SrcT v_5 sb w.heap.size a len cap (((0 + 40 + 10 + 1) + 1) + 1)) := hs
      have FK : Hid (Keeps sb w v_5) := FK.out.trans hk
      have FL7 : Hid (LstAt v_5 lb7 [xa, xa, xa, xa, (-2)]) := FL7.out.keeps hk (by omega)
      have FL22 : Hid (LstAt v_5 lb22 [y1, y2, y1, h.fl, xa, (h.fl + 1)]) := FL22.out.keeps hk (by omega)
      clear hs hk
      try dsimp only
      refine hK.out _ _ (by (try dsimp only); first | exact ⟨F0.out, F1.out⟩ | go_keep) (fun hHeld => ?_)
      clear hK K
      try simp only [Act.put, List.getElem_toArray, List.getElem_cons_succ, List.getElem_cons_zero, List.setIfInBounds_toArray, List.set_cons_zero, List.set_cons_succ]
      refine wpAnyH_ready (rs := [24]) (by kernel_rfl) (by simp) ?_
      refine (AllReadyH.cons rfl (fun K hK => ?_) AllReadyH.nil)
      have c0_ := G0.out.c 0 _ rfl
      have c1_ := G0.out.c 1 _ rfl
      have c2_ := G0.out.c 2 _ rfl
      have c3_ := G0.out.c 3 _ rfl
      have c4_ := G0.out.c 4 _ rfl
      have c5_ := G0.out.c 5 _ rfl
      have c6_ := G0.out.c 6 _ rfl
      have c7_ := G0.out.c 7 _ rfl
      have c8_ := G0.out.c 8 _ rfl
      have c9_ := G0.out.c 9 _ rfl
      have c10_ := G0.out.c 10 _ rfl
      have c11_ := G0.out.c 11 _ rfl
      have q0_ := G0.out.f 0 (Nat.le_of_ble_eq_true rfl)
      have q1_ := G0.out.f 1 (Nat.le_of_ble_eq_true rfl)
      have q2_ := G0.out.f 2 (Nat.le_of_ble_eq_true rfl)
      have q3_ := G0.out.f 3 (Nat.le_of_ble_eq_true rfl)
      have q4_ := G0.out.f 4 (Nat.le_of_ble_eq_true rfl)
      have q5_ := G0.out.f 5 (Nat.le_of_ble_eq_true rfl)
      have q6_ := G0.out.f 6 (Nat.le_of_ble_eq_true rfl)
      have q7_ := G0.out.f 7 (Nat.le_of_ble_eq_true rfl)
      have q8_ := G0.out.f 8 (Nat.le_of_ble_eq_true rfl)
      have q9_ := G0.out.f 9 (Nat.le_of_ble_eq_true rfl)
      have q10_ := G0.out.f 10 (Nat.le_of_ble_eq_true rfl)
      have q11_ := G0.out.f 11 (Nat.le_of_ble_eq_true rfl)
      go_simp
      obtain ⟨v_6, hw2⟩ : ∃ v_6, v_6 = putB v_5 w.heap.size 0 [.int .i64 h.fl, .int .i64 h.gp, .int .i64 h.ln, .int .i64 h.rf, .int .i64 h.sp, .int .i64 h.pu, .int .i64 h.br, .int .i64 h.dr, .int .i64 h.lv, .int .i64 h.dO, .int .i64 h.ld, .int .i64 h.qu] := ⟨_, rfl⟩
      change K _ (putB v_5 w.heap.size 0 [.int .i64 h.fl, .int .i64 h.gp, .int .i64 h.ln, .int .i64 h.rf, .int .i64 h.sp, .int .i64 h.pu, .int .i64 h.br, .int .i64 h.dr, .int .i64 h.lv, .int .i64 h.dO, .int .i64 h.ld, .int .i64 h.qu])
      rw [← hw2]
      clear c0_ q0_ c1_ q1_ c2_ q2_ c3_ q3_ c4_ q4_ c5_ q5_ c6_ q6_ c7_ q7_ c8_ q8_ c9_ q9_ c10_ q10_ c11_ q11_
      have F0 : Hid (Blk v_6 b1 [.int .i64 h.fl, .int .i64 h.gp, .int .i64 h.ln, .int .i64 h.rf, .int .i64 h.sp, .int .i64 h.pu, .int .i64 h.br, .int .i64 h.dr, .int .i64 h.lv, .int .i64 h.dO, .int .i64 h.ld, .int .i64 h.qu]) := by rw [hw2]; exact Blk.putB_other (by omega) _ _ F0.out
      have F1 : Hid (Blk v_6 b2 [.int .i64 x.l.lo, .int .i64 x.l.hi, .int .i64 x.u.lo, .int .i64 x.u.hi]) := by rw [hw2]; exact Blk.putB_other (by omega) _ _ F1.out
      have G0 : Hid (Blk v_6 w.heap.size [.int .i64 h.fl, .int .i64 h.gp, .int .i64 h.ln, .int .i64 h.rf, .int .i64 h.sp, .int .i64 h.pu, .int .i64 h.br, .int .i64 h.dr, .int .i64 h.lv, .int .i64 h.dO, .int .i64 h.ld, .int .i64 h.qu]) := by rw [hw2]; exact G0.out.put _ rfl
      have G1 : Hid (Blk v_6 (w.heap.size + 1) [.int .i64 0, .int .i64 0, .int .i64 0, .int .i64 0]) := by rw [hw2]; exact Blk.putB_other (by omega) _ _ G1.out
      have FK : Hid (Keeps sb w v_6) := by rw [hw2]; exact FK.out.blw (below_putB (Below.refl w.heap.size _) (by omega) _ _) (Nat.le_refl _)
      clear hw2
      refine hK.out _ _ (by (try dsimp only); first | exact ⟨F0.out, F1.out⟩ | go_keep) (fun hHeld => ?_)
      clear hK K
      try simp only [Act.put, List.getElem_toArray, List.getElem_cons_succ, List.getElem_cons_zero, List.setIfInBounds_toArray, List.set_cons_zero, List.set_cons_succ]
      refine wpAnyH_ready (rs := [25]) (by kernel_rfl) (by simp) ?_
      refine (AllReadyH.cons rfl (fun K hK => ?_) AllReadyH.nil)
      have c0_ := G1.out.c 0 _ rfl
      have c1_ := G1.out.c 1 _ rfl
      have c2_ := G1.out.c 2 _ rfl
      have c3_ := G1.out.c 3 _ rfl
      have q0_ := G1.out.f 0 (Nat.le_of_ble_eq_true rfl)
      have q1_ := G1.out.f 1 (Nat.le_of_ble_eq_true rfl)
      have q2_ := G1.out.f 2 (Nat.le_of_ble_eq_true rfl)
      have q3_ := G1.out.f 3 (Nat.le_of_ble_eq_true rfl)
      go_simp
      obtain ⟨v_7, hw2⟩ : ∃ v_7, v_7 = putB v_6 (w.heap.size + 1) 0 [.int .i64 x.l.lo, .int .i64 x.l.hi, .int .i64 x.u.lo, .int .i64 x.u.hi] := ⟨_, rfl⟩
      change K _ (putB v_6 (w.heap.size + 1) 0 [.int .i64 x.l.lo, .int .i64 x.l.hi, .int .i64 x.u.lo, .int .i64 x.u.hi])
      rw [← hw2]
      clear c0_ q0_ c1_ q1_ c2_ q2_ c3_ q3_
      have F0 : Hid (Blk v_7 b1 [.int .i64 h.fl, .int .i64 h.gp, .int .i64 h.ln, .int .i64 h.rf, .int .i64 h.sp, .int .i64 h.pu, .int .i64 h.br, .int .i64 h.dr, .int .i64 h.lv, .int .i64 h.dO, .int .i64 h.ld, .int .i64 h.qu]) := by rw [hw2]; exact Blk.putB_other (by omega) _ _ F0.out
      have F1 : Hid (Blk v_7 b2 [.int .i64 x.l.lo, .int .i64 x.l.hi, .int .i64 x.u.lo, .int .i64 x.u.hi]) := by rw [hw2]; exact Blk.putB_other (by omega) _ _ F1.out
      have G0 : Hid (Blk v_7 w.heap.size [.int .i64 h.fl, .int .i64 h.gp, .int .i64 h.ln, .int .i64 h.rf, .int .i64 h.sp, .int .i64 h.pu, .int .i64 h.br, .int .i64 h.dr, .int .i64 h.lv, .int .i64 h.dO, .int .i64 h.ld, .int .i64 h.qu]) := by rw [hw2]; exact Blk.putB_other (by omega) _ _ G0.out
      have G1 : Hid (Blk v_7 (w.heap.size + 1) [.int .i64 x.l.lo, .int .i64 x.l.hi, .int .i64 x.u.lo, .int .i64 x.u.hi]) := by rw [hw2]; exact G1.out.put _ rfl
      have FK : Hid (Keeps sb w v_7) := by rw [hw2]; exact FK.out.blw (below_putB (Below.refl w.heap.size _) (by omega) _ _) (Nat.le_refl _)
      clear hw2
      refine hK.out _ _ (by (try dsimp only); first | exact ⟨F0.out, F1.out⟩ | go_keep) (fun hHeld => ?_)
      clear hK K
      try simp only [Act.put, List.getElem_toArray, List.getElem_cons_succ, List.getElem_cons_zero, List.setIfInBounds_toArray, List.set_cons_zero, List.set_cons_succ]
      refine tkz 26 rfl ?_
      refine tkz 27 rfl ?_
      refine wpAnyH_done (by kernel_rfl) ?_ _
      have d0_ := G0.out.c 0 _ rfl
      have d1_ := G0.out.c 1 _ rfl
      have d2_ := G0.out.c 2 _ rfl
      have d3_ := G0.out.c 3 _ rfl
      have d4_ := G0.out.c 4 _ rfl
      have d5_ := G0.out.c 5 _ rfl
      have d6_ := G0.out.c 6 _ rfl
      have d7_ := G0.out.c 7 _ rfl
      have d8_ := G0.out.c 8 _ rfl
      have d9_ := G0.out.c 9 _ rfl
      have d10_ := G0.out.c 10 _ rfl
      have d11_ := G0.out.c 11 _ rfl
      have k0_ := G1.out.c 0 _ rfl
      have k1_ := G1.out.c 1 _ rfl
      have k2_ := G1.out.c 2 _ rfl
      have k3_ := G1.out.c 3 _ rfl
      go_wp2_with fail
      exact bodyPost_ret (v := .tuple #[.agg #[.int .i64 h.fl, .int .i64 h.gp, .int .i64 h.ln, .int .i64 h.rf, .int .i64 h.sp, .int .i64 h.pu, .int .i64 h.br, .int .i64 h.dr, .int .i64 h.lv, .int .i64 h.dO, .int .i64 h.ld, .int .i64 h.qu], .agg #[.int .i64 x.l.lo, .int .i64 x.l.hi, .int .i64 x.u.lo, .int .i64 x.u.hi], .int .i64 p, .int .i64 q]) (by simp [results, Try.results7, go_sem, d0_, d1_, d2_, d3_, d4_, d5_, d6_, d7_, d8_, d9_, d10_, d11_, k0_, k1_, k2_, k3_]) rfl ⟨h, x, p, q, rfl, FK.out.below (by omega) (Nat.le_refl _)⟩
    · go_simp
      obtain ⟨lb22, hbb⟩ : ∃ lb22, lb22 = v_2.heap.size := ⟨_, rfl⟩
      obtain ⟨v_8, hw2⟩ : ∃ v_8, v_8 = v_2.alloc (.cells #[.int .i64 y1, .int .i64 y2, .int .i64 y1, .int .i64 h.fl, .int .i64 xa, .int .i64 (h.fl + 1)] 2) := ⟨_, rfl⟩
      have nlb22_0 := F0.out.lt
      rw [← hbb] at nlb22_0
      have nlb22_1 := F1.out.lt
      rw [← hbb] at nlb22_1
      have nlb22_2 := G0.out.lt
      rw [← hbb] at nlb22_2
      have nlb22_3 := G1.out.lt
      rw [← hbb] at nlb22_3
      have nlb22_s := FS.out.lt
      rw [← hbb] at nlb22_s
      have nlb22_6 := FL7.out.lt
      rw [← hbb] at nlb22_6
      have FL22 : Hid (LstAt v_8 lb22 [y1, y2, y1, h.fl, xa, (h.fl + 1)]) := by rw [hw2]; exact LstAt.new v_2 [y1, y2, y1, h.fl, xa, (h.fl + 1)] 2 lb22 hbb (by simp)
      have F0 : Hid (Blk v_8 b1 [.int .i64 h.fl, .int .i64 h.gp, .int .i64 h.ln, .int .i64 h.rf, .int .i64 h.sp, .int .i64 h.pu, .int .i64 h.br, .int .i64 h.dr, .int .i64 h.lv, .int .i64 h.dO, .int .i64 h.ld, .int .i64 h.qu]) := by rw [hw2]; exact F0.out.alloc _
      have F1 : Hid (Blk v_8 b2 [.int .i64 x.l.lo, .int .i64 x.l.hi, .int .i64 x.u.lo, .int .i64 x.u.hi]) := by rw [hw2]; exact F1.out.alloc _
      have G0 : Hid (Blk v_8 w.heap.size [.int .i64 0, .int .i64 0, .int .i64 0, .int .i64 0, .int .i64 0, .int .i64 0, .int .i64 0, .int .i64 0, .int .i64 0, .int .i64 0, .int .i64 0, .int .i64 0]) := by rw [hw2]; exact G0.out.alloc _
      have G1 : Hid (Blk v_8 (w.heap.size + 1) [.int .i64 0, .int .i64 0, .int .i64 0, .int .i64 0]) := by rw [hw2]; exact G1.out.alloc _
      have FS : Hid (SrcT v_8 sb w.heap.size a len cap (0 + 40 + 10 + 1)) := by rw [hw2]; exact FS.out.alloc _
      have FK : Hid (Keeps sb w v_8) := by rw [hw2]; exact FK.out.alloc _
      have FL7 : Hid (LstAt v_8 lb7 [xa, xa, xa, xa, (-2)]) := by rw [hw2]; exact FL7.out.alloc _
      rw [← hw2, ← hbb]
      clear hbb hw2
      refine hK.out _ _ (by (try dsimp only); first | exact ⟨F0.out, F1.out⟩ | go_keep) (fun hHeld => ?_)
      clear hK K
      try simp only [Act.put, List.getElem_toArray, List.getElem_cons_succ, List.getElem_cons_zero, List.setIfInBounds_toArray, List.set_cons_zero, List.set_cons_succ]
      refine wpAnyH_ready (rs := [8]) (by kernel_rfl) (by simp) ?_
      refine (AllReadyH.cons rfl (fun K hK => ?_) AllReadyH.nil)
      go_simp
      refine (l1Pick_t sb _ lb7 [xa, xa, xa, xa, (-2)] (fun _ => True) (fun _ _ => trivial) a len cap _ _ FS.out (by omega) FL7.out (by simp) (by omega)).mono ?_
      rintro e v_9 ⟨p, rfl, -, hs, hk⟩
      have F0 : Hid (Blk v_9 b1 [.int .i64 h.fl, .int .i64 h.gp, .int .i64 h.ln, .int .i64 h.rf, .int .i64 h.sp, .int .i64 h.pu, .int .i64 h.br, .int .i64 h.dr, .int .i64 h.lv, .int .i64 h.dO, .int .i64 h.ld, .int .i64 h.qu]) := F0.out.keeps hk (by omega)
      have F1 : Hid (Blk v_9 b2 [.int .i64 x.l.lo, .int .i64 x.l.hi, .int .i64 x.u.lo, .int .i64 x.u.hi]) := F1.out.keeps hk (by omega)
      have G0 : Hid (Blk v_9 w.heap.size [.int .i64 0, .int .i64 0, .int .i64 0, .int .i64 0, .int .i64 0, .int .i64 0, .int .i64 0, .int .i64 0, .int .i64 0, .int .i64 0, .int .i64 0, .int .i64 0]) := G0.out.keeps hk (by omega)
      have G1 : Hid (Blk v_9 (w.heap.size + 1) [.int .i64 0, .int .i64 0, .int .i64 0, .int .i64 0]) := G1.out.keeps hk (by omega)
      have FS : Hid (SrcT v_9 sb w.heap.size a len cap ((0 + 40 + 10 + 1) + 1)) := hs
      have FK : Hid (Keeps sb w v_9) := FK.out.trans hk
      have FL7 : Hid (LstAt v_9 lb7 [xa, xa, xa, xa, (-2)]) := FL7.out.keeps hk (by omega)
      have FL22 : Hid (LstAt v_9 lb22 [y1, y2, y1, h.fl, xa, (h.fl + 1)]) := FL22.out.keeps hk (by omega)
      clear hs hk
      try dsimp only
      refine hK.out _ _ (by (try dsimp only); first | exact ⟨F0.out, F1.out⟩ | go_keep) (fun hHeld => ?_)
      clear hK K
      try simp only [Act.put, List.getElem_toArray, List.getElem_cons_succ, List.getElem_cons_zero, List.setIfInBounds_toArray, List.set_cons_zero, List.set_cons_succ]
      refine wpAnyH_ready (rs := [23]) (by kernel_rfl) (by simp) ?_
      refine (AllReadyH.cons rfl (fun K hK => ?_) AllReadyH.nil)
      go_simp
      refine (l1Pick_t sb _ lb22 [y1, y2, y1, h.fl, xa, (h.fl + 1)] (fun _ => True) (fun _ _ => trivial) a len cap _ _ FS.out (by omega) FL22.out (by simp) (by omega)).mono ?_
      rintro e v_10 ⟨q, rfl, -, hs, hk⟩
      have F0 : Hid (Blk v_10 b1 [.int .i64 h.fl, .int .i64 h.gp, .int .i64 h.ln, .int .i64 h.rf, .int .i64 h.sp, .int .i64 h.pu, .int .i64 h.br, .int .i64 h.dr, .int .i64 h.lv, .int .i64 h.dO, .int .i64 h.ld, .int .i64 h.qu]) := F0.out.keeps hk (by omega)
      have F1 : Hid (Blk v_10 b2 [.int .i64 x.l.lo, .int .i64 x.l.hi, .int .i64 x.u.lo, .int .i64 x.u.hi]) := F1.out.keeps hk (by omega)
      have G0 : Hid (Blk v_10 w.heap.size [.int .i64 0, .int .i64 0, .int .i64 0, .int .i64 0, .int .i64 0, .int .i64 0, .int .i64 0, .int .i64 0, .int .i64 0, .int .i64 0, .int .i64 0, .int .i64 0]) := G0.out.keeps hk (by omega)
      have G1 : Hid (Blk v_10 (w.heap.size + 1) [.int .i64 0, .int .i64 0, .int .i64 0, .int .i64 0]) := G1.out.keeps hk (by omega)
      have FS : Hid (SrcT v_10 sb w.heap.size a len cap (((0 + 40 + 10 + 1) + 1) + 1)) := hs
      have FK : Hid (Keeps sb w v_10) := FK.out.trans hk
      have FL7 : Hid (LstAt v_10 lb7 [xa, xa, xa, xa, (-2)]) := FL7.out.keeps hk (by omega)
      have FL22 : Hid (LstAt v_10 lb22 [y1, y2, y1, h.fl, xa, (h.fl + 1)]) := FL22.out.keeps hk (by omega)
      clear hs hk
      try dsimp only
      refine hK.out _ _ (by (try dsimp only); first | exact ⟨F0.out, F1.out⟩ | go_keep) (fun hHeld => ?_)
      clear hK K
      try simp only [Act.put, List.getElem_toArray, List.getElem_cons_succ, List.getElem_cons_zero, List.setIfInBounds_toArray, List.set_cons_zero, List.set_cons_succ]
      refine wpAnyH_ready (rs := [24]) (by kernel_rfl) (by simp) ?_
      refine (AllReadyH.cons rfl (fun K hK => ?_) AllReadyH.nil)
      have c0_ := G0.out.c 0 _ rfl
      have c1_ := G0.out.c 1 _ rfl
      have c2_ := G0.out.c 2 _ rfl
      have c3_ := G0.out.c 3 _ rfl
      have c4_ := G0.out.c 4 _ rfl
      have c5_ := G0.out.c 5 _ rfl
      have c6_ := G0.out.c 6 _ rfl
      have c7_ := G0.out.c 7 _ rfl
      have c8_ := G0.out.c 8 _ rfl
      have c9_ := G0.out.c 9 _ rfl
      have c10_ := G0.out.c 10 _ rfl
      have c11_ := G0.out.c 11 _ rfl
      have q0_ := G0.out.f 0 (Nat.le_of_ble_eq_true rfl)
      have q1_ := G0.out.f 1 (Nat.le_of_ble_eq_true rfl)
      have q2_ := G0.out.f 2 (Nat.le_of_ble_eq_true rfl)
      have q3_ := G0.out.f 3 (Nat.le_of_ble_eq_true rfl)
      have q4_ := G0.out.f 4 (Nat.le_of_ble_eq_true rfl)
      have q5_ := G0.out.f 5 (Nat.le_of_ble_eq_true rfl)
      have q6_ := G0.out.f 6 (Nat.le_of_ble_eq_true rfl)
      have q7_ := G0.out.f 7 (Nat.le_of_ble_eq_true rfl)
      have q8_ := G0.out.f 8 (Nat.le_of_ble_eq_true rfl)
      have q9_ := G0.out.f 9 (Nat.le_of_ble_eq_true rfl)
      have q10_ := G0.out.f 10 (Nat.le_of_ble_eq_true rfl)
      have q11_ := G0.out.f 11 (Nat.le_of_ble_eq_true rfl)
      go_simp
      obtain ⟨v_11, hw2⟩ : ∃ v_11, v_11 = putB v_10 w.heap.size 0 [.int .i64 h.fl, .int .i64 h.gp, .int .i64 h.ln, .int .i64 h.rf, .int .i64 h.sp, .int .i64 h.pu, .int .i64 h.br, .int .i64 h.dr, .int .i64 h.lv, .int .i64 h.dO, .int .i64 h.ld, .int .i64 h.qu] := ⟨_, rfl⟩
      change K _ (putB v_10 w.heap.size 0 [.int .i64 h.fl, .int .i64 h.gp, .int .i64 h.ln, .int .i64 h.rf, .int .i64 h.sp, .int .i64 h.pu, .int .i64 h.br, .int .i64 h.dr, .int .i64 h.lv, .int .i64 h.dO, .int .i64 h.ld, .int .i64 h.qu])
      rw [← hw2]
      clear c0_ q0_ c1_ q1_ c2_ q2_ c3_ q3_ c4_ q4_ c5_ q5_ c6_ q6_ c7_ q7_ c8_ q8_ c9_ q9_ c10_ q10_ c11_ q11_
      have F0 : Hid (Blk v_11 b1 [.int .i64 h.fl, .int .i64 h.gp, .int .i64 h.ln, .int .i64 h.rf, .int .i64 h.sp, .int .i64 h.pu, .int .i64 h.br, .int .i64 h.dr, .int .i64 h.lv, .int .i64 h.dO, .int .i64 h.ld, .int .i64 h.qu]) := by rw [hw2]; exact Blk.putB_other (by omega) _ _ F0.out
      have F1 : Hid (Blk v_11 b2 [.int .i64 x.l.lo, .int .i64 x.l.hi, .int .i64 x.u.lo, .int .i64 x.u.hi]) := by rw [hw2]; exact Blk.putB_other (by omega) _ _ F1.out
      have G0 : Hid (Blk v_11 w.heap.size [.int .i64 h.fl, .int .i64 h.gp, .int .i64 h.ln, .int .i64 h.rf, .int .i64 h.sp, .int .i64 h.pu, .int .i64 h.br, .int .i64 h.dr, .int .i64 h.lv, .int .i64 h.dO, .int .i64 h.ld, .int .i64 h.qu]) := by rw [hw2]; exact G0.out.put _ rfl
      have G1 : Hid (Blk v_11 (w.heap.size + 1) [.int .i64 0, .int .i64 0, .int .i64 0, .int .i64 0]) := by rw [hw2]; exact Blk.putB_other (by omega) _ _ G1.out
      have FK : Hid (Keeps sb w v_11) := by rw [hw2]; exact FK.out.blw (below_putB (Below.refl w.heap.size _) (by omega) _ _) (Nat.le_refl _)
      clear hw2
      refine hK.out _ _ (by (try dsimp only); first | exact ⟨F0.out, F1.out⟩ | go_keep) (fun hHeld => ?_)
      clear hK K
      try simp only [Act.put, List.getElem_toArray, List.getElem_cons_succ, List.getElem_cons_zero, List.setIfInBounds_toArray, List.set_cons_zero, List.set_cons_succ]
      refine wpAnyH_ready (rs := [25]) (by kernel_rfl) (by simp) ?_
      refine (AllReadyH.cons rfl (fun K hK => ?_) AllReadyH.nil)
      have c0_ := G1.out.c 0 _ rfl
      have c1_ := G1.out.c 1 _ rfl
      have c2_ := G1.out.c 2 _ rfl
      have c3_ := G1.out.c 3 _ rfl
      have q0_ := G1.out.f 0 (Nat.le_of_ble_eq_true rfl)
      have q1_ := G1.out.f 1 (Nat.le_of_ble_eq_true rfl)
      have q2_ := G1.out.f 2 (Nat.le_of_ble_eq_true rfl)
      have q3_ := G1.out.f 3 (Nat.le_of_ble_eq_true rfl)
      go_simp
      obtain ⟨v_12, hw2⟩ : ∃ v_12, v_12 = putB v_11 (w.heap.size + 1) 0 [.int .i64 x.l.lo, .int .i64 x.l.hi, .int .i64 x.u.lo, .int .i64 x.u.hi] := ⟨_, rfl⟩
      change K _ (putB v_11 (w.heap.size + 1) 0 [.int .i64 x.l.lo, .int .i64 x.l.hi, .int .i64 x.u.lo, .int .i64 x.u.hi])
      rw [← hw2]
      clear c0_ q0_ c1_ q1_ c2_ q2_ c3_ q3_
      have F0 : Hid (Blk v_12 b1 [.int .i64 h.fl, .int .i64 h.gp, .int .i64 h.ln, .int .i64 h.rf, .int .i64 h.sp, .int .i64 h.pu, .int .i64 h.br, .int .i64 h.dr, .int .i64 h.lv, .int .i64 h.dO, .int .i64 h.ld, .int .i64 h.qu]) := by rw [hw2]; exact Blk.putB_other (by omega) _ _ F0.out
      have F1 : Hid (Blk v_12 b2 [.int .i64 x.l.lo, .int .i64 x.l.hi, .int .i64 x.u.lo, .int .i64 x.u.hi]) := by rw [hw2]; exact Blk.putB_other (by omega) _ _ F1.out
      have G0 : Hid (Blk v_12 w.heap.size [.int .i64 h.fl, .int .i64 h.gp, .int .i64 h.ln, .int .i64 h.rf, .int .i64 h.sp, .int .i64 h.pu, .int .i64 h.br, .int .i64 h.dr, .int .i64 h.lv, .int .i64 h.dO, .int .i64 h.ld, .int .i64 h.qu]) := by rw [hw2]; exact Blk.putB_other (by omega) _ _ G0.out
      have G1 : Hid (Blk v_12 (w.heap.size + 1) [.int .i64 x.l.lo, .int .i64 x.l.hi, .int .i64 x.u.lo, .int .i64 x.u.hi]) := by rw [hw2]; exact G1.out.put _ rfl
      have FK : Hid (Keeps sb w v_12) := by rw [hw2]; exact FK.out.blw (below_putB (Below.refl w.heap.size _) (by omega) _ _) (Nat.le_refl _)
      clear hw2
      refine hK.out _ _ (by (try dsimp only); first | exact ⟨F0.out, F1.out⟩ | go_keep) (fun hHeld => ?_)
      clear hK K
      try simp only [Act.put, List.getElem_toArray, List.getElem_cons_succ, List.getElem_cons_zero, List.setIfInBounds_toArray, List.set_cons_zero, List.set_cons_succ]
      refine tkz 26 rfl ?_
      refine tkz 27 rfl ?_
      refine wpAnyH_done (by kernel_rfl) ?_ _
      have d0_ := G0.out.c 0 _ rfl
      have d1_ := G0.out.c 1 _ rfl
      have d2_ := G0.out.c 2 _ rfl
      have d3_ := G0.out.c 3 _ rfl
      have d4_ := G0.out.c 4 _ rfl
      have d5_ := G0.out.c 5 _ rfl
      have d6_ := G0.out.c 6 _ rfl
      have d7_ := G0.out.c 7 _ rfl
      have d8_ := G0.out.c 8 _ rfl
      have d9_ := G0.out.c 9 _ rfl
      have d10_ := G0.out.c 10 _ rfl
      have d11_ := G0.out.c 11 _ rfl
      have k0_ := G1.out.c 0 _ rfl
      have k1_ := G1.out.c 1 _ rfl
      have k2_ := G1.out.c 2 _ rfl
      have k3_ := G1.out.c 3 _ rfl
      go_wp2_with fail
      exact bodyPost_ret (v := .tuple #[.agg #[.int .i64 h.fl, .int .i64 h.gp, .int .i64 h.ln, .int .i64 h.rf, .int .i64 h.sp, .int .i64 h.pu, .int .i64 h.br, .int .i64 h.dr, .int .i64 h.lv, .int .i64 h.dO, .int .i64 h.ld, .int .i64 h.qu], .agg #[.int .i64 x.l.lo, .int .i64 x.l.hi, .int .i64 x.u.lo, .int .i64 x.u.hi], .int .i64 p, .int .i64 q]) (by simp [results, Try.results7, go_sem, d0_, d1_, d2_, d3_, d4_, d5_, d6_, d7_, d8_, d9_, d10_, d11_, k0_, k1_, k2_, k3_]) rfl ⟨h, x, p, q, rfl, FK.out.below (by omega) (Nat.le_refl _)⟩
  · go_simp
    obtain ⟨lb22, hbb⟩ : ∃ lb22, lb22 = v_1.heap.size := ⟨_, rfl⟩
    obtain ⟨v_13, hw2⟩ : ∃ v_13, v_13 = v_1.alloc (.cells #[.int .i64 y1, .int .i64 y2, .int .i64 y1, .int .i64 h.fl, .int .i64 xa, .int .i64 (h.fl + 1)] 2) := ⟨_, rfl⟩
    have nlb22_0 := F0.out.lt
    rw [← hbb] at nlb22_0
    have nlb22_1 := F1.out.lt
    rw [← hbb] at nlb22_1
    have nlb22_2 := G0.out.lt
    rw [← hbb] at nlb22_2
    have nlb22_3 := G1.out.lt
    rw [← hbb] at nlb22_3
    have nlb22_s := FS.out.lt
    rw [← hbb] at nlb22_s
    have FL22 : Hid (LstAt v_13 lb22 [y1, y2, y1, h.fl, xa, (h.fl + 1)]) := by rw [hw2]; exact LstAt.new v_1 [y1, y2, y1, h.fl, xa, (h.fl + 1)] 2 lb22 hbb (by simp)
    have F0 : Hid (Blk v_13 b1 [.int .i64 h.fl, .int .i64 h.gp, .int .i64 h.ln, .int .i64 h.rf, .int .i64 h.sp, .int .i64 h.pu, .int .i64 h.br, .int .i64 h.dr, .int .i64 h.lv, .int .i64 h.dO, .int .i64 h.ld, .int .i64 h.qu]) := by rw [hw2]; exact F0.out.alloc _
    have F1 : Hid (Blk v_13 b2 [.int .i64 x.l.lo, .int .i64 x.l.hi, .int .i64 x.u.lo, .int .i64 x.u.hi]) := by rw [hw2]; exact F1.out.alloc _
    have G0 : Hid (Blk v_13 w.heap.size [.int .i64 0, .int .i64 0, .int .i64 0, .int .i64 0, .int .i64 0, .int .i64 0, .int .i64 0, .int .i64 0, .int .i64 0, .int .i64 0, .int .i64 0, .int .i64 0]) := by rw [hw2]; exact G0.out.alloc _
    have G1 : Hid (Blk v_13 (w.heap.size + 1) [.int .i64 0, .int .i64 0, .int .i64 0, .int .i64 0]) := by rw [hw2]; exact G1.out.alloc _
    have FS : Hid (SrcT v_13 sb w.heap.size a len cap (0 + 40 + 10 + 1)) := by rw [hw2]; exact FS.out.alloc _
    have FK : Hid (Keeps sb w v_13) := by rw [hw2]; exact FK.out.alloc _
    rw [← hw2, ← hbb]
    clear hbb hw2
    refine hK.out _ _ (by (try dsimp only); first | exact ⟨F0.out, F1.out⟩ | go_keep) (fun hHeld => ?_)
    clear hK K
    try simp only [Act.put, List.getElem_toArray, List.getElem_cons_succ, List.getElem_cons_zero, List.setIfInBounds_toArray, List.set_cons_zero, List.set_cons_succ]
    refine wpAnyH_ready (rs := [7]) (by kernel_rfl) (by simp) ?_
    refine (AllReadyH.cons rfl (fun K hK => ?_) AllReadyH.nil)
    go_simp
    obtain ⟨lb7, hbb⟩ : ∃ lb7, lb7 = v_13.heap.size := ⟨_, rfl⟩
    obtain ⟨v_14, hw2⟩ : ∃ v_14, v_14 = v_13.alloc (.cells #[.int .i64 xa, .int .i64 xa, .int .i64 xa, .int .i64 xa, .int .i64 (-2)] 2) := ⟨_, rfl⟩
    have nlb7_0 := F0.out.lt
    rw [← hbb] at nlb7_0
    have nlb7_1 := F1.out.lt
    rw [← hbb] at nlb7_1
    have nlb7_2 := G0.out.lt
    rw [← hbb] at nlb7_2
    have nlb7_3 := G1.out.lt
    rw [← hbb] at nlb7_3
    have nlb7_s := FS.out.lt
    rw [← hbb] at nlb7_s
    have nlb7_6 := FL22.out.lt
    rw [← hbb] at nlb7_6
    have FL7 : Hid (LstAt v_14 lb7 [xa, xa, xa, xa, (-2)]) := by rw [hw2]; exact LstAt.new v_13 [xa, xa, xa, xa, (-2)] 2 lb7 hbb (by simp)
    have F0 : Hid (Blk v_14 b1 [.int .i64 h.fl, .int .i64 h.gp, .int .i64 h.ln, .int .i64 h.rf, .int .i64 h.sp, .int .i64 h.pu, .int .i64 h.br, .int .i64 h.dr, .int .i64 h.lv, .int .i64 h.dO, .int .i64 h.ld, .int .i64 h.qu]) := by rw [hw2]; exact F0.out.alloc _
    have F1 : Hid (Blk v_14 b2 [.int .i64 x.l.lo, .int .i64 x.l.hi, .int .i64 x.u.lo, .int .i64 x.u.hi]) := by rw [hw2]; exact F1.out.alloc _
    have G0 : Hid (Blk v_14 w.heap.size [.int .i64 0, .int .i64 0, .int .i64 0, .int .i64 0, .int .i64 0, .int .i64 0, .int .i64 0, .int .i64 0, .int .i64 0, .int .i64 0, .int .i64 0, .int .i64 0]) := by rw [hw2]; exact G0.out.alloc _
    have G1 : Hid (Blk v_14 (w.heap.size + 1) [.int .i64 0, .int .i64 0, .int .i64 0, .int .i64 0]) := by rw [hw2]; exact G1.out.alloc _
    have FS : Hid (SrcT v_14 sb w.heap.size a len cap (0 + 40 + 10 + 1)) := by rw [hw2]; exact FS.out.alloc _
    have FK : Hid (Keeps sb w v_14) := by rw [hw2]; exact FK.out.alloc _
    have FL22 : Hid (LstAt v_14 lb22 [y1, y2, y1, h.fl, xa, (h.fl + 1)]) := by rw [hw2]; exact FL22.out.alloc _
    rw [← hw2, ← hbb]
    clear hbb hw2
    refine hK.out _ _ (by (try dsimp only); first | exact ⟨F0.out, F1.out⟩ | go_keep) (fun hHeld => ?_)
    clear hK K
    try simp only [Act.put, List.getElem_toArray, List.getElem_cons_succ, List.getElem_cons_zero, List.setIfInBounds_toArray, List.set_cons_zero, List.set_cons_succ]
    refine wpAnyH_ready (rs := [8]) (by kernel_rfl) (by simp) ?_
    refine (AllReadyH.cons rfl (fun K hK => ?_) AllReadyH.nil)
    go_simp
    refine (l1Pick_t sb _ lb7 [xa, xa, xa, xa, (-2)] (fun _ => True) (fun _ _ => trivial) a len cap _ _ FS.out (by omega) FL7.out (by simp) (by omega)).mono ?_
    rintro e v_15 ⟨p, rfl, -, hs, hk⟩
    have F0 : Hid (Blk v_15 b1 [.int .i64 h.fl, .int .i64 h.gp, .int .i64 h.ln, .int .i64 h.rf, .int .i64 h.sp, .int .i64 h.pu, .int .i64 h.br, .int .i64 h.dr, .int .i64 h.lv, .int .i64 h.dO, .int .i64 h.ld, .int .i64 h.qu]) := F0.out.keeps hk (by omega)
    have F1 : Hid (Blk v_15 b2 [.int .i64 x.l.lo, .int .i64 x.l.hi, .int .i64 x.u.lo, .int .i64 x.u.hi]) := F1.out.keeps hk (by omega)
    have G0 : Hid (Blk v_15 w.heap.size [.int .i64 0, .int .i64 0, .int .i64 0, .int .i64 0, .int .i64 0, .int .i64 0, .int .i64 0, .int .i64 0, .int .i64 0, .int .i64 0, .int .i64 0, .int .i64 0]) := G0.out.keeps hk (by omega)
    have G1 : Hid (Blk v_15 (w.heap.size + 1) [.int .i64 0, .int .i64 0, .int .i64 0, .int .i64 0]) := G1.out.keeps hk (by omega)
    have FS : Hid (SrcT v_15 sb w.heap.size a len cap ((0 + 40 + 10 + 1) + 1)) := hs
    have FK : Hid (Keeps sb w v_15) := FK.out.trans hk
    have FL22 : Hid (LstAt v_15 lb22 [y1, y2, y1, h.fl, xa, (h.fl + 1)]) := FL22.out.keeps hk (by omega)
    have FL7 : Hid (LstAt v_15 lb7 [xa, xa, xa, xa, (-2)]) := FL7.out.keeps hk (by omega)
    clear hs hk
    try dsimp only
    refine hK.out _ _ (by (try dsimp only); first | exact ⟨F0.out, F1.out⟩ | go_keep) (fun hHeld => ?_)
    clear hK K
    try simp only [Act.put, List.getElem_toArray, List.getElem_cons_succ, List.getElem_cons_zero, List.setIfInBounds_toArray, List.set_cons_zero, List.set_cons_succ]
    refine wpAnyH_ready (rs := [23]) (by kernel_rfl) (by simp) ?_
    refine (AllReadyH.cons rfl (fun K hK => ?_) AllReadyH.nil)
    go_simp
    refine (l1Pick_t sb _ lb22 [y1, y2, y1, h.fl, xa, (h.fl + 1)] (fun _ => True) (fun _ _ => trivial) a len cap _ _ FS.out (by omega) FL22.out (by simp) (by omega)).mono ?_
    rintro e v_16 ⟨q, rfl, -, hs, hk⟩
    have F0 : Hid (Blk v_16 b1 [.int .i64 h.fl, .int .i64 h.gp, .int .i64 h.ln, .int .i64 h.rf, .int .i64 h.sp, .int .i64 h.pu, .int .i64 h.br, .int .i64 h.dr, .int .i64 h.lv, .int .i64 h.dO, .int .i64 h.ld, .int .i64 h.qu]) := F0.out.keeps hk (by omega)
    have F1 : Hid (Blk v_16 b2 [.int .i64 x.l.lo, .int .i64 x.l.hi, .int .i64 x.u.lo, .int .i64 x.u.hi]) := F1.out.keeps hk (by omega)
    have G0 : Hid (Blk v_16 w.heap.size [.int .i64 0, .int .i64 0, .int .i64 0, .int .i64 0, .int .i64 0, .int .i64 0, .int .i64 0, .int .i64 0, .int .i64 0, .int .i64 0, .int .i64 0, .int .i64 0]) := G0.out.keeps hk (by omega)
    have G1 : Hid (Blk v_16 (w.heap.size + 1) [.int .i64 0, .int .i64 0, .int .i64 0, .int .i64 0]) := G1.out.keeps hk (by omega)
    have FS : Hid (SrcT v_16 sb w.heap.size a len cap (((0 + 40 + 10 + 1) + 1) + 1)) := hs
    have FK : Hid (Keeps sb w v_16) := FK.out.trans hk
    have FL22 : Hid (LstAt v_16 lb22 [y1, y2, y1, h.fl, xa, (h.fl + 1)]) := FL22.out.keeps hk (by omega)
    have FL7 : Hid (LstAt v_16 lb7 [xa, xa, xa, xa, (-2)]) := FL7.out.keeps hk (by omega)
    clear hs hk
    try dsimp only
    refine hK.out _ _ (by (try dsimp only); first | exact ⟨F0.out, F1.out⟩ | go_keep) (fun hHeld => ?_)
    clear hK K
    try simp only [Act.put, List.getElem_toArray, List.getElem_cons_succ, List.getElem_cons_zero, List.setIfInBounds_toArray, List.set_cons_zero, List.set_cons_succ]
    refine wpAnyH_ready (rs := [24]) (by kernel_rfl) (by simp) ?_
    refine (AllReadyH.cons rfl (fun K hK => ?_) AllReadyH.nil)
    have c0_ := G0.out.c 0 _ rfl
    have c1_ := G0.out.c 1 _ rfl
    have c2_ := G0.out.c 2 _ rfl
    have c3_ := G0.out.c 3 _ rfl
    have c4_ := G0.out.c 4 _ rfl
    have c5_ := G0.out.c 5 _ rfl
    have c6_ := G0.out.c 6 _ rfl
    have c7_ := G0.out.c 7 _ rfl
    have c8_ := G0.out.c 8 _ rfl
    have c9_ := G0.out.c 9 _ rfl
    have c10_ := G0.out.c 10 _ rfl
    have c11_ := G0.out.c 11 _ rfl
    have q0_ := G0.out.f 0 (Nat.le_of_ble_eq_true rfl)
    have q1_ := G0.out.f 1 (Nat.le_of_ble_eq_true rfl)
    have q2_ := G0.out.f 2 (Nat.le_of_ble_eq_true rfl)
    have q3_ := G0.out.f 3 (Nat.le_of_ble_eq_true rfl)
    have q4_ := G0.out.f 4 (Nat.le_of_ble_eq_true rfl)
    have q5_ := G0.out.f 5 (Nat.le_of_ble_eq_true rfl)
    have q6_ := G0.out.f 6 (Nat.le_of_ble_eq_true rfl)
    have q7_ := G0.out.f 7 (Nat.le_of_ble_eq_true rfl)
    have q8_ := G0.out.f 8 (Nat.le_of_ble_eq_true rfl)
    have q9_ := G0.out.f 9 (Nat.le_of_ble_eq_true rfl)
    have q10_ := G0.out.f 10 (Nat.le_of_ble_eq_true rfl)
    have q11_ := G0.out.f 11 (Nat.le_of_ble_eq_true rfl)
    go_simp
    obtain ⟨v_17, hw2⟩ : ∃ v_17, v_17 = putB v_16 w.heap.size 0 [.int .i64 h.fl, .int .i64 h.gp, .int .i64 h.ln, .int .i64 h.rf, .int .i64 h.sp, .int .i64 h.pu, .int .i64 h.br, .int .i64 h.dr, .int .i64 h.lv, .int .i64 h.dO, .int .i64 h.ld, .int .i64 h.qu] := ⟨_, rfl⟩
    change K _ (putB v_16 w.heap.size 0 [.int .i64 h.fl, .int .i64 h.gp, .int .i64 h.ln, .int .i64 h.rf, .int .i64 h.sp, .int .i64 h.pu, .int .i64 h.br, .int .i64 h.dr, .int .i64 h.lv, .int .i64 h.dO, .int .i64 h.ld, .int .i64 h.qu])
    rw [← hw2]
    clear c0_ q0_ c1_ q1_ c2_ q2_ c3_ q3_ c4_ q4_ c5_ q5_ c6_ q6_ c7_ q7_ c8_ q8_ c9_ q9_ c10_ q10_ c11_ q11_
    have F0 : Hid (Blk v_17 b1 [.int .i64 h.fl, .int .i64 h.gp, .int .i64 h.ln, .int .i64 h.rf, .int .i64 h.sp, .int .i64 h.pu, .int .i64 h.br, .int .i64 h.dr, .int .i64 h.lv, .int .i64 h.dO, .int .i64 h.ld, .int .i64 h.qu]) := by rw [hw2]; exact Blk.putB_other (by omega) _ _ F0.out
    have F1 : Hid (Blk v_17 b2 [.int .i64 x.l.lo, .int .i64 x.l.hi, .int .i64 x.u.lo, .int .i64 x.u.hi]) := by rw [hw2]; exact Blk.putB_other (by omega) _ _ F1.out
    have G0 : Hid (Blk v_17 w.heap.size [.int .i64 h.fl, .int .i64 h.gp, .int .i64 h.ln, .int .i64 h.rf, .int .i64 h.sp, .int .i64 h.pu, .int .i64 h.br, .int .i64 h.dr, .int .i64 h.lv, .int .i64 h.dO, .int .i64 h.ld, .int .i64 h.qu]) := by rw [hw2]; exact G0.out.put _ rfl
    have G1 : Hid (Blk v_17 (w.heap.size + 1) [.int .i64 0, .int .i64 0, .int .i64 0, .int .i64 0]) := by rw [hw2]; exact Blk.putB_other (by omega) _ _ G1.out
    have FK : Hid (Keeps sb w v_17) := by rw [hw2]; exact FK.out.blw (below_putB (Below.refl w.heap.size _) (by omega) _ _) (Nat.le_refl _)
    clear hw2
    refine hK.out _ _ (by (try dsimp only); first | exact ⟨F0.out, F1.out⟩ | go_keep) (fun hHeld => ?_)
    clear hK K
    try simp only [Act.put, List.getElem_toArray, List.getElem_cons_succ, List.getElem_cons_zero, List.setIfInBounds_toArray, List.set_cons_zero, List.set_cons_succ]
    refine wpAnyH_ready (rs := [25]) (by kernel_rfl) (by simp) ?_
    refine (AllReadyH.cons rfl (fun K hK => ?_) AllReadyH.nil)
    have c0_ := G1.out.c 0 _ rfl
    have c1_ := G1.out.c 1 _ rfl
    have c2_ := G1.out.c 2 _ rfl
    have c3_ := G1.out.c 3 _ rfl
    have q0_ := G1.out.f 0 (Nat.le_of_ble_eq_true rfl)
    have q1_ := G1.out.f 1 (Nat.le_of_ble_eq_true rfl)
    have q2_ := G1.out.f 2 (Nat.le_of_ble_eq_true rfl)
    have q3_ := G1.out.f 3 (Nat.le_of_ble_eq_true rfl)
    go_simp
    obtain ⟨v_18, hw2⟩ : ∃ v_18, v_18 = putB v_17 (w.heap.size + 1) 0 [.int .i64 x.l.lo, .int .i64 x.l.hi, .int .i64 x.u.lo, .int .i64 x.u.hi] := ⟨_, rfl⟩
    change K _ (putB v_17 (w.heap.size + 1) 0 [.int .i64 x.l.lo, .int .i64 x.l.hi, .int .i64 x.u.lo, .int .i64 x.u.hi])
    rw [← hw2]
    clear c0_ q0_ c1_ q1_ c2_ q2_ c3_ q3_
    have F0 : Hid (Blk v_18 b1 [.int .i64 h.fl, .int .i64 h.gp, .int .i64 h.ln, .int .i64 h.rf, .int .i64 h.sp, .int .i64 h.pu, .int .i64 h.br, .int .i64 h.dr, .int .i64 h.lv, .int .i64 h.dO, .int .i64 h.ld, .int .i64 h.qu]) := by rw [hw2]; exact Blk.putB_other (by omega) _ _ F0.out
    have F1 : Hid (Blk v_18 b2 [.int .i64 x.l.lo, .int .i64 x.l.hi, .int .i64 x.u.lo, .int .i64 x.u.hi]) := by rw [hw2]; exact Blk.putB_other (by omega) _ _ F1.out
    have G0 : Hid (Blk v_18 w.heap.size [.int .i64 h.fl, .int .i64 h.gp, .int .i64 h.ln, .int .i64 h.rf, .int .i64 h.sp, .int .i64 h.pu, .int .i64 h.br, .int .i64 h.dr, .int .i64 h.lv, .int .i64 h.dO, .int .i64 h.ld, .int .i64 h.qu]) := by rw [hw2]; exact Blk.putB_other (by omega) _ _ G0.out
    have G1 : Hid (Blk v_18 (w.heap.size + 1) [.int .i64 x.l.lo, .int .i64 x.l.hi, .int .i64 x.u.lo, .int .i64 x.u.hi]) := by rw [hw2]; exact G1.out.put _ rfl
    have FK : Hid (Keeps sb w v_18) := by rw [hw2]; exact FK.out.blw (below_putB (Below.refl w.heap.size _) (by omega) _ _) (Nat.le_refl _)
    clear hw2
    refine hK.out _ _ (by (try dsimp only); first | exact ⟨F0.out, F1.out⟩ | go_keep) (fun hHeld => ?_)
    clear hK K
    try simp only [Act.put, List.getElem_toArray, List.getElem_cons_succ, List.getElem_cons_zero, List.setIfInBounds_toArray, List.set_cons_zero, List.set_cons_succ]
    refine tkz 26 rfl ?_
    refine tkz 27 rfl ?_
    refine wpAnyH_done (by kernel_rfl) ?_ _
    have d0_ := G0.out.c 0 _ rfl
    have d1_ := G0.out.c 1 _ rfl
    have d2_ := G0.out.c 2 _ rfl
    have d3_ := G0.out.c 3 _ rfl
    have d4_ := G0.out.c 4 _ rfl
    have d5_ := G0.out.c 5 _ rfl
    have d6_ := G0.out.c 6 _ rfl
    have d7_ := G0.out.c 7 _ rfl
    have d8_ := G0.out.c 8 _ rfl
    have d9_ := G0.out.c 9 _ rfl
    have d10_ := G0.out.c 10 _ rfl
    have d11_ := G0.out.c 11 _ rfl
    have k0_ := G1.out.c 0 _ rfl
    have k1_ := G1.out.c 1 _ rfl
    have k2_ := G1.out.c 2 _ rfl
    have k3_ := G1.out.c 3 _ rfl
    go_wp2_with fail
    exact bodyPost_ret (v := .tuple #[.agg #[.int .i64 h.fl, .int .i64 h.gp, .int .i64 h.ln, .int .i64 h.rf, .int .i64 h.sp, .int .i64 h.pu, .int .i64 h.br, .int .i64 h.dr, .int .i64 h.lv, .int .i64 h.dO, .int .i64 h.ld, .int .i64 h.qu], .agg #[.int .i64 x.l.lo, .int .i64 x.l.hi, .int .i64 x.u.lo, .int .i64 x.u.hi], .int .i64 p, .int .i64 q]) (by simp [results, Try.results7, go_sem, d0_, d1_, d2_, d3_, d4_, d5_, d6_, d7_, d8_, d9_, d10_, d11_, k0_, k1_, k2_, k3_]) rfl ⟨h, x, p, q, rfl, FK.out.below (by omega) (Nat.le_refl _)⟩
set_option maxRecDepth 20000 in
set_option maxHeartbeats 16000000 in
theorem DrawSafeSpans_any (a : Option Addr) (len cap : Nat) (w : World) (hc : CodeIn w w.heap.size a len) :
    Calls Try.prog 16 #[.slice a len cap] w fun e w' => ∃ (h : Hs) (x : Ss) (p q : Int), e = .returned (.tuple #[.agg #[.int .i64 h.fl, .int .i64 h.gp, .int .i64 h.ln, .int .i64 h.rf, .int .i64 h.sp, .int .i64 h.pu, .int .i64 h.br, .int .i64 h.dr, .int .i64 h.lv, .int .i64 h.dO, .int .i64 h.ld, .int .i64 h.qu], .agg #[.int .i64 x.l.lo, .int .i64 x.l.hi, .int .i64 x.u.lo, .int .i64 x.u.hi], .int .i64 p, .int .i64 q]) ∧ Below w.heap.size w w' := by
  obtain ⟨W0, hW0⟩ : ∃ W0, W0 = ((w.alloc (.cells #[.int .i64 0, .int .i64 0, .int .i64 0, .int .i64 0, .int .i64 0, .int .i64 0, .int .i64 0, .int .i64 0, .int .i64 0, .int .i64 0, .int .i64 0, .int .i64 0] 25)).alloc (.cells #[.int .i64 0, .int .i64 0, .int .i64 0, .int .i64 0] 29)) := ⟨_, rfl⟩
  have HB : Hid (Below w.heap.size w W0) := by rw [hW0]; exact ((Below.refl _ _).alloc (Nat.le_refl _) _).alloc (by simp) _
  have HC : Hid (CodeIn W0 W0.heap.size a len) := codeIn_monoQ (hc.keep fun b off _ hb => by rw [hW0]; exact (World.cell?_alloc_past _ _ _ (by simp; omega)).trans (World.cell?_alloc_past _ _ _ hb)) HB.out.size
  have G0 : Hid (Blk W0 w.heap.size [.int .i64 0, .int .i64 0, .int .i64 0, .int .i64 0, .int .i64 0, .int .i64 0, .int .i64 0, .int .i64 0, .int .i64 0, .int .i64 0, .int .i64 0, .int .i64 0]) := by rw [hW0]; exact (Blk.at_ w _ _ _ rfl).alloc _
  have G1 : Hid (Blk W0 (w.heap.size + 1) [.int .i64 0, .int .i64 0, .int .i64 0, .int .i64 0]) := by rw [hW0]; exact Blk.at_ _ _ _ _ (by simp)
  have HW0 : Hid (W0 = ((w.alloc (.cells #[.int .i64 0, .int .i64 0, .int .i64 0, .int .i64 0, .int .i64 0, .int .i64 0, .int .i64 0, .int .i64 0, .int .i64 0, .int .i64 0, .int .i64 0, .int .i64 0] 25)).alloc (.cells #[.int .i64 0, .int .i64 0, .int .i64 0, .int .i64 0] 29))) := hW0
  clear hW0 hc
  go_enter Try.func16, Try.ntmps16
  go_wp2_with fail
  rw [← HW0.out]
  clear HW0
  refine (DrawExtendSpans_any a len cap _ HC.out).mono ?_
  rintro e w2 ⟨h, x, p, q, rfl, hb⟩
  have G0 : Hid (Blk w2 w.heap.size [.int .i64 0, .int .i64 0, .int .i64 0, .int .i64 0, .int .i64 0, .int .i64 0, .int .i64 0, .int .i64 0, .int .i64 0, .int .i64 0, .int .i64 0, .int .i64 0]) := G0.out.below hb G0.out.lt
  have G1 : Hid (Blk w2 (w.heap.size + 1) [.int .i64 0, .int .i64 0, .int .i64 0, .int .i64 0]) := G1.out.below hb G1.out.lt
  have FB : Hid (Below w.heap.size w w2) := HB.out.trans (hb.mono HB.out.size)
  clear hb HB HC
  have G2 : Hid (Blk (w2.setRow w.heap.size [.int .i64 h.fl, .int .i64 h.gp, .int .i64 h.ln, .int .i64 h.rf, .int .i64 h.sp, .int .i64 h.pu, .int .i64 h.br, .int .i64 h.dr, .int .i64 h.lv, .int .i64 h.dO, .int .i64 h.ld, .int .i64 h.qu].toArray) (w.heap.size + 1) [.int .i64 0, .int .i64 0, .int .i64 0, .int .i64 0]) := G1.out.row_other (by omega) _
  go_wp2_with (first | (refine store_blk [.int .i64 h.fl, .int .i64 h.gp, .int .i64 h.ln, .int .i64 h.rf, .int .i64 h.sp, .int .i64 h.pu, .int .i64 h.br, .int .i64 h.dr, .int .i64 h.lv, .int .i64 h.dO, .int .i64 h.ld, .int .i64 h.qu] 25 _ _ (by kernel_rfl) (by kernel_rfl) (by kernel_rfl) G0.out rfl rfl rfl rfl ?_) | (refine store_blk [.int .i64 x.l.lo, .int .i64 x.l.hi, .int .i64 x.u.lo, .int .i64 x.u.hi] 29 _ _ (by kernel_rfl) (by kernel_rfl) (by kernel_rfl) G2.out rfl rfl rfl rfl ?_))
  have H0 : Blk ((w2.setRow w.heap.size [.int .i64 h.fl, .int .i64 h.gp, .int .i64 h.ln, .int .i64 h.rf, .int .i64 h.sp, .int .i64 h.pu, .int .i64 h.br, .int .i64 h.dr, .int .i64 h.lv, .int .i64 h.dO, .int .i64 h.ld, .int .i64 h.qu].toArray).setRow (w.heap.size + 1) [.int .i64 x.l.lo, .int .i64 x.l.hi, .int .i64 x.u.lo, .int .i64 x.u.hi].toArray) w.heap.size [.int .i64 h.fl, .int .i64 h.gp, .int .i64 h.ln, .int .i64 h.rf, .int .i64 h.sp, .int .i64 h.pu, .int .i64 h.br, .int .i64 h.dr, .int .i64 h.lv, .int .i64 h.dO, .int .i64 h.ld, .int .i64 h.qu] := (G0.out.row _).row_other (by omega) _
  have H1 : Blk ((w2.setRow w.heap.size [.int .i64 h.fl, .int .i64 h.gp, .int .i64 h.ln, .int .i64 h.rf, .int .i64 h.sp, .int .i64 h.pu, .int .i64 h.br, .int .i64 h.dr, .int .i64 h.lv, .int .i64 h.dO, .int .i64 h.ld, .int .i64 h.qu].toArray).setRow (w.heap.size + 1) [.int .i64 x.l.lo, .int .i64 x.l.hi, .int .i64 x.u.lo, .int .i64 x.u.hi].toArray) (w.heap.size + 1) [.int .i64 x.l.lo, .int .i64 x.l.hi, .int .i64 x.u.lo, .int .i64 x.u.hi] := G2.out.row _
  have H2 : Below w.heap.size w ((w2.setRow w.heap.size [.int .i64 h.fl, .int .i64 h.gp, .int .i64 h.ln, .int .i64 h.rf, .int .i64 h.sp, .int .i64 h.pu, .int .i64 h.br, .int .i64 h.dr, .int .i64 h.lv, .int .i64 h.dO, .int .i64 h.ld, .int .i64 h.qu].toArray).setRow (w.heap.size + 1) [.int .i64 x.l.lo, .int .i64 x.l.hi, .int .i64 x.u.lo, .int .i64 x.u.hi].toArray) := below_row (below_row FB.out (Nat.le_refl _) _) (by omega) _
  obtain ⟨Wf, hWf⟩ : ∃ Wf, (w2.setRow w.heap.size [.int .i64 h.fl, .int .i64 h.gp, .int .i64 h.ln, .int .i64 h.rf, .int .i64 h.sp, .int .i64 h.pu, .int .i64 h.br, .int .i64 h.dr, .int .i64 h.lv, .int .i64 h.dO, .int .i64 h.ld, .int .i64 h.qu].toArray).setRow (w.heap.size + 1) [.int .i64 x.l.lo, .int .i64 x.l.hi, .int .i64 x.u.lo, .int .i64 x.u.hi].toArray = Wf := ⟨_, rfl⟩
  rw [hWf] at H0 H1 H2 ⊢
  have d0_ := H0.c 0 _ rfl
  have d1_ := H0.c 1 _ rfl
  have d2_ := H0.c 2 _ rfl
  have d3_ := H0.c 3 _ rfl
  have d4_ := H0.c 4 _ rfl
  have d5_ := H0.c 5 _ rfl
  have d6_ := H0.c 6 _ rfl
  have d7_ := H0.c 7 _ rfl
  have d8_ := H0.c 8 _ rfl
  have d9_ := H0.c 9 _ rfl
  have d10_ := H0.c 10 _ rfl
  have d11_ := H0.c 11 _ rfl
  have k0_ := H1.c 0 _ rfl
  have k1_ := H1.c 1 _ rfl
  have k2_ := H1.c 2 _ rfl
  have k3_ := H1.c 3 _ rfl
  exact bodyPost_ret (v := .tuple #[.agg #[.int .i64 h.fl, .int .i64 h.gp, .int .i64 h.ln, .int .i64 h.rf, .int .i64 h.sp, .int .i64 h.pu, .int .i64 h.br, .int .i64 h.dr, .int .i64 h.lv, .int .i64 h.dO, .int .i64 h.ld, .int .i64 h.qu], .agg #[.int .i64 x.l.lo, .int .i64 x.l.hi, .int .i64 x.u.lo, .int .i64 x.u.hi], .int .i64 p, .int .i64 q]) (by simp [results, Try.results16, go_sem, d0_, d1_, d2_, d3_, d4_, d5_, d6_, d7_, d8_, d9_, d10_, d11_, k0_, k1_, k2_, k3_]) rfl (by first | exact ⟨h, x, p, q, rfl, H2⟩ | exact ⟨⟨h, x, p, q, rfl⟩, H2⟩)
end Go.Proofs.Ytpfihpplpefikaa
