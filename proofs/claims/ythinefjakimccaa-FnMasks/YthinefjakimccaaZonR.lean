/-
  Zones: what the bytes draw.
-/
import Derived.Test.YthinefjakimccaaGnr
import Derived.Test.YthinefjakimccaaCarS
import Derived.Test.YthinefjakimccaaZonQ
import Derived.Deep.DeepCutAuto
namespace Go.Proofs.Ythinefjakimccaa
open Go.RowKit Pl
set_option linter.unusedSimpArgs false
set_option linter.unusedVariables false

set_option maxRecDepth 20000 in
set_option maxHeartbeats 16000000 in
theorem l12Mask_t (h : Hs) (f1 : 1 ≤ h.fl) (f2 : h.fl ≤ 13) (sb B : Nat) (a : Option Addr) (len cap T : Nat) (w : World) (hS : SrcT w sb B a len cap T) (hT : T ≤ 800000) :
    Calls Try.prog 35 #[.pointer (some ⟨sb, 0, none⟩), .agg #[.int .i64 h.fl, .int .i64 h.gp, .int .i64 h.ln, .int .i64 h.rf, .int .i64 h.sp, .int .i64 h.pu, .int .i64 h.br, .int .i64 h.dr, .int .i64 h.lv, .int .i64 h.dO, .int .i64 h.ld, .int .i64 h.qu]] w fun e w' => ∃ m : Int, e = .returned (.int .i64 m) ∧ SrcT w' sb B a len cap (T + 4) ∧ Keeps sb w w' := by
  obtain ⟨fl, gp, ln, rf, sp, pu, br, dr, lv, dO, ld, qu⟩ := h
  dsimp only at f1 f2
  have lsb := hS.lt
  obtain ⟨b0, hb0⟩ : ∃ b0, b0 = w.heap.size := ⟨_, rfl⟩
  obtain ⟨W0, hW0⟩ : ∃ W0, W0 = w.alloc (.cells #[.int .i64 fl, .int .i64 gp, .int .i64 ln, .int .i64 rf, .int .i64 sp, .int .i64 pu, .int .i64 br, .int .i64 dr, .int .i64 lv, .int .i64 dO, .int .i64 ld, .int .i64 qu] 28) := ⟨_, rfl⟩
  have F0 : Hid (Blk W0 b0 [.int .i64 fl, .int .i64 gp, .int .i64 ln, .int .i64 rf, .int .i64 sp, .int .i64 pu, .int .i64 br, .int .i64 dr, .int .i64 lv, .int .i64 dO, .int .i64 ld, .int .i64 qu]) := by rw [hW0]; exact Blk.at_ _ #[.int .i64 fl, .int .i64 gp, .int .i64 ln, .int .i64 rf, .int .i64 sp, .int .i64 pu, .int .i64 br, .int .i64 dr, .int .i64 lv, .int .i64 dO, .int .i64 ld, .int .i64 qu] _ _ hb0
  have FS : Hid (SrcT W0 sb B a len cap T) := by rw [hW0]; exact hS.alloc _
  have FK : Hid (Keeps sb w W0) := by rw [hW0]; exact (Keeps.refl _ _).alloc _
  have nb0 : sb < b0 := by omega
  clear hS
  go_enter Try.func35, Try.ntmps35
  go_upto_region 1 with fail
  rw [← hb0, ← hW0]
  clear hb0 hW0
  go_cut [5] from 6 to 30 (fun v wx => ∃ tp : Int, v = .int .i64 tp ∧ 1 ≤ tp ∧ tp ≤ 8191 ∧ wx = W0)
  case first =>
    have c0 := F0.out.c 0 _ rfl
    clear FS FK
    rcases (show fl = 1 ∨ fl = 2 ∨ fl = 3 ∨ fl = 4 ∨ fl = 5 ∨ fl = 6 ∨ fl = 7 ∨ fl = 8 ∨ fl = 9 ∨ fl = 10 ∨ fl = 11 ∨ fl = 12 ∨ fl = 13 by omega) with rfl | rfl | rfl | rfl | rfl | rfl | rfl | rfl | rfl | rfl | rfl | rfl | rfl
    all_goals
      go_wp2_with (first | (go_at_call 64; refine (l1Min_any _ _ _).mono ?_; rintro e w' ⟨rfl, rfl⟩) | (go_at_call 63; refine (l1Max_any _ _ _).mono ?_; rintro e w' ⟨rfl, rfl⟩))
      go_meet
      case rel => exact ⟨_, rfl, by decide +kernel, by decide +kernel, rfl⟩
  case rest =>
  obtain ⟨tp, rfl, t1, t2, hw_⟩ := hcut
  obtain rfl := hw_.symm
  clear hw_
  go_wp2_with (first | (go_at_call 37; (fail_if_success have := G1); refine (l1Next_tW sb B a len cap T (tp + 1) _ FS.out (by omega) (by omega) (by omega)).mono ?_; rintro e w1 ⟨v1, rfl, -, hs, hk⟩; have F0 : Hid (Blk w1 b0 [.int .i64 fl, .int .i64 gp, .int .i64 ln, .int .i64 rf, .int .i64 sp, .int .i64 pu, .int .i64 br, .int .i64 dr, .int .i64 lv, .int .i64 dO, .int .i64 ld, .int .i64 qu]) := F0.out.keeps hk (by omega); have FS : Hid (SrcT w1 sb B a len cap (T + 1)) := hs; have FK : Hid (Keeps sb w w1) := FK.out.trans hk; clear hs hk; have G1 := trivial) | (go_at_call 37; (fail_if_success have := G2); refine (l1Next_tW sb B a len cap (T + 1) (tp + 1) _ FS.out (by omega) (by omega) (by omega)).mono ?_; rintro e w2 ⟨v2, rfl, -, hs, hk⟩; have F0 : Hid (Blk w2 b0 [.int .i64 fl, .int .i64 gp, .int .i64 ln, .int .i64 rf, .int .i64 sp, .int .i64 pu, .int .i64 br, .int .i64 dr, .int .i64 lv, .int .i64 dO, .int .i64 ld, .int .i64 qu]) := F0.out.keeps hk (by omega); have FS : Hid (SrcT w2 sb B a len cap (T + 1 + 1)) := hs; have FK : Hid (Keeps sb w w2) := FK.out.trans hk; clear hs hk; have G2 := trivial) | (go_at_call 37; refine (l1Next_tW sb B a len cap (T + 1 + 1) (tp + 1) _ FS.out (by omega) (by omega) (by omega)).mono ?_; rintro e w3 ⟨v3, rfl, -, hs, hk⟩; have F0 : Hid (Blk w3 b0 [.int .i64 fl, .int .i64 gp, .int .i64 ln, .int .i64 rf, .int .i64 sp, .int .i64 pu, .int .i64 br, .int .i64 dr, .int .i64 lv, .int .i64 dO, .int .i64 ld, .int .i64 qu]) := F0.out.keeps hk (by omega); have FS : Hid (SrcT w3 sb B a len cap (T + 1 + 1 + 1)) := hs; have FK : Hid (Keeps sb w w3) := FK.out.trans hk; clear hs hk) | (go_at_call 36; refine (l1Pick_at_t sb B 2 [(v1 : Int), v2, v3, tp, 0, tp + 1, -1] a len cap (T + 1 + 1 + 1) w3 _ rfl FS.out (by omega) (by simp) (by simp)).mono ?_; rintro e w4 ⟨v4, rfl, hs, hk⟩; have FS : Hid (SrcT w4 sb B a len cap (T + 1 + 1 + 1 + 1)) := hs; have FK : Hid (Keeps sb w w4) := FK.out.trans hk; clear hs hk))
  go_ret
  first | exact ⟨v4, rfl, FS.out, FK.out⟩ | exact ⟨⟨v4, rfl⟩, FS.out, FK.out⟩
set_option maxRecDepth 20000 in
set_option maxHeartbeats 16000000 in
theorem DrawNearestIn_any (a : Option Addr) (len cap : Nat) (w : World) (hc : CodeIn w w.heap.size a len) :
    Calls Try.prog 16 #[.slice a len cap] w fun e w' => ∃ (h : Hs) (m f : Int), e = .returned (.tuple #[.agg #[.int .i64 h.fl, .int .i64 h.gp, .int .i64 h.ln, .int .i64 h.rf, .int .i64 h.sp, .int .i64 h.pu, .int .i64 h.br, .int .i64 h.dr, .int .i64 h.lv, .int .i64 h.dO, .int .i64 h.ld, .int .i64 h.qu], .int .i64 m, .int .i64 f]) ∧ (-1000 ≤ f ∧ f ≤ 1000) ∧ Below w.heap.size w w' := by
  obtain ⟨b0, hb0⟩ : ∃ b0, b0 = w.heap.size := ⟨_, rfl⟩
  obtain ⟨W0, hW0⟩ : ∃ W0, W0 = w.alloc (.cells #[.int .i64 0, .int .i64 0, .int .i64 0, .int .i64 0, .int .i64 0, .int .i64 0, .int .i64 0, .int .i64 0, .int .i64 0, .int .i64 0, .int .i64 0, .int .i64 0] 28) := ⟨_, rfl⟩
  have FB0 : Below w.heap.size w W0 := by rw [hW0]; exact (Below.refl _ _).alloc (Nat.le_refl _) _
  have HC : Hid (CodeIn W0 w.heap.size a len) := hc.keep fun b off hb _ => FB0.cell (p := ⟨b, off, none⟩) hb
  obtain ⟨sb, hsb⟩ : ∃ sb, sb = W0.heap.size := ⟨_, rfl⟩
  have F0 : Hid (Blk W0 b0 [.int .i64 0, .int .i64 0, .int .i64 0, .int .i64 0, .int .i64 0, .int .i64 0, .int .i64 0, .int .i64 0, .int .i64 0, .int .i64 0, .int .i64 0, .int .i64 0]) := by rw [hW0]; exact Blk.at_ w #[.int .i64 0, .int .i64 0, .int .i64 0, .int .i64 0, .int .i64 0, .int .i64 0, .int .i64 0, .int .i64 0, .int .i64 0, .int .i64 0, .int .i64 0, .int .i64 0] _ _ hb0
  have l0 : b0 < sb := by rw [hsb]; exact F0.out.lt
  have leb0 : w.heap.size ≤ b0 := by omega
  have FK : Hid (Keeps sb w W0) := by rw [hW0]; exact (Keeps.refl _ _).alloc _
  have HSB : Hid (sb = W0.heap.size) := hsb
  have HSZ : Hid (w.heap.size ≤ W0.heap.size) := FB0.size
  clear hsb hc FB0
  go_enter Try.func16, Try.ntmps16
  go_upto_region 1 with fail
  rw [← hb0, ← hW0]
  clear hb0 hW0
  go_upto_region 2 with (go_at_call 33; refine (l1Source_t w.heap.size a len cap _ HSZ.out HC.out).mono ?_; rw [← HSB.out]; rintro e w1 ⟨rfl, hs, hk⟩; have F0 : Hid (Blk w1 b0 [.int .i64 0, .int .i64 0, .int .i64 0, .int .i64 0, .int .i64 0, .int .i64 0, .int .i64 0, .int .i64 0, .int .i64 0, .int .i64 0, .int .i64 0, .int .i64 0]) := F0.out.keeps hk (by omega); have FS : Hid (SrcT w1 sb w.heap.size a len cap 0) := hs; have FK : Hid (Keeps sb w w1) := FK.out.trans hk; clear hs hk)
  clear HC HSB HSZ
  go_upto_region 3 with (first | (go_at_call 34; refine (l2BentB_tG sb _ a len cap _ _ FS.out (by omega)).mono ?_; rintro e w2 ⟨h, rfl, hbd, hs, hk⟩; have F0 : Hid (Blk w2 b0 [.int .i64 0, .int .i64 0, .int .i64 0, .int .i64 0, .int .i64 0, .int .i64 0, .int .i64 0, .int .i64 0, .int .i64 0, .int .i64 0, .int .i64 0, .int .i64 0]) := F0.out.keeps hk (by omega); have FS : Hid (SrcT w2 sb w.heap.size a len cap (0 + 60)) := hs; have FK : Hid (Keeps sb w w2) := FK.out.trans hk; clear hs hk) | (refine store_new [.int .i64 h.fl, .int .i64 h.gp, .int .i64 h.ln, .int .i64 h.rf, .int .i64 h.sp, .int .i64 h.pu, .int .i64 h.br, .int .i64 h.dr, .int .i64 h.lv, .int .i64 h.dO, .int .i64 h.ld, .int .i64 h.qu] 28 _ _ (by kernel_rfl) (by kernel_rfl) (by kernel_rfl) rfl rfl rfl rfl ?_))
  obtain ⟨b2, hbb⟩ : ∃ b2, b2 = w2.heap.size := ⟨_, rfl⟩
  obtain ⟨w3, hw2⟩ : ∃ w3, w3 = w2.alloc (.cells #[.int .i64 h.fl, .int .i64 h.gp, .int .i64 h.ln, .int .i64 h.rf, .int .i64 h.sp, .int .i64 h.pu, .int .i64 h.br, .int .i64 h.dr, .int .i64 h.lv, .int .i64 h.dO, .int .i64 h.ld, .int .i64 h.qu] 28) := ⟨_, rfl⟩
  have nb2s : sb < b2 := by rw [hbb]; exact FS.out.lt
  have nb2b0 : b0 < b2 := by rw [hbb]; exact F0.out.lt
  have F0 : Hid (Blk w3 b0 [.int .i64 0, .int .i64 0, .int .i64 0, .int .i64 0, .int .i64 0, .int .i64 0, .int .i64 0, .int .i64 0, .int .i64 0, .int .i64 0, .int .i64 0, .int .i64 0]) := by rw [hw2]; exact F0.out.alloc _
  have F2 : Hid (Blk w3 b2 [.int .i64 h.fl, .int .i64 h.gp, .int .i64 h.ln, .int .i64 h.rf, .int .i64 h.sp, .int .i64 h.pu, .int .i64 h.br, .int .i64 h.dr, .int .i64 h.lv, .int .i64 h.dO, .int .i64 h.ld, .int .i64 h.qu]) := by rw [hw2]; exact Blk.at_ w2 #[.int .i64 h.fl, .int .i64 h.gp, .int .i64 h.ln, .int .i64 h.rf, .int .i64 h.sp, .int .i64 h.pu, .int .i64 h.br, .int .i64 h.dr, .int .i64 h.lv, .int .i64 h.dO, .int .i64 h.ld, .int .i64 h.qu] _ _ hbb
  have FS : Hid (SrcT w3 sb w.heap.size a len cap (0 + 60)) := by rw [hw2]; exact FS.out.alloc _
  have FK : Hid (Keeps sb w w3) := by rw [hw2]; exact FK.out.alloc _
  (try simp only [Act.put])
  rw [← hw2, ← hbb]
  clear hbb hw2
  obtain ⟨⟨d1, d2⟩, d3, d4⟩ := hbd
  have ew : IntKind.i64.wrap (h.fl - 1) = h.fl - 1 := IntWalk.i64_in _ (by omega)
  go_upto_region 3 with fail
  have F0 : Hid (Blk w3.drew b0 [.int .i64 0, .int .i64 0, .int .i64 0, .int .i64 0, .int .i64 0, .int .i64 0, .int .i64 0, .int .i64 0, .int .i64 0, .int .i64 0, .int .i64 0, .int .i64 0]) := F0.out.below (Below.refl _ _).drew F0.out.lt
  have F2 : Hid (Blk w3.drew b2 [.int .i64 h.fl, .int .i64 h.gp, .int .i64 h.ln, .int .i64 h.rf, .int .i64 h.sp, .int .i64 h.pu, .int .i64 h.br, .int .i64 h.dr, .int .i64 h.lv, .int .i64 h.dO, .int .i64 h.ld, .int .i64 h.qu]) := F2.out.below (Below.refl _ _).drew F2.out.lt
  have FS : Hid (SrcT w3.drew sb w.heap.size a len cap (0 + 60)) := FS.out.drew
  have FK : Hid (Keeps sb w w3.drew) := FK.out.of_below (Below.refl _ _).drew
  refine wp_region_held_drew (S := (fun w'' => Blk w'' b2 ([.int .i64 h.fl, .int .i64 h.gp, .int .i64 h.ln, .int .i64 h.rf, .int .i64 h.sp, .int .i64 h.pu, .int .i64 h.br, .int .i64 h.dr, .int .i64 h.lv, .int .i64 h.dO, .int .i64 h.ld, .int .i64 h.qu]))) (by kernel_rfl) (by (try dsimp only); first | exact F2.out | go_keep) (fun hHeld => ?_)
  obtain ⟨v_1, hw1⟩ : ∃ v_1, v_1 = w3.drew := ⟨_, rfl⟩
  have F0 : Hid (Blk v_1 b0 [.int .i64 0, .int .i64 0, .int .i64 0, .int .i64 0, .int .i64 0, .int .i64 0, .int .i64 0, .int .i64 0, .int .i64 0, .int .i64 0, .int .i64 0, .int .i64 0]) := by rw [hw1]; exact F0.out
  have F2 : Hid (Blk v_1 b2 [.int .i64 h.fl, .int .i64 h.gp, .int .i64 h.ln, .int .i64 h.rf, .int .i64 h.sp, .int .i64 h.pu, .int .i64 h.br, .int .i64 h.dr, .int .i64 h.lv, .int .i64 h.dO, .int .i64 h.ld, .int .i64 h.qu]) := by rw [hw1]; exact F2.out
  have FS : Hid (SrcT v_1 sb w.heap.size a len cap (0 + 60)) := by rw [hw1]; exact FS.out
  have FK : Hid (Keeps sb w v_1) := by rw [hw1]; exact FK.out
  rw [← hw1] at hHeld ⊢
  clear hw1
  refine tkz 0 rfl ?_ (hy := Or.inl ⟨by kernel_rfl, fun wx hSw => exec_load_blk 28 _ Try.underlying28 (by kernel_rfl) rfl rfl hSw⟩)
  refine tkz 1 rfl ?_
  refine tkz 2 rfl ?_ (hy := Or.inl ⟨by kernel_rfl, fun wx hSw => exec_load_blk 28 _ Try.underlying28 (by kernel_rfl) rfl rfl hSw⟩)
  refine tkz 4 rfl ?_
  refine tkz 5 rfl ?_
  refine tkz 7 rfl ?_
  refine tkz 9 rfl ?_
  refine tkz 10 rfl ?_ (hy := Or.inl ⟨by kernel_rfl, by (intro wx hSw; have hq0_0 := hSw.c 0 _ rfl; (try dsimp only at hSw); go_simp <;> with_reducible rfl)⟩)
  refine tkz 11 rfl ?_
  refine tkz 12 rfl ?_
  refine tkz 13 rfl ?_ (hy := Or.inl ⟨by kernel_rfl, by (intro wx hSw; have hq0_0 := hSw.c 0 _ rfl; (try dsimp only at hSw); go_simp <;> with_reducible rfl)⟩)
  refine wpAnyH_ready (rs := [3]) (by kernel_rfl) (by simp) ?_
  refine (AllReadyH.cons rfl (fun K hK => ?_) AllReadyH.nil)
  go_simp
  refine (l12Mask_t h d3 d4 sb _ a len cap _ _ FS.out (by omega)).mono ?_
  rintro e v_2 ⟨m, rfl, hs, hk⟩
  have F0 : Hid (Blk v_2 b0 [.int .i64 0, .int .i64 0, .int .i64 0, .int .i64 0, .int .i64 0, .int .i64 0, .int .i64 0, .int .i64 0, .int .i64 0, .int .i64 0, .int .i64 0, .int .i64 0]) := F0.out.keeps hk (by omega)
  have F2 : Hid (Blk v_2 b2 [.int .i64 h.fl, .int .i64 h.gp, .int .i64 h.ln, .int .i64 h.rf, .int .i64 h.sp, .int .i64 h.pu, .int .i64 h.br, .int .i64 h.dr, .int .i64 h.lv, .int .i64 h.dO, .int .i64 h.ld, .int .i64 h.qu]) := F2.out.keeps hk (by omega)
  have FS : Hid (SrcT v_2 sb w.heap.size a len cap ((0 + 60) + 4)) := hs
  have FK : Hid (Keeps sb w v_2) := FK.out.trans hk
  clear hs hk
  try dsimp only
  refine hK.out _ _ (by (try dsimp only); first | exact F2.out | go_keep) (fun hHeld => ?_)
  clear hK K
  try simp only [Act.put, List.getElem_toArray, List.getElem_cons_succ, List.getElem_cons_zero, List.setIfInBounds_toArray, List.set_cons_zero, List.set_cons_succ]
  refine wpAnyH_ready (rs := [6]) (by kernel_rfl) (by simp) ?_
  refine (AllReadyH.cons rfl (fun K hK => ?_) AllReadyH.nil)
  go_simp
  refine (l1Next_tW sb _ a len cap _ 5 _ FS.out (by omega) (by omega) (by omega)).mono ?_
  rintro e v_3 ⟨v1, rfl, hv1, hs, hk⟩
  have F0 : Hid (Blk v_3 b0 [.int .i64 0, .int .i64 0, .int .i64 0, .int .i64 0, .int .i64 0, .int .i64 0, .int .i64 0, .int .i64 0, .int .i64 0, .int .i64 0, .int .i64 0, .int .i64 0]) := F0.out.keeps hk (by omega)
  have F2 : Hid (Blk v_3 b2 [.int .i64 h.fl, .int .i64 h.gp, .int .i64 h.ln, .int .i64 h.rf, .int .i64 h.sp, .int .i64 h.pu, .int .i64 h.br, .int .i64 h.dr, .int .i64 h.lv, .int .i64 h.dO, .int .i64 h.ld, .int .i64 h.qu]) := F2.out.keeps hk (by omega)
  have FS : Hid (SrcT v_3 sb w.heap.size a len cap (((0 + 60) + 4) + 1)) := hs
  have FK : Hid (Keeps sb w v_3) := FK.out.trans hk
  clear hs hk
  try dsimp only
  refine hK.out _ _ (by (try dsimp only); first | exact F2.out | go_keep) (fun hHeld => ?_)
  clear hK K
  try simp only [Act.put, List.getElem_toArray, List.getElem_cons_succ, List.getElem_cons_zero, List.setIfInBounds_toArray, List.set_cons_zero, List.set_cons_succ]
  refine wpAnyH_ready (rs := [8]) (by kernel_rfl) (by simp) ?_
  refine (AllReadyH.cons rfl (fun K hK => ?_) AllReadyH.nil)
  go_simp
  refine (l1Next_tW sb _ a len cap _ 5 _ FS.out (by omega) (by omega) (by omega)).mono ?_
  rintro e v_4 ⟨v2, rfl, hv2, hs, hk⟩
  have F0 : Hid (Blk v_4 b0 [.int .i64 0, .int .i64 0, .int .i64 0, .int .i64 0, .int .i64 0, .int .i64 0, .int .i64 0, .int .i64 0, .int .i64 0, .int .i64 0, .int .i64 0, .int .i64 0]) := F0.out.keeps hk (by omega)
  have F2 : Hid (Blk v_4 b2 [.int .i64 h.fl, .int .i64 h.gp, .int .i64 h.ln, .int .i64 h.rf, .int .i64 h.sp, .int .i64 h.pu, .int .i64 h.br, .int .i64 h.dr, .int .i64 h.lv, .int .i64 h.dO, .int .i64 h.ld, .int .i64 h.qu]) := F2.out.keeps hk (by omega)
  have FS : Hid (SrcT v_4 sb w.heap.size a len cap ((((0 + 60) + 4) + 1) + 1)) := hs
  have FK : Hid (Keeps sb w v_4) := FK.out.trans hk
  clear hs hk
  try dsimp only
  refine hK.out _ _ (by (try dsimp only); first | exact F2.out | go_keep) (fun hHeld => ?_)
  clear hK K
  try simp only [Act.put, List.getElem_toArray, List.getElem_cons_succ, List.getElem_cons_zero, List.setIfInBounds_toArray, List.set_cons_zero, List.set_cons_succ]
  refine wpAnyH_ready (rs := [14]) (by kernel_rfl) (by simp) ?_
  refine (AllReadyH.cons rfl (fun K hK => ?_) AllReadyH.nil)
  go_simp
  obtain ⟨lb0, hbb⟩ : ∃ lb0, lb0 = v_4.heap.size := ⟨_, rfl⟩
  obtain ⟨v_5, hw2⟩ : ∃ v_5, v_5 = v_4.alloc (.cells #[.int .i64 v1, .int .i64 v2, .int .i64 (h.fl - 1), .int .i64 h.fl, .int .i64 (-1)] 2) := ⟨_, rfl⟩
  have nlb0_0 := F0.out.lt
  rw [← hbb] at nlb0_0
  have nlb0_1 := F2.out.lt
  rw [← hbb] at nlb0_1
  have nlb0_s := FS.out.lt
  rw [← hbb] at nlb0_s
  have FL0 : Hid (LstAt v_5 lb0 [v1, v2, (h.fl - 1), h.fl, (-1)]) := by rw [hw2]; exact LstAt.new v_4 [v1, v2, (h.fl - 1), h.fl, (-1)] 2 lb0 hbb (by simp)
  have F0 : Hid (Blk v_5 b0 [.int .i64 0, .int .i64 0, .int .i64 0, .int .i64 0, .int .i64 0, .int .i64 0, .int .i64 0, .int .i64 0, .int .i64 0, .int .i64 0, .int .i64 0, .int .i64 0]) := by rw [hw2]; exact F0.out.alloc _
  have F2 : Hid (Blk v_5 b2 [.int .i64 h.fl, .int .i64 h.gp, .int .i64 h.ln, .int .i64 h.rf, .int .i64 h.sp, .int .i64 h.pu, .int .i64 h.br, .int .i64 h.dr, .int .i64 h.lv, .int .i64 h.dO, .int .i64 h.ld, .int .i64 h.qu]) := by rw [hw2]; exact F2.out.alloc _
  have FS : Hid (SrcT v_5 sb w.heap.size a len cap ((((0 + 60) + 4) + 1) + 1)) := by rw [hw2]; exact FS.out.alloc _
  have FK : Hid (Keeps sb w v_5) := by rw [hw2]; exact FK.out.alloc _
  rw [← hw2, ← hbb]
  clear hbb hw2
  refine hK.out _ _ (by (try dsimp only); first | exact F2.out | go_keep) (fun hHeld => ?_)
  clear hK K
  try simp only [Act.put, List.getElem_toArray, List.getElem_cons_succ, List.getElem_cons_zero, List.setIfInBounds_toArray, List.set_cons_zero, List.set_cons_succ]
  refine wpAnyH_ready (rs := [15]) (by kernel_rfl) (by simp) ?_
  refine (AllReadyH.cons rfl (fun K hK => ?_) AllReadyH.nil)
  go_simp
  refine (l1Pick_t sb _ lb0 [v1, v2, (h.fl - 1), h.fl, (-1)] (fun y => -1000 ≤ y ∧ y ≤ 1000) (by intro y hy; simp at hy; omega) a len cap _ _ FS.out (by omega) FL0.out (by simp) (by omega)).mono ?_
  rintro e v_6 ⟨v9, rfl, hv9, hs, hk⟩
  have F0 : Hid (Blk v_6 b0 [.int .i64 0, .int .i64 0, .int .i64 0, .int .i64 0, .int .i64 0, .int .i64 0, .int .i64 0, .int .i64 0, .int .i64 0, .int .i64 0, .int .i64 0, .int .i64 0]) := F0.out.keeps hk (by omega)
  have F2 : Hid (Blk v_6 b2 [.int .i64 h.fl, .int .i64 h.gp, .int .i64 h.ln, .int .i64 h.rf, .int .i64 h.sp, .int .i64 h.pu, .int .i64 h.br, .int .i64 h.dr, .int .i64 h.lv, .int .i64 h.dO, .int .i64 h.ld, .int .i64 h.qu]) := F2.out.keeps hk (by omega)
  have FS : Hid (SrcT v_6 sb w.heap.size a len cap (((((0 + 60) + 4) + 1) + 1) + 1)) := hs
  have FK : Hid (Keeps sb w v_6) := FK.out.trans hk
  have FL0 : Hid (LstAt v_6 lb0 [v1, v2, (h.fl - 1), h.fl, (-1)]) := FL0.out.keeps hk (by omega)
  clear hs hk
  try dsimp only
  refine hK.out _ _ (by (try dsimp only); first | exact F2.out | go_keep) (fun hHeld => ?_)
  clear hK K
  try simp only [Act.put, List.getElem_toArray, List.getElem_cons_succ, List.getElem_cons_zero, List.setIfInBounds_toArray, List.set_cons_zero, List.set_cons_succ]
  refine wpAnyH_ready (rs := [16]) (by kernel_rfl) (by simp) ?_
  refine (AllReadyH.cons rfl (fun K hK => ?_) AllReadyH.nil)
  refine step_ofEG rfl ?_
  refine wp_store_wholeG [.int .i64 h.fl, .int .i64 h.gp, .int .i64 h.ln, .int .i64 h.rf, .int .i64 h.sp, .int .i64 h.pu, .int .i64 h.br, .int .i64 h.dr, .int .i64 h.lv, .int .i64 h.dO, .int .i64 h.ld, .int .i64 h.qu] 28 _ _ (by kernel_rfl) (by kernel_rfl) F0.out rfl rfl rfl rfl ?_
  obtain ⟨v_7, hw2⟩ : ∃ q, q = putB v_6 b0 0 [.int .i64 h.fl, .int .i64 h.gp, .int .i64 h.ln, .int .i64 h.rf, .int .i64 h.sp, .int .i64 h.pu, .int .i64 h.br, .int .i64 h.dr, .int .i64 h.lv, .int .i64 h.dO, .int .i64 h.ld, .int .i64 h.qu] := ⟨_, rfl⟩
  rw [← hw2]
  have F0 : Hid (Blk v_7 b0 [.int .i64 h.fl, .int .i64 h.gp, .int .i64 h.ln, .int .i64 h.rf, .int .i64 h.sp, .int .i64 h.pu, .int .i64 h.br, .int .i64 h.dr, .int .i64 h.lv, .int .i64 h.dO, .int .i64 h.ld, .int .i64 h.qu]) := by rw [hw2]; exact F0.out.put [.int .i64 h.fl, .int .i64 h.gp, .int .i64 h.ln, .int .i64 h.rf, .int .i64 h.sp, .int .i64 h.pu, .int .i64 h.br, .int .i64 h.dr, .int .i64 h.lv, .int .i64 h.dO, .int .i64 h.ld, .int .i64 h.qu] rfl
  have F2 : Hid (Blk v_7 b2 [.int .i64 h.fl, .int .i64 h.gp, .int .i64 h.ln, .int .i64 h.rf, .int .i64 h.sp, .int .i64 h.pu, .int .i64 h.br, .int .i64 h.dr, .int .i64 h.lv, .int .i64 h.dO, .int .i64 h.ld, .int .i64 h.qu]) := by rw [hw2]; exact Blk.putB_other (by omega) _ 0 F2.out
  have FS : Hid (SrcT v_7 sb w.heap.size a len cap (((((0 + 60) + 4) + 1) + 1) + 1)) := by rw [hw2]; exact SrcT.putBG (by omega) (by omega) _ 0 FS.out
  have FK : Hid (Keeps sb w v_7) := by rw [hw2]; exact Keeps.putBG (by omega) _ 0 FK.out
  clear hw2
  refine hK.out _ _ (by (try dsimp only); first | exact F2.out | go_keep) (fun hHeld => ?_)
  clear hK K
  try simp only [Act.put, List.getElem_toArray, List.getElem_cons_succ, List.getElem_cons_zero, List.setIfInBounds_toArray, List.set_cons_zero, List.set_cons_succ]
  refine tkz 17 rfl ?_
  refine tkz 18 rfl ?_
  refine wpAnyH_done (by kernel_rfl) ?_ _
  have FB : Below w.heap.size w v_7 := FK.out.below (by omega) (Nat.le_refl _)
  have d0 := F0.out.c 0 _ rfl
  have d1 := F0.out.c 1 _ rfl
  have d2 := F0.out.c 2 _ rfl
  have d3 := F0.out.c 3 _ rfl
  have d4 := F0.out.c 4 _ rfl
  have d5 := F0.out.c 5 _ rfl
  have d6 := F0.out.c 6 _ rfl
  have d7 := F0.out.c 7 _ rfl
  have d8 := F0.out.c 8 _ rfl
  have d9 := F0.out.c 9 _ rfl
  have d10 := F0.out.c 10 _ rfl
  have d11 := F0.out.c 11 _ rfl
  go_wp2_with fail
  exact bodyPost_ret (v := .tuple #[.agg #[.int .i64 h.fl, .int .i64 h.gp, .int .i64 h.ln, .int .i64 h.rf, .int .i64 h.sp, .int .i64 h.pu, .int .i64 h.br, .int .i64 h.dr, .int .i64 h.lv, .int .i64 h.dO, .int .i64 h.ld, .int .i64 h.qu], .int .i64 m, .int .i64 v9]) (by simp [results, Try.results16, go_sem, d0, d1, d2, d3, d4, d5, d6, d7, d8, d9, d10, d11]) rfl ⟨h, m, v9, rfl, hv9, FB⟩
end Go.Proofs.Ythinefjakimccaa
