/-
  Zones that are split: what the bytes draw.
-/
import Derived.Test.YtnpnlckdggakmaaGnr
import Derived.Test.YtnpnlckdggakmaaZonR
import Derived.Deep.DeepCutAuto
namespace Go.Proofs.Ytnpnlckdggakmaa
open Go.RowKit Pl
set_option linter.unusedSimpArgs false
set_option linter.unusedVariables false

set_option maxRecDepth 20000 in
set_option maxHeartbeats 16000000 in
theorem DrawSplitZones_any (a : Option Addr) (len cap : Nat) (w : World) (hc : CodeIn w w.heap.size a len) :
    Calls Try.prog 9 #[.slice a len cap] w fun e w' => ∃ (h : Hs) (c : Int), e = .returned (.tuple #[.agg #[.int .i64 h.fl, .int .i64 h.gp, .int .i64 h.ln, .int .i64 h.rf, .int .i64 h.sp, .int .i64 h.pu, .int .i64 h.br, .int .i64 h.dr, .int .i64 h.lv, .int .i64 h.dO, .int .i64 h.ld, .int .i64 h.qu], .int .i64 c]) ∧ (-1000 ≤ c ∧ c ≤ 1000) ∧ Below w.heap.size w w' := by
  obtain ⟨b0, hb0⟩ : ∃ b0, b0 = w.heap.size := ⟨_, rfl⟩
  obtain ⟨W0, hW0⟩ : ∃ W0, W0 = w.alloc (.cells #[.int .i64 0, .int .i64 0, .int .i64 0, .int .i64 0, .int .i64 0, .int .i64 0, .int .i64 0, .int .i64 0, .int .i64 0, .int .i64 0, .int .i64 0, .int .i64 0] 25) := ⟨_, rfl⟩
  have FB0 : Below w.heap.size w W0 := by rw [hW0]; exact (Below.refl _ _).alloc (Nat.le_refl _) _
  have HC : Hid (CodeIn W0 w.heap.size a len) := hc.keep fun b off hb _ => FB0.cell (p := ⟨b, off, none⟩) hb
  obtain ⟨sb, hsb⟩ : ∃ sb, sb = W0.heap.size := ⟨_, rfl⟩
  have F0 : Hid (Blk W0 b0 [.int .i64 0, .int .i64 0, .int .i64 0, .int .i64 0, .int .i64 0, .int .i64 0, .int .i64 0, .int .i64 0, .int .i64 0, .int .i64 0, .int .i64 0, .int .i64 0]) := by rw [hW0]; exact Blk.at_ w #[.int .i64 0, .int .i64 0, .int .i64 0, .int .i64 0, .int .i64 0, .int .i64 0, .int .i64 0, .int .i64 0, .int .i64 0, .int .i64 0, .int .i64 0, .int .i64 0] _ _ hb0
  have l0 : b0 < sb := by rw [hsb]; exact F0.out.lt
  have leb0 : w.heap.size ≤ b0 := by omega
  have FK : Hid (Keeps sb w W0) := by rw [hW0]; exact (Keeps.refl _ _).alloc _
  have HSB : Hid (sb = W0.heap.size) := hsb
  have HSZ : Hid (w.heap.size ≤ W0.heap.size) := FB0.size
  clear hsb hc FB0
  go_enter Try.func9, Try.ntmps9
  go_upto_region 1 with fail
  rw [← hb0, ← hW0]
  clear hb0 hW0
  go_upto_region 2 with (go_at_call 32; refine (l1Source_t w.heap.size a len cap _ HSZ.out HC.out).mono ?_; rw [← HSB.out]; rintro e w1 ⟨rfl, hs, hk⟩; have F0 : Hid (Blk w1 b0 [.int .i64 0, .int .i64 0, .int .i64 0, .int .i64 0, .int .i64 0, .int .i64 0, .int .i64 0, .int .i64 0, .int .i64 0, .int .i64 0, .int .i64 0, .int .i64 0]) := F0.out.keeps hk (by omega); have FS : Hid (SrcT w1 sb w.heap.size a len cap 0) := hs; have FK : Hid (Keeps sb w w1) := FK.out.trans hk; clear hs hk)
  clear HC HSB HSZ
  go_upto_region 3 with (first | (go_at_call 33; refine (l2BentB_tG sb _ a len cap _ _ FS.out (by omega)).mono ?_; rintro e w2 ⟨h, rfl, hbd, hs, hk⟩; have F0 : Hid (Blk w2 b0 [.int .i64 0, .int .i64 0, .int .i64 0, .int .i64 0, .int .i64 0, .int .i64 0, .int .i64 0, .int .i64 0, .int .i64 0, .int .i64 0, .int .i64 0, .int .i64 0]) := F0.out.keeps hk (by omega); have FS : Hid (SrcT w2 sb w.heap.size a len cap (0 + 60)) := hs; have FK : Hid (Keeps sb w w2) := FK.out.trans hk; clear hs hk) | (refine store_new [.int .i64 h.fl, .int .i64 h.gp, .int .i64 h.ln, .int .i64 h.rf, .int .i64 h.sp, .int .i64 h.pu, .int .i64 h.br, .int .i64 h.dr, .int .i64 h.lv, .int .i64 h.dO, .int .i64 h.ld, .int .i64 h.qu] 25 _ _ (by kernel_rfl) (by kernel_rfl) (by kernel_rfl) rfl rfl rfl rfl ?_))
  obtain ⟨b2, hbb⟩ : ∃ b2, b2 = w2.heap.size := ⟨_, rfl⟩
  obtain ⟨w3, hw2⟩ : ∃ w3, w3 = w2.alloc (.cells #[.int .i64 h.fl, .int .i64 h.gp, .int .i64 h.ln, .int .i64 h.rf, .int .i64 h.sp, .int .i64 h.pu, .int .i64 h.br, .int .i64 h.dr, .int .i64 h.lv, .int .i64 h.dO, .int .i64 h.ld, .int .i64 h.qu] 25) := ⟨_, rfl⟩
  have nb2s : sb < b2 := by rw [hbb]; exact FS.out.lt
  have nb2b0 : b0 < b2 := by rw [hbb]; exact F0.out.lt
  have F0 : Hid (Blk w3 b0 [.int .i64 0, .int .i64 0, .int .i64 0, .int .i64 0, .int .i64 0, .int .i64 0, .int .i64 0, .int .i64 0, .int .i64 0, .int .i64 0, .int .i64 0, .int .i64 0]) := by rw [hw2]; exact F0.out.alloc _
  have F2 : Hid (Blk w3 b2 [.int .i64 h.fl, .int .i64 h.gp, .int .i64 h.ln, .int .i64 h.rf, .int .i64 h.sp, .int .i64 h.pu, .int .i64 h.br, .int .i64 h.dr, .int .i64 h.lv, .int .i64 h.dO, .int .i64 h.ld, .int .i64 h.qu]) := by rw [hw2]; exact Blk.at_ w2 #[.int .i64 h.fl, .int .i64 h.gp, .int .i64 h.ln, .int .i64 h.rf, .int .i64 h.sp, .int .i64 h.pu, .int .i64 h.br, .int .i64 h.dr, .int .i64 h.lv, .int .i64 h.dO, .int .i64 h.ld, .int .i64 h.qu] _ _ hbb
  have FS : Hid (SrcT w3 sb w.heap.size a len cap (0 + 60)) := by rw [hw2]; exact FS.out.alloc _
  have FK : Hid (Keeps sb w w3) := by rw [hw2]; exact FK.out.alloc _
  (try simp only [Act.put])
  rw [← hw2, ← hbb]
  clear hbb hw2
  clear hbd
  go_upto_region 3 with fail
  have F0 : Hid (Blk w3.drew b0 [.int .i64 0, .int .i64 0, .int .i64 0, .int .i64 0, .int .i64 0, .int .i64 0, .int .i64 0, .int .i64 0, .int .i64 0, .int .i64 0, .int .i64 0, .int .i64 0]) := F0.out.below (Below.refl _ _).drew F0.out.lt
  have F2 : Hid (Blk w3.drew b2 [.int .i64 h.fl, .int .i64 h.gp, .int .i64 h.ln, .int .i64 h.rf, .int .i64 h.sp, .int .i64 h.pu, .int .i64 h.br, .int .i64 h.dr, .int .i64 h.lv, .int .i64 h.dO, .int .i64 h.ld, .int .i64 h.qu]) := F2.out.below (Below.refl _ _).drew F2.out.lt
  have FS : Hid (SrcT w3.drew sb w.heap.size a len cap (0 + 60)) := FS.out.drew
  have FK : Hid (Keeps sb w w3.drew) := FK.out.of_below (Below.refl _ _).drew
  refine wp_region_held_drew (S := (fun w'' => Blk w'' b2 ([.int .i64 h.fl, .int .i64 h.gp, .int .i64 h.ln, .int .i64 h.rf, .int .i64 h.sp, .int .i64 h.pu, .int .i64 h.br, .int .i64 h.dr, .int .i64 h.lv, .int .i64 h.dO, .int .i64 h.ld, .int .i64 h.qu]))) (by kernel_rfl) (by (try dsimp only); first | exact F2.out | go_keep) (fun hHeld => ?_)
  obtain ⟨v_1, hw1⟩ : ∃ v_1, v_1 = w3.drew := ⟨_, rfl⟩
  have F0 : Hid (Blk v_1 b0 [.int .i64 0, .int .i64 0, .int .i64 0, .int .i64 0, .int .i64 0, .int .i64 0, .int .i64 0, .int .i64 0, .int .i64 0, .int .i64 0, .int .i64 0, .int .i64 0]) := by rw [hw1]; exact F0.out
  have F2 : Hid (Blk v_1 b2 [.int .i64 h.fl, .int .i64 h.gp, .int .i64 h.ln, .int .i64 h.rf, .int .i64 h.sp, .int .i64 h.pu, .int .i64 h.br, .int .i64 h.dr, .int .i64 h.lv, .int .i64 h.dO, .int .i64 h.ld, .int .i64 h.qu]) := by rw [hw1]; exact F2.out
  have FS : Hid (SrcT v_1 sb w.heap.size a len cap (0 + 60)) := by rw [hw1]; exact FS.out
  have FK : Hid (Keeps sb w v_1) := by rw [hw1]; exact FK.out
  rw [← hw1] at hHeld ⊢
  clear hw1
  refine tkz 0 rfl ?_ (hy := Or.inl ⟨by kernel_rfl, fun wx hSw => exec_load_blk 25 _ Try.underlying25 (by kernel_rfl) rfl rfl hSw⟩)
  refine tkz 1 rfl ?_
  refine wpAnyH_ready (rs := [2]) (by kernel_rfl) (by simp) ?_
  refine (AllReadyH.cons rfl (fun K hK => ?_) AllReadyH.nil)
  go_simp
  obtain ⟨lb0, hbb⟩ : ∃ lb0, lb0 = v_1.heap.size := ⟨_, rfl⟩
  obtain ⟨v_2, hw2⟩ : ∃ v_2, v_2 = v_1.alloc (.cells #[.int .i64 1, .int .i64 2, .int .i64 3, .int .i64 4, .int .i64 6, .int .i64 7, .int .i64 0] 2) := ⟨_, rfl⟩
  have nlb0_0 := F0.out.lt
  rw [← hbb] at nlb0_0
  have nlb0_1 := F2.out.lt
  rw [← hbb] at nlb0_1
  have nlb0_s := FS.out.lt
  rw [← hbb] at nlb0_s
  have FL0 : Hid (LstAt v_2 lb0 [1, 2, 3, 4, 6, 7, 0]) := by rw [hw2]; exact LstAt.new v_1 [1, 2, 3, 4, 6, 7, 0] 2 lb0 hbb (by simp)
  have F0 : Hid (Blk v_2 b0 [.int .i64 0, .int .i64 0, .int .i64 0, .int .i64 0, .int .i64 0, .int .i64 0, .int .i64 0, .int .i64 0, .int .i64 0, .int .i64 0, .int .i64 0, .int .i64 0]) := by rw [hw2]; exact F0.out.alloc _
  have F2 : Hid (Blk v_2 b2 [.int .i64 h.fl, .int .i64 h.gp, .int .i64 h.ln, .int .i64 h.rf, .int .i64 h.sp, .int .i64 h.pu, .int .i64 h.br, .int .i64 h.dr, .int .i64 h.lv, .int .i64 h.dO, .int .i64 h.ld, .int .i64 h.qu]) := by rw [hw2]; exact F2.out.alloc _
  have FS : Hid (SrcT v_2 sb w.heap.size a len cap (0 + 60)) := by rw [hw2]; exact FS.out.alloc _
  have FK : Hid (Keeps sb w v_2) := by rw [hw2]; exact FK.out.alloc _
  rw [← hw2, ← hbb]
  clear hbb hw2
  refine hK.out _ _ (by (try dsimp only); first | exact F2.out | go_keep) (fun hHeld => ?_)
  clear hK K
  try simp only [Act.put, List.getElem_toArray, List.getElem_cons_succ, List.getElem_cons_zero, List.setIfInBounds_toArray, List.set_cons_zero, List.set_cons_succ]
  refine wpAnyH_ready (rs := [3]) (by kernel_rfl) (by simp) ?_
  refine (AllReadyH.cons rfl (fun K hK => ?_) AllReadyH.nil)
  go_simp
  refine (l1Pick_t sb _ lb0 [1, 2, 3, 4, 6, 7, 0] (fun y => -1000 ≤ y ∧ y ≤ 1000) (by intro y hy; simp at hy; omega) a len cap _ _ FS.out (by omega) FL0.out (by simp) (by omega)).mono ?_
  rintro e v_3 ⟨v9, rfl, hv9, hs, hk⟩
  have F0 : Hid (Blk v_3 b0 [.int .i64 0, .int .i64 0, .int .i64 0, .int .i64 0, .int .i64 0, .int .i64 0, .int .i64 0, .int .i64 0, .int .i64 0, .int .i64 0, .int .i64 0, .int .i64 0]) := F0.out.keeps hk (by omega)
  have F2 : Hid (Blk v_3 b2 [.int .i64 h.fl, .int .i64 h.gp, .int .i64 h.ln, .int .i64 h.rf, .int .i64 h.sp, .int .i64 h.pu, .int .i64 h.br, .int .i64 h.dr, .int .i64 h.lv, .int .i64 h.dO, .int .i64 h.ld, .int .i64 h.qu]) := F2.out.keeps hk (by omega)
  have FS : Hid (SrcT v_3 sb w.heap.size a len cap ((0 + 60) + 1)) := hs
  have FK : Hid (Keeps sb w v_3) := FK.out.trans hk
  have FL0 : Hid (LstAt v_3 lb0 [1, 2, 3, 4, 6, 7, 0]) := FL0.out.keeps hk (by omega)
  clear hs hk
  try dsimp only
  refine hK.out _ _ (by (try dsimp only); first | exact F2.out | go_keep) (fun hHeld => ?_)
  clear hK K
  try simp only [Act.put, List.getElem_toArray, List.getElem_cons_succ, List.getElem_cons_zero, List.setIfInBounds_toArray, List.set_cons_zero, List.set_cons_succ]
  refine wpAnyH_ready (rs := [4]) (by kernel_rfl) (by simp) ?_
  refine (AllReadyH.cons rfl (fun K hK => ?_) AllReadyH.nil)
  refine step_ofEG rfl ?_
  refine wp_store_wholeG [.int .i64 h.fl, .int .i64 h.gp, .int .i64 h.ln, .int .i64 h.rf, .int .i64 h.sp, .int .i64 h.pu, .int .i64 h.br, .int .i64 h.dr, .int .i64 h.lv, .int .i64 h.dO, .int .i64 h.ld, .int .i64 h.qu] 25 _ _ (by kernel_rfl) (by kernel_rfl) F0.out rfl rfl rfl rfl ?_
  obtain ⟨v_4, hw2⟩ : ∃ q, q = putB v_3 b0 0 [.int .i64 h.fl, .int .i64 h.gp, .int .i64 h.ln, .int .i64 h.rf, .int .i64 h.sp, .int .i64 h.pu, .int .i64 h.br, .int .i64 h.dr, .int .i64 h.lv, .int .i64 h.dO, .int .i64 h.ld, .int .i64 h.qu] := ⟨_, rfl⟩
  rw [← hw2]
  have F0 : Hid (Blk v_4 b0 [.int .i64 h.fl, .int .i64 h.gp, .int .i64 h.ln, .int .i64 h.rf, .int .i64 h.sp, .int .i64 h.pu, .int .i64 h.br, .int .i64 h.dr, .int .i64 h.lv, .int .i64 h.dO, .int .i64 h.ld, .int .i64 h.qu]) := by rw [hw2]; exact F0.out.put [.int .i64 h.fl, .int .i64 h.gp, .int .i64 h.ln, .int .i64 h.rf, .int .i64 h.sp, .int .i64 h.pu, .int .i64 h.br, .int .i64 h.dr, .int .i64 h.lv, .int .i64 h.dO, .int .i64 h.ld, .int .i64 h.qu] rfl
  have F2 : Hid (Blk v_4 b2 [.int .i64 h.fl, .int .i64 h.gp, .int .i64 h.ln, .int .i64 h.rf, .int .i64 h.sp, .int .i64 h.pu, .int .i64 h.br, .int .i64 h.dr, .int .i64 h.lv, .int .i64 h.dO, .int .i64 h.ld, .int .i64 h.qu]) := by rw [hw2]; exact Blk.putB_other (by omega) _ 0 F2.out
  have FS : Hid (SrcT v_4 sb w.heap.size a len cap ((0 + 60) + 1)) := by rw [hw2]; exact SrcT.putBG (by omega) (by omega) _ 0 FS.out
  have FK : Hid (Keeps sb w v_4) := by rw [hw2]; exact Keeps.putBG (by omega) _ 0 FK.out
  clear hw2
  refine hK.out _ _ (by (try dsimp only); first | exact F2.out | go_keep) (fun hHeld => ?_)
  clear hK K
  try simp only [Act.put, List.getElem_toArray, List.getElem_cons_succ, List.getElem_cons_zero, List.setIfInBounds_toArray, List.set_cons_zero, List.set_cons_succ]
  refine tkz 5 rfl ?_
  refine wpAnyH_done (by kernel_rfl) ?_ _
  have FB : Below w.heap.size w v_4 := FK.out.below (by omega) (Nat.le_refl _)
  have d0 := F0.out.c 0 _ rfl
  have d1 := F0.out.c 1 _ rfl
  have d2 := F0.out.c 2 _ rfl
  have d3 := F0.out.c 3 _ rfl
  have d4 := F0.out.c 4 _ rfl
  have d5 := F0.out.c 5 _ rfl
  have d6 := F0.out.c 6 _ rfl
  have d7 := F0.out.c 7 _ rfl
  have d8 := F0.out.c 8 _ rfl
  have d9 := F0.out.c 9 _ rfl
  have d10 := F0.out.c 10 _ rfl
  have d11 := F0.out.c 11 _ rfl
  go_wp2_with fail
  exact bodyPost_ret (v := .tuple #[.agg #[.int .i64 h.fl, .int .i64 h.gp, .int .i64 h.ln, .int .i64 h.rf, .int .i64 h.sp, .int .i64 h.pu, .int .i64 h.br, .int .i64 h.dr, .int .i64 h.lv, .int .i64 h.dO, .int .i64 h.ld, .int .i64 h.qu], .int .i64 v9]) (by simp [results, Try.results9, go_sem, d0, d1, d2, d3, d4, d5, d6, d7, d8, d9, d10, d11]) rfl ⟨h, v9, rfl, hv9, FB⟩
end Go.Proofs.Ytnpnlckdggakmaa
