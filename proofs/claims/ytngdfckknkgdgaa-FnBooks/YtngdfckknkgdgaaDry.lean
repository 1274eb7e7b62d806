/-
  Draws: a run, and a book of one.
-/
import Derived.Test.YtngdfckknkgdgaaDrx
import Derived.Test.YtngdfckknkgdgaaDrawL
namespace Go.Proofs.Ytngdfckknkgdgaa
open Go.RowKit Pl
set_option linter.unusedSimpArgs false
set_option linter.unusedVariables false

theorem below_gr {g : Nat} {w0 w w' : World} (h : Below w0.heap.size w0 w) (hg : w.grownBy w' (some g)) (hB : w0.heap.size ≤ g) : Below w0.heap.size w0 w' := h.grown hg h.size (fun j hj => by have e : g = j := Option.some.inj hj; omega)
set_option maxRecDepth 20000 in
set_option maxHeartbeats 16000000 in
theorem DrawRunTo_any (a : Option Addr) (len cap : Nat) (w : World) (hc : CodeIn w w.heap.size a len) :
    Calls Try.prog 56 #[.slice a len cap] w fun e w' => ∃ (h : Hs) (c : Cs) (f t : Int), e = .returned (.tuple #[.agg #[.int .i64 h.fl, .int .i64 h.gp, .int .i64 h.ln, .int .i64 h.rf, .int .i64 h.sp, .int .i64 h.pu, .int .i64 h.br, .int .i64 h.dr, .int .i64 h.lv, .int .i64 h.dO, .int .i64 h.ld, .int .i64 h.qu], .agg #[.int .i64 c.pos, .int .i64 c.vel, .int .i64 c.door], .int .i64 f, .int .i64 t]) ∧ ((0 ≤ h.ld ∧ h.ld ≤ 21) ∧ (1 ≤ h.fl ∧ h.fl ≤ 13)) ∧ Below w.heap.size w w' := by
  obtain ⟨b0, hb0⟩ : ∃ b0, b0 = w.heap.size := ⟨_, rfl⟩
  obtain ⟨b1, hb1⟩ : ∃ b1, b1 = b0 + 1 := ⟨_, rfl⟩
  obtain ⟨W0, hW0⟩ : ∃ W0, W0 = (w.alloc (.cells #[.int .i64 0, .int .i64 0, .int .i64 0, .int .i64 0, .int .i64 0, .int .i64 0, .int .i64 0, .int .i64 0, .int .i64 0, .int .i64 0, .int .i64 0, .int .i64 0] 27)).alloc (.cells #[.int .i64 0, .int .i64 0, .int .i64 0] 34) := ⟨_, rfl⟩
  have FB : Hid (Below w.heap.size w W0) := by rw [hW0]; exact ((Below.refl _ _).alloc (Nat.le_refl _) _).alloc (by simp) _
  have HC : Hid (CodeIn w w.heap.size a len) := hc
  have F0 : Hid (Blk W0 b0 [.int .i64 0, .int .i64 0, .int .i64 0, .int .i64 0, .int .i64 0, .int .i64 0, .int .i64 0, .int .i64 0, .int .i64 0, .int .i64 0, .int .i64 0, .int .i64 0]) := by rw [hW0]; exact (Blk.at_ w #[.int .i64 0, .int .i64 0, .int .i64 0, .int .i64 0, .int .i64 0, .int .i64 0, .int .i64 0, .int .i64 0, .int .i64 0, .int .i64 0, .int .i64 0, .int .i64 0] _ _ hb0).alloc _
  have F1 : Hid (Blk W0 b1 [.int .i64 0, .int .i64 0, .int .i64 0]) := by rw [hW0]; exact Blk.at_ _ #[.int .i64 0, .int .i64 0, .int .i64 0] _ _ (by simp; omega)
  have l01 : b0 < b1 := by omega
  have leb0 : w.heap.size ≤ b0 := by omega
  have leb1 : w.heap.size ≤ b1 := by omega
  clear hc
  go_enter Try.func56, Try.ntmps56
  go_upto_region 1 with fail
  rw [← hb0, ← hb1, ← hW0]
  clear hb0 hb1 hW0
  go_upto_region 2 with (go_at_call 78; refine (l4Draw_any a len cap _ ((HC.out.keep fun b off hb _ => FB.out.cell (p := ⟨b, off, none⟩) hb).up FB.out.size)).mono ?_; rintro e w1 ⟨h, c, f, rfl, hbd, hb⟩; have HBD : Hid ((0 ≤ h.ld ∧ h.ld ≤ 21) ∧ (1 ≤ h.fl ∧ h.fl ≤ 13)) := hbd; have F0 : Hid (Blk w1 b0 [.int .i64 0, .int .i64 0, .int .i64 0, .int .i64 0, .int .i64 0, .int .i64 0, .int .i64 0, .int .i64 0, .int .i64 0, .int .i64 0, .int .i64 0, .int .i64 0]) := F0.out.below hb F0.out.lt; have F1 : Hid (Blk w1 b1 [.int .i64 0, .int .i64 0, .int .i64 0]) := F1.out.below hb F1.out.lt; have FB : Hid (Below w.heap.size w w1) := FB.out.trans (hb.mono FB.out.size); clear hb hbd)
  obtain ⟨b2, hb2⟩ : ∃ b2, b2 = w1.heap.size := ⟨_, rfl⟩
  obtain ⟨b3, hb3⟩ : ∃ b3, b3 = b2 + 1 := ⟨_, rfl⟩
  obtain ⟨w3, hw3⟩ : ∃ w3, w3 = (w1.alloc (.cells #[.int .i64 h.fl, .int .i64 h.gp, .int .i64 h.ln, .int .i64 h.rf, .int .i64 h.sp, .int .i64 h.pu, .int .i64 h.br, .int .i64 h.dr, .int .i64 h.lv, .int .i64 h.dO, .int .i64 h.ld, .int .i64 h.qu] 27)).alloc (.cells #[.int .i64 c.pos, .int .i64 c.vel, .int .i64 c.door] 34) := ⟨_, rfl⟩
  have l02 : b0 < b2 := by rw [hb2]; exact F0.out.lt
  have l12 : b1 < b2 := by rw [hb2]; exact F1.out.lt
  have l23 : b2 < b3 := by omega
  have F0 : Hid (Blk w3 b0 [.int .i64 0, .int .i64 0, .int .i64 0, .int .i64 0, .int .i64 0, .int .i64 0, .int .i64 0, .int .i64 0, .int .i64 0, .int .i64 0, .int .i64 0, .int .i64 0]) := by rw [hw3]; exact (F0.out.alloc _).alloc _
  have F1 : Hid (Blk w3 b1 [.int .i64 0, .int .i64 0, .int .i64 0]) := by rw [hw3]; exact (F1.out.alloc _).alloc _
  have F2 : Hid (Blk w3 b2 [.int .i64 h.fl, .int .i64 h.gp, .int .i64 h.ln, .int .i64 h.rf, .int .i64 h.sp, .int .i64 h.pu, .int .i64 h.br, .int .i64 h.dr, .int .i64 h.lv, .int .i64 h.dO, .int .i64 h.ld, .int .i64 h.qu]) := by rw [hw3]; exact (Blk.at_ w1 #[.int .i64 h.fl, .int .i64 h.gp, .int .i64 h.ln, .int .i64 h.rf, .int .i64 h.sp, .int .i64 h.pu, .int .i64 h.br, .int .i64 h.dr, .int .i64 h.lv, .int .i64 h.dO, .int .i64 h.ld, .int .i64 h.qu] _ _ hb2).alloc _
  have F3 : Hid (Blk w3 b3 [.int .i64 c.pos, .int .i64 c.vel, .int .i64 c.door]) := by rw [hw3]; exact Blk.at_ _ #[.int .i64 c.pos, .int .i64 c.vel, .int .i64 c.door] _ _ (by simp; omega)
  have FB : Hid (Below w.heap.size w w3) := by rw [hw3]; exact (FB.out.alloc FB.out.size _).alloc (by have := FB.out.size; simp; omega) _
  (try simp only [Act.put])
  rw [← hb2, ← hb3, ← hw3]
  clear hb2 hb3 hw3
  obtain ⟨sb, hsb⟩ : ∃ sb, sb = w3.heap.size := ⟨_, rfl⟩
  have HSB : Hid (sb = w3.heap.size) := hsb
  have n3 : b3 < sb := by rw [hsb]; exact F3.out.lt
  have nsb : w.heap.size ≤ sb := by omega
  have FK : Hid (Keeps sb w w3) := ⟨FB.out.os, FB.out.tape, FB.out.output, FB.out.size, fun i hi _ => FB.out.block i hi⟩
  clear hsb
  go_upto_region 3 with (go_at_call 58; refine (l1Source_t w.heap.size a len cap _ FB.out.size (HC.out.keep fun b off hb _ => FB.out.cell (p := ⟨b, off, none⟩) hb)).mono ?_; rw [← HSB.out]; rintro e w4 ⟨rfl, hs, hk⟩; have F0 : Hid (Blk w4 b0 [.int .i64 0, .int .i64 0, .int .i64 0, .int .i64 0, .int .i64 0, .int .i64 0, .int .i64 0, .int .i64 0, .int .i64 0, .int .i64 0, .int .i64 0, .int .i64 0]) := F0.out.keeps hk (by omega); have F1 : Hid (Blk w4 b1 [.int .i64 0, .int .i64 0, .int .i64 0]) := F1.out.keeps hk (by omega); have F2 : Hid (Blk w4 b2 [.int .i64 h.fl, .int .i64 h.gp, .int .i64 h.ln, .int .i64 h.rf, .int .i64 h.sp, .int .i64 h.pu, .int .i64 h.br, .int .i64 h.dr, .int .i64 h.lv, .int .i64 h.dO, .int .i64 h.ld, .int .i64 h.qu]) := F2.out.keeps hk (by omega); have F3 : Hid (Blk w4 b3 [.int .i64 c.pos, .int .i64 c.vel, .int .i64 c.door]) := F3.out.keeps hk (by omega); have FS : Hid (SrcT w4 sb w.heap.size a len cap 0) := hs; have FK : Hid (Keeps sb w w4) := FK.out.trans hk; clear hs hk)
  clear HC HSB FB
  have F0 : Hid (Blk w4.drew b0 [.int .i64 0, .int .i64 0, .int .i64 0, .int .i64 0, .int .i64 0, .int .i64 0, .int .i64 0, .int .i64 0, .int .i64 0, .int .i64 0, .int .i64 0, .int .i64 0]) := F0.out.below (Below.refl _ _).drew F0.out.lt
  have F1 : Hid (Blk w4.drew b1 [.int .i64 0, .int .i64 0, .int .i64 0]) := F1.out.below (Below.refl _ _).drew F1.out.lt
  have F2 : Hid (Blk w4.drew b2 [.int .i64 h.fl, .int .i64 h.gp, .int .i64 h.ln, .int .i64 h.rf, .int .i64 h.sp, .int .i64 h.pu, .int .i64 h.br, .int .i64 h.dr, .int .i64 h.lv, .int .i64 h.dO, .int .i64 h.ld, .int .i64 h.qu]) := F2.out.below (Below.refl _ _).drew F2.out.lt
  have F3 : Hid (Blk w4.drew b3 [.int .i64 c.pos, .int .i64 c.vel, .int .i64 c.door]) := F3.out.below (Below.refl _ _).drew F3.out.lt
  have FS : Hid (SrcT w4.drew sb w.heap.size a len cap 0) := FS.out.drew
  have FK : Hid (Keeps sb w w4.drew) := FK.out.of_below (Below.refl _ _).drew
  refine wp_region_held_drew (S := (fun w'' => Blk w'' b2 ([.int .i64 h.fl, .int .i64 h.gp, .int .i64 h.ln, .int .i64 h.rf, .int .i64 h.sp, .int .i64 h.pu, .int .i64 h.br, .int .i64 h.dr, .int .i64 h.lv, .int .i64 h.dO, .int .i64 h.ld, .int .i64 h.qu]) ∧ Blk w'' b3 ([.int .i64 c.pos, .int .i64 c.vel, .int .i64 c.door]))) (by kernel_rfl) (by (try dsimp only); first | exact ⟨F2.out, F3.out⟩ | go_keep) (fun hHeld => ?_)
  obtain ⟨v_1, hw1⟩ : ∃ v_1, v_1 = w4.drew := ⟨_, rfl⟩
  have F0 : Hid (Blk v_1 b0 [.int .i64 0, .int .i64 0, .int .i64 0, .int .i64 0, .int .i64 0, .int .i64 0, .int .i64 0, .int .i64 0, .int .i64 0, .int .i64 0, .int .i64 0, .int .i64 0]) := by rw [hw1]; exact F0.out
  have F1 : Hid (Blk v_1 b1 [.int .i64 0, .int .i64 0, .int .i64 0]) := by rw [hw1]; exact F1.out
  have F2 : Hid (Blk v_1 b2 [.int .i64 h.fl, .int .i64 h.gp, .int .i64 h.ln, .int .i64 h.rf, .int .i64 h.sp, .int .i64 h.pu, .int .i64 h.br, .int .i64 h.dr, .int .i64 h.lv, .int .i64 h.dO, .int .i64 h.ld, .int .i64 h.qu]) := by rw [hw1]; exact F2.out
  have F3 : Hid (Blk v_1 b3 [.int .i64 c.pos, .int .i64 c.vel, .int .i64 c.door]) := by rw [hw1]; exact F3.out
  have FS : Hid (SrcT v_1 sb w.heap.size a len cap 0) := by rw [hw1]; exact FS.out
  have FK : Hid (Keeps sb w v_1) := by rw [hw1]; exact FK.out
  rw [← hw1] at hHeld ⊢
  clear hw1
  refine tkz 0 rfl ?_ (hy := Or.inl ⟨by kernel_rfl, fun wx hSw => exec_load_blk 27 _ Try.underlying27 (by kernel_rfl) rfl rfl hSw.1⟩)
  refine tkz 1 rfl ?_ (hy := Or.inl ⟨by kernel_rfl, fun wx hSw => exec_load_blk 34 _ Try.underlying34 (by kernel_rfl) rfl rfl hSw.2⟩)
  refine tkz 2 rfl ?_
  refine tkz 3 rfl ?_
  refine wpAnyH_ready (rs := [4]) (by kernel_rfl) (by simp) ?_
  refine (AllReadyH.cons rfl (fun K hK => ?_) AllReadyH.nil)
  go_simp
  obtain ⟨lb0, hbb⟩ : ∃ lb0, lb0 = v_1.heap.size := ⟨_, rfl⟩
  obtain ⟨v_2, hw2⟩ : ∃ v_2, v_2 = v_1.alloc (.cells #[.int .i64 300, .int .i64 1000, .int .i64 10, .int .i64 0, .int .i64 3000, .int .i64 3001, .int .i64 (-1)] 2) := ⟨_, rfl⟩
  have nlb0_0 := F0.out.lt
  rw [← hbb] at nlb0_0
  have nlb0_1 := F1.out.lt
  rw [← hbb] at nlb0_1
  have nlb0_2 := F2.out.lt
  rw [← hbb] at nlb0_2
  have nlb0_3 := F3.out.lt
  rw [← hbb] at nlb0_3
  have nlb0_s := FS.out.lt
  rw [← hbb] at nlb0_s
  have FL0 : Hid (LstAt v_2 lb0 [300, 1000, 10, 0, 3000, 3001, (-1)]) := by rw [hw2]; exact LstAt.new v_1 [300, 1000, 10, 0, 3000, 3001, (-1)] 2 lb0 hbb (by simp)
  have F0 : Hid (Blk v_2 b0 [.int .i64 0, .int .i64 0, .int .i64 0, .int .i64 0, .int .i64 0, .int .i64 0, .int .i64 0, .int .i64 0, .int .i64 0, .int .i64 0, .int .i64 0, .int .i64 0]) := by rw [hw2]; exact F0.out.alloc _
  have F1 : Hid (Blk v_2 b1 [.int .i64 0, .int .i64 0, .int .i64 0]) := by rw [hw2]; exact F1.out.alloc _
  have F2 : Hid (Blk v_2 b2 [.int .i64 h.fl, .int .i64 h.gp, .int .i64 h.ln, .int .i64 h.rf, .int .i64 h.sp, .int .i64 h.pu, .int .i64 h.br, .int .i64 h.dr, .int .i64 h.lv, .int .i64 h.dO, .int .i64 h.ld, .int .i64 h.qu]) := by rw [hw2]; exact F2.out.alloc _
  have F3 : Hid (Blk v_2 b3 [.int .i64 c.pos, .int .i64 c.vel, .int .i64 c.door]) := by rw [hw2]; exact F3.out.alloc _
  have FS : Hid (SrcT v_2 sb w.heap.size a len cap 0) := by rw [hw2]; exact FS.out.alloc _
  have FK : Hid (Keeps sb w v_2) := by rw [hw2]; exact FK.out.alloc _
  rw [← hw2, ← hbb]
  clear hbb hw2
  refine hK.out _ _ (by (try dsimp only); first | exact ⟨F2.out, F3.out⟩ | go_keep) (fun hHeld => ?_)
  clear hK K
  try simp only [Act.put, List.getElem_toArray, List.getElem_cons_succ, List.getElem_cons_zero, List.setIfInBounds_toArray, List.set_cons_zero, List.set_cons_succ]
  refine wpAnyH_ready (rs := [5]) (by kernel_rfl) (by simp) ?_
  refine (AllReadyH.cons rfl (fun K hK => ?_) AllReadyH.nil)
  go_simp
  refine (l1Pick_t sb _ lb0 [300, 1000, 10, 0, 3000, 3001, (-1)] (fun _ => True) (fun _ _ => trivial) a len cap _ _ FS.out (by omega) FL0.out (by simp) (by omega)).mono ?_
  rintro e v_3 ⟨v9, rfl, -, hs, hk⟩
  have F0 : Hid (Blk v_3 b0 [.int .i64 0, .int .i64 0, .int .i64 0, .int .i64 0, .int .i64 0, .int .i64 0, .int .i64 0, .int .i64 0, .int .i64 0, .int .i64 0, .int .i64 0, .int .i64 0]) := F0.out.keeps hk (by omega)
  have F1 : Hid (Blk v_3 b1 [.int .i64 0, .int .i64 0, .int .i64 0]) := F1.out.keeps hk (by omega)
  have F2 : Hid (Blk v_3 b2 [.int .i64 h.fl, .int .i64 h.gp, .int .i64 h.ln, .int .i64 h.rf, .int .i64 h.sp, .int .i64 h.pu, .int .i64 h.br, .int .i64 h.dr, .int .i64 h.lv, .int .i64 h.dO, .int .i64 h.ld, .int .i64 h.qu]) := F2.out.keeps hk (by omega)
  have F3 : Hid (Blk v_3 b3 [.int .i64 c.pos, .int .i64 c.vel, .int .i64 c.door]) := F3.out.keeps hk (by omega)
  have FS : Hid (SrcT v_3 sb w.heap.size a len cap (0 + 1)) := hs
  have FK : Hid (Keeps sb w v_3) := FK.out.trans hk
  have FL0 : Hid (LstAt v_3 lb0 [300, 1000, 10, 0, 3000, 3001, (-1)]) := FL0.out.keeps hk (by omega)
  clear hs hk
  try dsimp only
  refine hK.out _ _ (by (try dsimp only); first | exact ⟨F2.out, F3.out⟩ | go_keep) (fun hHeld => ?_)
  clear hK K
  try simp only [Act.put, List.getElem_toArray, List.getElem_cons_succ, List.getElem_cons_zero, List.setIfInBounds_toArray, List.set_cons_zero, List.set_cons_succ]
  refine wpAnyH_ready (rs := [6]) (by kernel_rfl) (by simp) ?_
  refine (AllReadyH.cons rfl (fun K hK => ?_) AllReadyH.nil)
  refine step_ofE rfl ?_
  refine wp_store_whole [.int .i64 h.fl, .int .i64 h.gp, .int .i64 h.ln, .int .i64 h.rf, .int .i64 h.sp, .int .i64 h.pu, .int .i64 h.br, .int .i64 h.dr, .int .i64 h.lv, .int .i64 h.dO, .int .i64 h.ld, .int .i64 h.qu] 27 _ _ (by kernel_rfl) (by kernel_rfl) F0.out rfl rfl rfl rfl ?_
  obtain ⟨v_4, hw2⟩ : ∃ q, q = putB v_3 b0 0 [.int .i64 h.fl, .int .i64 h.gp, .int .i64 h.ln, .int .i64 h.rf, .int .i64 h.sp, .int .i64 h.pu, .int .i64 h.br, .int .i64 h.dr, .int .i64 h.lv, .int .i64 h.dO, .int .i64 h.ld, .int .i64 h.qu] := ⟨_, rfl⟩
  rw [← hw2]
  have F0 : Hid (Blk v_4 b0 [.int .i64 h.fl, .int .i64 h.gp, .int .i64 h.ln, .int .i64 h.rf, .int .i64 h.sp, .int .i64 h.pu, .int .i64 h.br, .int .i64 h.dr, .int .i64 h.lv, .int .i64 h.dO, .int .i64 h.ld, .int .i64 h.qu]) := by rw [hw2]; exact F0.out.put [.int .i64 h.fl, .int .i64 h.gp, .int .i64 h.ln, .int .i64 h.rf, .int .i64 h.sp, .int .i64 h.pu, .int .i64 h.br, .int .i64 h.dr, .int .i64 h.lv, .int .i64 h.dO, .int .i64 h.ld, .int .i64 h.qu] rfl
  have F1 : Hid (Blk v_4 b1 [.int .i64 0, .int .i64 0, .int .i64 0]) := by rw [hw2]; exact Blk.putB_other (by omega) _ 0 F1.out
  have F2 : Hid (Blk v_4 b2 [.int .i64 h.fl, .int .i64 h.gp, .int .i64 h.ln, .int .i64 h.rf, .int .i64 h.sp, .int .i64 h.pu, .int .i64 h.br, .int .i64 h.dr, .int .i64 h.lv, .int .i64 h.dO, .int .i64 h.ld, .int .i64 h.qu]) := by rw [hw2]; exact Blk.putB_other (by omega) _ 0 F2.out
  have F3 : Hid (Blk v_4 b3 [.int .i64 c.pos, .int .i64 c.vel, .int .i64 c.door]) := by rw [hw2]; exact Blk.putB_other (by omega) _ 0 F3.out
  have FS : Hid (SrcT v_4 sb w.heap.size a len cap (0 + 1)) := by rw [hw2]; exact SrcT.putB (by omega) (by omega) _ 0 FS.out
  have FK : Hid (Keeps sb w v_4) := by rw [hw2]; exact Keeps.putB (by omega) _ 0 FK.out
  clear hw2
  refine hK.out _ _ (by (try dsimp only); first | exact ⟨F2.out, F3.out⟩ | go_keep) (fun hHeld => ?_)
  clear hK K
  try simp only [Act.put, List.getElem_toArray, List.getElem_cons_succ, List.getElem_cons_zero, List.setIfInBounds_toArray, List.set_cons_zero, List.set_cons_succ]
  refine wpAnyH_ready (rs := [7]) (by kernel_rfl) (by simp) ?_
  refine (AllReadyH.cons rfl (fun K hK => ?_) AllReadyH.nil)
  refine step_ofE rfl ?_
  refine wp_store_whole [.int .i64 c.pos, .int .i64 c.vel, .int .i64 c.door] 34 _ _ (by kernel_rfl) (by kernel_rfl) F1.out rfl rfl rfl rfl ?_
  obtain ⟨v_5, hw2⟩ : ∃ q, q = putB v_4 b1 0 [.int .i64 c.pos, .int .i64 c.vel, .int .i64 c.door] := ⟨_, rfl⟩
  rw [← hw2]
  have F0 : Hid (Blk v_5 b0 [.int .i64 h.fl, .int .i64 h.gp, .int .i64 h.ln, .int .i64 h.rf, .int .i64 h.sp, .int .i64 h.pu, .int .i64 h.br, .int .i64 h.dr, .int .i64 h.lv, .int .i64 h.dO, .int .i64 h.ld, .int .i64 h.qu]) := by rw [hw2]; exact Blk.putB_other (by omega) _ 0 F0.out
  have F1 : Hid (Blk v_5 b1 [.int .i64 c.pos, .int .i64 c.vel, .int .i64 c.door]) := by rw [hw2]; exact F1.out.put [.int .i64 c.pos, .int .i64 c.vel, .int .i64 c.door] rfl
  have F2 : Hid (Blk v_5 b2 [.int .i64 h.fl, .int .i64 h.gp, .int .i64 h.ln, .int .i64 h.rf, .int .i64 h.sp, .int .i64 h.pu, .int .i64 h.br, .int .i64 h.dr, .int .i64 h.lv, .int .i64 h.dO, .int .i64 h.ld, .int .i64 h.qu]) := by rw [hw2]; exact Blk.putB_other (by omega) _ 0 F2.out
  have F3 : Hid (Blk v_5 b3 [.int .i64 c.pos, .int .i64 c.vel, .int .i64 c.door]) := by rw [hw2]; exact Blk.putB_other (by omega) _ 0 F3.out
  have FS : Hid (SrcT v_5 sb w.heap.size a len cap (0 + 1)) := by rw [hw2]; exact SrcT.putB (by omega) (by omega) _ 0 FS.out
  have FK : Hid (Keeps sb w v_5) := by rw [hw2]; exact Keeps.putB (by omega) _ 0 FK.out
  clear hw2
  refine hK.out _ _ (by (try dsimp only); first | exact ⟨F2.out, F3.out⟩ | go_keep) (fun hHeld => ?_)
  clear hK K
  try simp only [Act.put, List.getElem_toArray, List.getElem_cons_succ, List.getElem_cons_zero, List.setIfInBounds_toArray, List.set_cons_zero, List.set_cons_succ]
  refine tkz 8 rfl ?_
  refine tkz 9 rfl ?_
  refine wpAnyH_done (by kernel_rfl) ?_ _
  have FB : Below w.heap.size w v_5 := FK.out.below (by omega) (Nat.le_refl _)
  have d0 := F0.out.c 0 _ rfl
  have d1 := F0.out.c 1 _ rfl
  have d2 := F0.out.c 2 _ rfl
  have d3 := F0.out.c 3 _ rfl
  have d4 := F0.out.c 4 _ rfl
  have d5 := F0.out.c 5 _ rfl
  have d6 := F0.out.c 6 _ rfl
  have d7 := F0.out.c 7 _ rfl
  have d8 := F0.out.c 8 _ rfl
  have d9 := F0.out.c 9 _ rfl
  have d10 := F0.out.c 10 _ rfl
  have d11 := F0.out.c 11 _ rfl
  have k0 := F1.out.c 0 _ rfl
  have k1 := F1.out.c 1 _ rfl
  have k2 := F1.out.c 2 _ rfl
  go_wp2_with fail
  exact bodyPost_ret (v := .tuple #[.agg #[.int .i64 h.fl, .int .i64 h.gp, .int .i64 h.ln, .int .i64 h.rf, .int .i64 h.sp, .int .i64 h.pu, .int .i64 h.br, .int .i64 h.dr, .int .i64 h.lv, .int .i64 h.dO, .int .i64 h.ld, .int .i64 h.qu], .agg #[.int .i64 c.pos, .int .i64 c.vel, .int .i64 c.door], .int .i64 f, .int .i64 v9]) (by simp [results, Try.results56, go_sem, d0, d1, d2, d3, d4, d5, d6, d7, d8, d9, d10, d11, k0, k1, k2]) rfl ⟨h, c, f, v9, rfl, HBD.out, FB⟩
set_option maxRecDepth 20000 in
set_option maxHeartbeats 16000000 in
theorem DrawBookRun_any (a : Option Addr) (len cap : Nat) (w : World) (hc : CodeIn w w.heap.size a len) (hl : len ≤ 1048576) (hz : a = none → len = 0 ∧ cap = 0) :
    Calls Try.prog 28 #[.slice a len cap] w fun e w' => ∃ (h : Hs) (c : Cs) (f r t : Int), e = .returned (.tuple #[.agg #[.int .i64 h.fl, .int .i64 h.gp, .int .i64 h.ln, .int .i64 h.rf, .int .i64 h.sp, .int .i64 h.pu, .int .i64 h.br, .int .i64 h.dr, .int .i64 h.lv, .int .i64 h.dO, .int .i64 h.ld, .int .i64 h.qu], .agg #[.int .i64 c.pos, .int .i64 c.vel, .int .i64 c.door], .int .i64 f, .int .i64 r, .int .i64 t]) ∧ Below w.heap.size w w' := by
  obtain ⟨b0, hb0⟩ : ∃ b0, b0 = w.heap.size := ⟨_, rfl⟩
  obtain ⟨b1, hb1⟩ : ∃ b1, b1 = b0 + 1 := ⟨_, rfl⟩
  obtain ⟨W0, hW0⟩ : ∃ W0, W0 = (w.alloc (.cells #[.int .i64 0, .int .i64 0, .int .i64 0, .int .i64 0, .int .i64 0, .int .i64 0, .int .i64 0, .int .i64 0, .int .i64 0, .int .i64 0, .int .i64 0, .int .i64 0] 27)).alloc (.cells #[.int .i64 0, .int .i64 0, .int .i64 0] 34) := ⟨_, rfl⟩
  have FB : Hid (Below w.heap.size w W0) := by rw [hW0]; exact ((Below.refl _ _).alloc (Nat.le_refl _) _).alloc (by simp) _
  have HC : Hid (CodeIn w w.heap.size a len) := hc
  have F0 : Hid (Blk W0 b0 [.int .i64 0, .int .i64 0, .int .i64 0, .int .i64 0, .int .i64 0, .int .i64 0, .int .i64 0, .int .i64 0, .int .i64 0, .int .i64 0, .int .i64 0, .int .i64 0]) := by rw [hW0]; exact (Blk.at_ w #[.int .i64 0, .int .i64 0, .int .i64 0, .int .i64 0, .int .i64 0, .int .i64 0, .int .i64 0, .int .i64 0, .int .i64 0, .int .i64 0, .int .i64 0, .int .i64 0] _ _ hb0).alloc _
  have F1 : Hid (Blk W0 b1 [.int .i64 0, .int .i64 0, .int .i64 0]) := by rw [hW0]; exact Blk.at_ _ #[.int .i64 0, .int .i64 0, .int .i64 0] _ _ (by simp; omega)
  have l01 : b0 < b1 := by omega
  have leb0 : w.heap.size ≤ b0 := by omega
  have leb1 : w.heap.size ≤ b1 := by omega
  clear hc
  go_enter Try.func28, Try.ntmps28
  go_upto_region 1 with fail
  rw [← hb0, ← hb1, ← hW0]
  clear hb0 hb1 hW0
  go_upto_region 2 with (go_at_call 56; refine (DrawRunTo_any a len cap _ ((HC.out.keep fun b off hb _ => FB.out.cell (p := ⟨b, off, none⟩) hb).up FB.out.size)).mono ?_; rintro e w1 ⟨h, c, f, t, rfl, hbd, hb⟩; have HBD : Hid ((0 ≤ h.ld ∧ h.ld ≤ 21) ∧ (1 ≤ h.fl ∧ h.fl ≤ 13)) := hbd; have F0 : Hid (Blk w1 b0 [.int .i64 0, .int .i64 0, .int .i64 0, .int .i64 0, .int .i64 0, .int .i64 0, .int .i64 0, .int .i64 0, .int .i64 0, .int .i64 0, .int .i64 0, .int .i64 0]) := F0.out.below hb F0.out.lt; have F1 : Hid (Blk w1 b1 [.int .i64 0, .int .i64 0, .int .i64 0]) := F1.out.below hb F1.out.lt; have FB : Hid (Below w.heap.size w w1) := FB.out.trans (hb.mono FB.out.size); clear hb hbd)
  obtain ⟨b2, hb2⟩ : ∃ b2, b2 = w1.heap.size := ⟨_, rfl⟩
  obtain ⟨b3, hb3⟩ : ∃ b3, b3 = b2 + 1 := ⟨_, rfl⟩
  obtain ⟨w3, hw3⟩ : ∃ w3, w3 = (w1.alloc (.cells #[.int .i64 h.fl, .int .i64 h.gp, .int .i64 h.ln, .int .i64 h.rf, .int .i64 h.sp, .int .i64 h.pu, .int .i64 h.br, .int .i64 h.dr, .int .i64 h.lv, .int .i64 h.dO, .int .i64 h.ld, .int .i64 h.qu] 27)).alloc (.cells #[.int .i64 c.pos, .int .i64 c.vel, .int .i64 c.door] 34) := ⟨_, rfl⟩
  have l02 : b0 < b2 := by rw [hb2]; exact F0.out.lt
  have l12 : b1 < b2 := by rw [hb2]; exact F1.out.lt
  have l23 : b2 < b3 := by omega
  have F0 : Hid (Blk w3 b0 [.int .i64 0, .int .i64 0, .int .i64 0, .int .i64 0, .int .i64 0, .int .i64 0, .int .i64 0, .int .i64 0, .int .i64 0, .int .i64 0, .int .i64 0, .int .i64 0]) := by rw [hw3]; exact (F0.out.alloc _).alloc _
  have F1 : Hid (Blk w3 b1 [.int .i64 0, .int .i64 0, .int .i64 0]) := by rw [hw3]; exact (F1.out.alloc _).alloc _
  have F2 : Hid (Blk w3 b2 [.int .i64 h.fl, .int .i64 h.gp, .int .i64 h.ln, .int .i64 h.rf, .int .i64 h.sp, .int .i64 h.pu, .int .i64 h.br, .int .i64 h.dr, .int .i64 h.lv, .int .i64 h.dO, .int .i64 h.ld, .int .i64 h.qu]) := by rw [hw3]; exact (Blk.at_ w1 #[.int .i64 h.fl, .int .i64 h.gp, .int .i64 h.ln, .int .i64 h.rf, .int .i64 h.sp, .int .i64 h.pu, .int .i64 h.br, .int .i64 h.dr, .int .i64 h.lv, .int .i64 h.dO, .int .i64 h.ld, .int .i64 h.qu] _ _ hb2).alloc _
  have F3 : Hid (Blk w3 b3 [.int .i64 c.pos, .int .i64 c.vel, .int .i64 c.door]) := by rw [hw3]; exact Blk.at_ _ #[.int .i64 c.pos, .int .i64 c.vel, .int .i64 c.door] _ _ (by simp; omega)
  have FB : Hid (Below w.heap.size w w3) := by rw [hw3]; exact (FB.out.alloc FB.out.size _).alloc (by have := FB.out.size; simp; omega) _
  (try simp only [Act.put])
  rw [← hb2, ← hb3, ← hw3]
  clear hb2 hb3 hw3
  go_upto_region 2 with fail
  have F0 : Hid (Blk w3.drew b0 [.int .i64 0, .int .i64 0, .int .i64 0, .int .i64 0, .int .i64 0, .int .i64 0, .int .i64 0, .int .i64 0, .int .i64 0, .int .i64 0, .int .i64 0, .int .i64 0]) := F0.out.below (Below.refl _ _).drew F0.out.lt
  have F1 : Hid (Blk w3.drew b1 [.int .i64 0, .int .i64 0, .int .i64 0]) := F1.out.below (Below.refl _ _).drew F1.out.lt
  have F2 : Hid (Blk w3.drew b2 [.int .i64 h.fl, .int .i64 h.gp, .int .i64 h.ln, .int .i64 h.rf, .int .i64 h.sp, .int .i64 h.pu, .int .i64 h.br, .int .i64 h.dr, .int .i64 h.lv, .int .i64 h.dO, .int .i64 h.ld, .int .i64 h.qu]) := F2.out.below (Below.refl _ _).drew F2.out.lt
  have F3 : Hid (Blk w3.drew b3 [.int .i64 c.pos, .int .i64 c.vel, .int .i64 c.door]) := F3.out.below (Below.refl _ _).drew F3.out.lt
  have FB : Hid (Below w.heap.size w w3.drew) := FB.out.drew
  refine wp_region_held_drew (S := (fun w'' => Blk w'' b2 ([.int .i64 h.fl, .int .i64 h.gp, .int .i64 h.ln, .int .i64 h.rf, .int .i64 h.sp, .int .i64 h.pu, .int .i64 h.br, .int .i64 h.dr, .int .i64 h.lv, .int .i64 h.dO, .int .i64 h.ld, .int .i64 h.qu]) ∧ Blk w'' b3 ([.int .i64 c.pos, .int .i64 c.vel, .int .i64 c.door]))) (by kernel_rfl) (by (try dsimp only); first | exact ⟨F2.out, F3.out⟩ | go_keep) (fun hHeld => ?_)
  obtain ⟨v_6, hw1⟩ : ∃ v_6, v_6 = w3.drew := ⟨_, rfl⟩
  have F0 : Hid (Blk v_6 b0 [.int .i64 0, .int .i64 0, .int .i64 0, .int .i64 0, .int .i64 0, .int .i64 0, .int .i64 0, .int .i64 0, .int .i64 0, .int .i64 0, .int .i64 0, .int .i64 0]) := by rw [hw1]; exact F0.out
  have F1 : Hid (Blk v_6 b1 [.int .i64 0, .int .i64 0, .int .i64 0]) := by rw [hw1]; exact F1.out
  have F2 : Hid (Blk v_6 b2 [.int .i64 h.fl, .int .i64 h.gp, .int .i64 h.ln, .int .i64 h.rf, .int .i64 h.sp, .int .i64 h.pu, .int .i64 h.br, .int .i64 h.dr, .int .i64 h.lv, .int .i64 h.dO, .int .i64 h.ld, .int .i64 h.qu]) := by rw [hw1]; exact F2.out
  have F3 : Hid (Blk v_6 b3 [.int .i64 c.pos, .int .i64 c.vel, .int .i64 c.door]) := by rw [hw1]; exact F3.out
  have FB : Hid (Below w.heap.size w v_6) := by rw [hw1]; exact FB.out
  rw [← hw1] at hHeld ⊢
  clear hw1
  refine tkz 0 rfl ?_ (hy := Or.inl ⟨by kernel_rfl, fun wx hSw => exec_load_blk 27 _ Try.underlying27 (by kernel_rfl) rfl rfl hSw.1⟩)
  refine tkz 1 rfl ?_ (hy := Or.inl ⟨by kernel_rfl, fun wx hSw => exec_load_blk 34 _ Try.underlying34 (by kernel_rfl) rfl rfl hSw.2⟩)
  refine tkz 2 rfl ?_
  refine tkz 4 rfl ?_
  refine tkz 7 rfl ?_ (hy := Or.inl ⟨by kernel_rfl, fun wx hSw => exec_load_blk 27 _ Try.underlying27 (by kernel_rfl) rfl rfl hSw.1⟩)
  refine tkz 9 rfl ?_
  refine wpAnyH_ready (rs := [3]) (by kernel_rfl) (by simp) ?_
  refine (AllReadyH.cons rfl (fun K hK => ?_) AllReadyH.nil)
  refine step_ofE rfl ?_
  go_simp
  obtain ⟨ub, hub⟩ : ∃ ub, ub = v_6.heap.size := ⟨_, rfl⟩
  have lub : b3 < ub := by rw [hub]; exact F3.out.lt
  obtain ⟨v_7, hw2⟩ : ∃ v_7, v_7 = v_6.alloc (.cells #[.int .u8 9] 5) := ⟨_, rfl⟩
  have F0 : Hid (Blk v_7 b0 [.int .i64 0, .int .i64 0, .int .i64 0, .int .i64 0, .int .i64 0, .int .i64 0, .int .i64 0, .int .i64 0, .int .i64 0, .int .i64 0, .int .i64 0, .int .i64 0]) := by rw [hw2]; exact F0.out.alloc _
  have F1 : Hid (Blk v_7 b1 [.int .i64 0, .int .i64 0, .int .i64 0]) := by rw [hw2]; exact F1.out.alloc _
  have F2 : Hid (Blk v_7 b2 [.int .i64 h.fl, .int .i64 h.gp, .int .i64 h.ln, .int .i64 h.rf, .int .i64 h.sp, .int .i64 h.pu, .int .i64 h.br, .int .i64 h.dr, .int .i64 h.lv, .int .i64 h.dO, .int .i64 h.ld, .int .i64 h.qu]) := by rw [hw2]; exact F2.out.alloc _
  have F3 : Hid (Blk v_7 b3 [.int .i64 c.pos, .int .i64 c.vel, .int .i64 c.door]) := by rw [hw2]; exact F3.out.alloc _
  have FB : Hid (Below w.heap.size w v_7) := by rw [hw2]; exact FB.out.alloc FB.out.size _
  have FU : Hid (U1 v_7 ub 9) := by rw [hw2]; exact U1.new v_6 9 ub hub
  rw [← hw2, ← hub]
  clear hw2 hub
  refine hK.out _ _ (by (try dsimp only); first | exact ⟨F2.out, F3.out⟩ | go_keep) (fun hHeld => ?_)
  clear hK K
  try simp only [Act.put, List.getElem_toArray, List.getElem_cons_succ, List.getElem_cons_zero, List.setIfInBounds_toArray, List.set_cons_zero, List.set_cons_succ]
  refine wpAnyH_ready (rs := [5]) (by kernel_rfl) (by simp) ?_
  refine (AllReadyH.cons rfl (fun K hK => ?_) AllReadyH.nil)
  refine step_ofE rfl ?_
  refine wp_append_codeW (HC.out.keep fun b off hb _ => FB.out.cell (p := ⟨b, off, none⟩) hb) hl hz 9 (by decide) (by decide) ub FU.out _ _ rfl rfl rfl ?_
  intro cg cc v_8 hcode hg
  have HCD : Hid (CodeIn v_8 v_8.heap.size (some ⟨cg, 0, none⟩) (1 + len)) := hcode
  have F0 : Hid (Blk v_8 b0 [.int .i64 0, .int .i64 0, .int .i64 0, .int .i64 0, .int .i64 0, .int .i64 0, .int .i64 0, .int .i64 0, .int .i64 0, .int .i64 0, .int .i64 0, .int .i64 0]) := F0.out.grown hg (fun e => by have e2 := Option.some.inj e; omega)
  have F1 : Hid (Blk v_8 b1 [.int .i64 0, .int .i64 0, .int .i64 0]) := F1.out.grown hg (fun e => by have e2 := Option.some.inj e; omega)
  have F2 : Hid (Blk v_8 b2 [.int .i64 h.fl, .int .i64 h.gp, .int .i64 h.ln, .int .i64 h.rf, .int .i64 h.sp, .int .i64 h.pu, .int .i64 h.br, .int .i64 h.dr, .int .i64 h.lv, .int .i64 h.dO, .int .i64 h.ld, .int .i64 h.qu]) := F2.out.grown hg (fun e => by have e2 := Option.some.inj e; omega)
  have F3 : Hid (Blk v_8 b3 [.int .i64 c.pos, .int .i64 c.vel, .int .i64 c.door]) := F3.out.grown hg (fun e => by have e2 := Option.some.inj e; omega)
  have FB : Hid (Below w.heap.size w v_8) := below_gr FB.out hg (by omega)
  clear hcode hg
  refine hK.out _ _ (by (try dsimp only); first | exact ⟨F2.out, F3.out⟩ | go_keep) (fun hHeld => ?_)
  clear hK K
  try simp only [Act.put, List.getElem_toArray, List.getElem_cons_succ, List.getElem_cons_zero, List.setIfInBounds_toArray, List.set_cons_zero, List.set_cons_succ]
  refine wpAnyH_ready (rs := [6]) (by kernel_rfl) (by simp) ?_
  refine (AllReadyH.cons rfl (fun K hK => ?_) AllReadyH.nil)
  go_simp
  refine (l1Source_t _ (some ⟨cg, 0, none⟩) (1 + len) cc _ (Nat.le_refl _) HCD.out).mono ?_
  rintro e v_9 ⟨rfl, hs, hk⟩
  obtain ⟨sb, hsb⟩ : ∃ sb, sb = v_8.heap.size := ⟨_, rfl⟩
  rw [← hsb] at hs hk
  have FSR : Hid (SrcT v_9 sb sb (some ⟨cg, 0, none⟩) (1 + len) cc 0) := hs
  have nsb0 : b3 < sb := by rw [hsb]; exact F3.out.lt
  have nsb1 : w.heap.size ≤ sb := by rw [hsb]; exact FB.out.size
  have F0 : Hid (Blk v_9 b0 [.int .i64 0, .int .i64 0, .int .i64 0, .int .i64 0, .int .i64 0, .int .i64 0, .int .i64 0, .int .i64 0, .int .i64 0, .int .i64 0, .int .i64 0, .int .i64 0]) := F0.out.keeps hk (by have := F0.out.lt; omega)
  have F1 : Hid (Blk v_9 b1 [.int .i64 0, .int .i64 0, .int .i64 0]) := F1.out.keeps hk (by have := F1.out.lt; omega)
  have F2 : Hid (Blk v_9 b2 [.int .i64 h.fl, .int .i64 h.gp, .int .i64 h.ln, .int .i64 h.rf, .int .i64 h.sp, .int .i64 h.pu, .int .i64 h.br, .int .i64 h.dr, .int .i64 h.lv, .int .i64 h.dO, .int .i64 h.ld, .int .i64 h.qu]) := F2.out.keeps hk (by have := F2.out.lt; omega)
  have F3 : Hid (Blk v_9 b3 [.int .i64 c.pos, .int .i64 c.vel, .int .i64 c.door]) := F3.out.keeps hk (by have := F3.out.lt; omega)
  have FB : Hid (Below w.heap.size w v_9) := FB.out.trans (hk.below (by have := FB.out.size; omega) FB.out.size)
  rw [← hsb]
  clear hk hs hsb
  try dsimp only
  refine hK.out _ _ (by (try dsimp only); first | exact ⟨F2.out, F3.out⟩ | go_keep) (fun hHeld => ?_)
  clear hK K
  try simp only [Act.put, List.getElem_toArray, List.getElem_cons_succ, List.getElem_cons_zero, List.setIfInBounds_toArray, List.set_cons_zero, List.set_cons_succ]
  refine wpAnyH_ready (rs := [8]) (by kernel_rfl) (by simp) ?_
  refine (AllReadyH.cons rfl (fun K hK => ?_) AllReadyH.nil)
  go_simp
  refine (l13Riders_t h (by have := HBD.out; omega) (by have := HBD.out; omega) sb _ _ _ _ _ _ FSR.out (by omega)).mono ?_
  rintro e v_10 ⟨r, rfl, hs, hk⟩
  have F0 : Hid (Blk v_10 b0 [.int .i64 0, .int .i64 0, .int .i64 0, .int .i64 0, .int .i64 0, .int .i64 0, .int .i64 0, .int .i64 0, .int .i64 0, .int .i64 0, .int .i64 0, .int .i64 0]) := F0.out.keeps hk (by omega)
  have F1 : Hid (Blk v_10 b1 [.int .i64 0, .int .i64 0, .int .i64 0]) := F1.out.keeps hk (by omega)
  have F2 : Hid (Blk v_10 b2 [.int .i64 h.fl, .int .i64 h.gp, .int .i64 h.ln, .int .i64 h.rf, .int .i64 h.sp, .int .i64 h.pu, .int .i64 h.br, .int .i64 h.dr, .int .i64 h.lv, .int .i64 h.dO, .int .i64 h.ld, .int .i64 h.qu]) := F2.out.keeps hk (by omega)
  have F3 : Hid (Blk v_10 b3 [.int .i64 c.pos, .int .i64 c.vel, .int .i64 c.door]) := F3.out.keeps hk (by omega)
  have FB : Hid (Below w.heap.size w v_10) := FB.out.trans (hk.below (by omega) FB.out.size)
  clear hs hk
  try dsimp only
  refine hK.out _ _ (by (try dsimp only); first | exact ⟨F2.out, F3.out⟩ | go_keep) (fun hHeld => ?_)
  clear hK K
  try simp only [Act.put, List.getElem_toArray, List.getElem_cons_succ, List.getElem_cons_zero, List.setIfInBounds_toArray, List.set_cons_zero, List.set_cons_succ]
  refine wpAnyH_ready (rs := [10]) (by kernel_rfl) (by simp) ?_
  refine (AllReadyH.cons rfl (fun K hK => ?_) AllReadyH.nil)
  refine step_ofE rfl ?_
  refine wp_store_whole [.int .i64 h.fl, .int .i64 h.gp, .int .i64 h.ln, .int .i64 h.rf, .int .i64 h.sp, .int .i64 h.pu, .int .i64 h.br, .int .i64 h.dr, .int .i64 h.lv, .int .i64 h.dO, .int .i64 h.ld, .int .i64 h.qu] 27 _ _ (by kernel_rfl) (by kernel_rfl) F0.out rfl rfl rfl rfl ?_
  obtain ⟨v_11, hw2⟩ : ∃ q, q = putB v_10 b0 0 [.int .i64 h.fl, .int .i64 h.gp, .int .i64 h.ln, .int .i64 h.rf, .int .i64 h.sp, .int .i64 h.pu, .int .i64 h.br, .int .i64 h.dr, .int .i64 h.lv, .int .i64 h.dO, .int .i64 h.ld, .int .i64 h.qu] := ⟨_, rfl⟩
  rw [← hw2]
  have F0 : Hid (Blk v_11 b0 [.int .i64 h.fl, .int .i64 h.gp, .int .i64 h.ln, .int .i64 h.rf, .int .i64 h.sp, .int .i64 h.pu, .int .i64 h.br, .int .i64 h.dr, .int .i64 h.lv, .int .i64 h.dO, .int .i64 h.ld, .int .i64 h.qu]) := by rw [hw2]; exact F0.out.put [.int .i64 h.fl, .int .i64 h.gp, .int .i64 h.ln, .int .i64 h.rf, .int .i64 h.sp, .int .i64 h.pu, .int .i64 h.br, .int .i64 h.dr, .int .i64 h.lv, .int .i64 h.dO, .int .i64 h.ld, .int .i64 h.qu] rfl
  have F1 : Hid (Blk v_11 b1 [.int .i64 0, .int .i64 0, .int .i64 0]) := by rw [hw2]; exact Blk.putB_other (by omega) _ 0 F1.out
  have F2 : Hid (Blk v_11 b2 [.int .i64 h.fl, .int .i64 h.gp, .int .i64 h.ln, .int .i64 h.rf, .int .i64 h.sp, .int .i64 h.pu, .int .i64 h.br, .int .i64 h.dr, .int .i64 h.lv, .int .i64 h.dO, .int .i64 h.ld, .int .i64 h.qu]) := by rw [hw2]; exact Blk.putB_other (by omega) _ 0 F2.out
  have F3 : Hid (Blk v_11 b3 [.int .i64 c.pos, .int .i64 c.vel, .int .i64 c.door]) := by rw [hw2]; exact Blk.putB_other (by omega) _ 0 F3.out
  have FB : Hid (Below w.heap.size w v_11) := by rw [hw2]; exact below_putB FB.out (by omega) _ 0
  clear hw2
  refine hK.out _ _ (by (try dsimp only); first | exact ⟨F2.out, F3.out⟩ | go_keep) (fun hHeld => ?_)
  clear hK K
  try simp only [Act.put, List.getElem_toArray, List.getElem_cons_succ, List.getElem_cons_zero, List.setIfInBounds_toArray, List.set_cons_zero, List.set_cons_succ]
  refine wpAnyH_ready (rs := [11]) (by kernel_rfl) (by simp) ?_
  refine (AllReadyH.cons rfl (fun K hK => ?_) AllReadyH.nil)
  refine step_ofE rfl ?_
  refine wp_store_whole [.int .i64 c.pos, .int .i64 c.vel, .int .i64 c.door] 34 _ _ (by kernel_rfl) (by kernel_rfl) F1.out rfl rfl rfl rfl ?_
  obtain ⟨v_12, hw2⟩ : ∃ q, q = putB v_11 b1 0 [.int .i64 c.pos, .int .i64 c.vel, .int .i64 c.door] := ⟨_, rfl⟩
  rw [← hw2]
  have F0 : Hid (Blk v_12 b0 [.int .i64 h.fl, .int .i64 h.gp, .int .i64 h.ln, .int .i64 h.rf, .int .i64 h.sp, .int .i64 h.pu, .int .i64 h.br, .int .i64 h.dr, .int .i64 h.lv, .int .i64 h.dO, .int .i64 h.ld, .int .i64 h.qu]) := by rw [hw2]; exact Blk.putB_other (by omega) _ 0 F0.out
  have F1 : Hid (Blk v_12 b1 [.int .i64 c.pos, .int .i64 c.vel, .int .i64 c.door]) := by rw [hw2]; exact F1.out.put [.int .i64 c.pos, .int .i64 c.vel, .int .i64 c.door] rfl
  have F2 : Hid (Blk v_12 b2 [.int .i64 h.fl, .int .i64 h.gp, .int .i64 h.ln, .int .i64 h.rf, .int .i64 h.sp, .int .i64 h.pu, .int .i64 h.br, .int .i64 h.dr, .int .i64 h.lv, .int .i64 h.dO, .int .i64 h.ld, .int .i64 h.qu]) := by rw [hw2]; exact Blk.putB_other (by omega) _ 0 F2.out
  have F3 : Hid (Blk v_12 b3 [.int .i64 c.pos, .int .i64 c.vel, .int .i64 c.door]) := by rw [hw2]; exact Blk.putB_other (by omega) _ 0 F3.out
  have FB : Hid (Below w.heap.size w v_12) := by rw [hw2]; exact below_putB FB.out (by omega) _ 0
  clear hw2
  refine hK.out _ _ (by (try dsimp only); first | exact ⟨F2.out, F3.out⟩ | go_keep) (fun hHeld => ?_)
  clear hK K
  try simp only [Act.put, List.getElem_toArray, List.getElem_cons_succ, List.getElem_cons_zero, List.setIfInBounds_toArray, List.set_cons_zero, List.set_cons_succ]
  refine tkz 12 rfl ?_
  refine tkz 13 rfl ?_
  refine tkz 14 rfl ?_
  refine wpAnyH_done (by kernel_rfl) ?_ _
  have d0 := F0.out.c 0 _ rfl
  have d1 := F0.out.c 1 _ rfl
  have d2 := F0.out.c 2 _ rfl
  have d3 := F0.out.c 3 _ rfl
  have d4 := F0.out.c 4 _ rfl
  have d5 := F0.out.c 5 _ rfl
  have d6 := F0.out.c 6 _ rfl
  have d7 := F0.out.c 7 _ rfl
  have d8 := F0.out.c 8 _ rfl
  have d9 := F0.out.c 9 _ rfl
  have d10 := F0.out.c 10 _ rfl
  have d11 := F0.out.c 11 _ rfl
  have k0 := F1.out.c 0 _ rfl
  have k1 := F1.out.c 1 _ rfl
  have k2 := F1.out.c 2 _ rfl
  go_wp2_with fail
  exact bodyPost_ret (v := .tuple #[.agg #[.int .i64 h.fl, .int .i64 h.gp, .int .i64 h.ln, .int .i64 h.rf, .int .i64 h.sp, .int .i64 h.pu, .int .i64 h.br, .int .i64 h.dr, .int .i64 h.lv, .int .i64 h.dO, .int .i64 h.ld, .int .i64 h.qu], .agg #[.int .i64 c.pos, .int .i64 c.vel, .int .i64 c.door], .int .i64 f, .int .i64 r, .int .i64 t]) (by simp [results, Try.results28, go_sem, d0, d1, d2, d3, d4, d5, d6, d7, d8, d9, d10, d11, k0, k1, k2]) rfl ⟨h, c, f, r, t, rfl, FB.out⟩
end Go.Proofs.Ytngdfckknkgdgaa
