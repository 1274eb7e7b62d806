/-
  What went in less what came out and was lost in a run is what a car has more than it had, over every draw, with no condition.
-/
import Derived.Test.YtngdfckknkgdgaaRows
import Derived.WalkKit
import Derived.ProofKit
import Derived.OpenShut
import Derived.ShutString
import Derived.ChangeOld
import Derived.Below
import Derived.Test.YtngdfckknkgdgaaEnJ
import Derived.Test.YtngdfckknkgdgaaEnR
import Derived.Test.YtngdfckknkgdgaaSrc
import Derived.Test.YtngdfckknkgdgaaEnB
import Derived.Test.YtngdfckknkgdgaaCarT
import Derived.Test.YtngdfckknkgdgaaFnd
import Derived.Test.YtngdfckknkgdgaaDrx
import Derived.Test.YtngdfckknkgdgaaDrawL
namespace Go.Proofs.Ytngdfckknkgdgaa
open Go.RowKit Pl
set_option linter.unusedSimpArgs false
set_option linter.unusedVariables false

theorem below_gr {g : Nat} {w0 w w' : World} (h : Below w0.heap.size w0 w) (hg : w.grownBy w' (some g)) (hB : w0.heap.size ≤ g) : Below w0.heap.size w0 w' := h.grown hg h.size (fun j hj => by have e : g = j := Option.some.inj hj; omega)
set_option maxRecDepth 20000 in
set_option maxHeartbeats 16000000 in
theorem DrawRunTo_any (a : Option Addr) (len cap : Nat) (w : World) (hc : CodeIn w w.heap.size a len) :
    Calls Try.prog 56 #[.slice a len cap] w fun e w' => ∃ (h : Hs) (c : Cs) (f t : Int), e = .returned (.tuple #[.agg #[.int .i64 h.fl, .int .i64 h.gp, .int .i64 h.ln, .int .i64 h.rf, .int .i64 h.sp, .int .i64 h.pu, .int .i64 h.br, .int .i64 h.dr, .int .i64 h.lv, .int .i64 h.dO, .int .i64 h.ld, .int .i64 h.qu], .agg #[.int .i64 c.pos, .int .i64 c.vel, .int .i64 c.door], .int .i64 f, .int .i64 t]) ∧ ((0 ≤ h.ld ∧ h.ld ≤ 21) ∧ (1 ≤ h.fl ∧ h.fl ≤ 13)) ∧ Below w.heap.size w w' := by
  obtain ⟨b0, hb0⟩ : ∃ b0, b0 = w.heap.size := ⟨_, rfl⟩
  obtain ⟨b1, hb1⟩ : ∃ b1, b1 = b0 + 1 := ⟨_, rfl⟩
  obtain ⟨W0, hW0⟩ : ∃ W0, W0 = (w.alloc (.cells #[.int .i64 0, .int .i64 0, .int .i64 0, .int .i64 0, .int .i64 0, .int .i64 0, .int .i64 0, .int .i64 0, .int .i64 0, .int .i64 0, .int .i64 0, .int .i64 0] 27)).alloc (.cells #[.int .i64 0, .int .i64 0, .int .i64 0] 34) := ⟨_, rfl⟩
  have FB : Hid (Below w.heap.size w W0) := by rw [hW0]; exact ((Below.refl _ _).alloc (Nat.le_refl _) _).alloc (by simp) _
  have HC : Hid (CodeIn w w.heap.size a len) := hc
  have F0 : Hid (Blk W0 b0 [.int .i64 0, .int .i64 0, .int .i64 0, .int .i64 0, .int .i64 0, .int .i64 0, .int .i64 0, .int .i64 0, .int .i64 0, .int .i64 0, .int .i64 0, .int .i64 0]) := by rw [hW0]; exact (Blk.at_ w #[.int .i64 0, .int .i64 0, .int .i64 0, .int .i64 0, .int .i64 0, .int .i64 0, .int .i64 0, .int .i64 0, .int .i64 0, .int .i64 0, .int .i64 0, .int .i64 0] _ _ hb0).alloc _
  have F1 : Hid (Blk W0 b1 [.int .i64 0, .int .i64 0, .int .i64 0]) := by rw [hW0]; exact Blk.at_ _ #[.int .i64 0, .int .i64 0, .int .i64 0] _ _ (by simp; omega)
  have l01 : b0 < b1 := by omega
  have leb0 : w.heap.size ≤ b0 := by omega
  have leb1 : w.heap.size ≤ b1 := by omega
  clear hc
  go_enter Try.func56, Try.ntmps56
  go_upto_region 1 with fail
  rw [← hb0, ← hb1, ← hW0]
  clear hb0 hb1 hW0
  go_upto_region 2 with (go_at_call 78; refine (l4Draw_any a len cap _ ((HC.out.keep fun b off hb _ => FB.out.cell (p := ⟨b, off, none⟩) hb).up FB.out.size)).mono ?_; rintro e w1 ⟨h, c, f, rfl, hbd, hb⟩; have HBD : Hid ((0 ≤ h.ld ∧ h.ld ≤ 21) ∧ (1 ≤ h.fl ∧ h.fl ≤ 13)) := hbd; have F0 : Hid (Blk w1 b0 [.int .i64 0, .int .i64 0, .int .i64 0, .int .i64 0, .int .i64 0, .int .i64 0, .int .i64 0, .int .i64 0, .int .i64 0, .int .i64 0, .int .i64 0, .int .i64 0]) := F0.out.below hb F0.out.lt; have F1 : Hid (Blk w1 b1 [.int .i64 0, .int .i64 0, .int .i64 0]) := F1.out.below hb F1.out.lt; have FB : Hid (Below w.heap.size w w1) := FB.out.trans (hb.mono FB.out.size); clear hb hbd)
  obtain ⟨b2, hb2⟩ : ∃ b2, b2 = w1.heap.size := ⟨_, rfl⟩
  obtain ⟨b3, hb3⟩ : ∃ b3, b3 = b2 + 1 := ⟨_, rfl⟩
  obtain ⟨w3, hw3⟩ : ∃ w3, w3 = (w1.alloc (.cells #[.int .i64 h.fl, .int .i64 h.gp, .int .i64 h.ln, .int .i64 h.rf, .int .i64 h.sp, .int .i64 h.pu, .int .i64 h.br, .int .i64 h.dr, .int .i64 h.lv, .int .i64 h.dO, .int .i64 h.ld, .int .i64 h.qu] 27)).alloc (.cells #[.int .i64 c.pos, .int .i64 c.vel, .int .i64 c.door] 34) := ⟨_, rfl⟩
  have l02 : b0 < b2 := by rw [hb2]; exact F0.out.lt
  have l12 : b1 < b2 := by rw [hb2]; exact F1.out.lt
  have l23 : b2 < b3 := by omega
  have F0 : Hid (Blk w3 b0 [.int .i64 0, .int .i64 0, .int .i64 0, .int .i64 0, .int .i64 0, .int .i64 0, .int .i64 0, .int .i64 0, .int .i64 0, .int .i64 0, .int .i64 0, .int .i64 0]) := by rw [hw3]; exact (F0.out.alloc _).alloc _
  have F1 : Hid (Blk w3 b1 [.int .i64 0, .int .i64 0, .int .i64 0]) := by rw [hw3]; exact (F1.out.alloc _).alloc _
  have F2 : Hid (Blk w3 b2 [.int .i64 h.fl, .int .i64 h.gp, .int .i64 h.ln, .int .i64 h.rf, .int .i64 h.sp, .int .i64 h.pu, .int .i64 h.br, .int .i64 h.dr, .int .i64 h.lv, .int .i64 h.dO, .int .i64 h.ld, .int .i64 h.qu]) := by rw [hw3]; exact (Blk.at_ w1 #[.int .i64 h.fl, .int .i64 h.gp, .int .i64 h.ln, .int .i64 h.rf, .int .i64 h.sp, .int .i64 h.pu, .int .i64 h.br, .int .i64 h.dr, .int .i64 h.lv, .int .i64 h.dO, .int .i64 h.ld, .int .i64 h.qu] _ _ hb2).alloc _
  have F3 : Hid (Blk w3 b3 [.int .i64 c.pos, .int .i64 c.vel, .int .i64 c.door]) := by rw [hw3]; exact Blk.at_ _ #[.int .i64 c.pos, .int .i64 c.vel, .int .i64 c.door] _ _ (by simp; omega)
  have FB : Hid (Below w.heap.size w w3) := by rw [hw3]; exact (FB.out.alloc FB.out.size _).alloc (by have := FB.out.size; simp; omega) _
  (try simp only [Act.put])
  rw [← hb2, ← hb3, ← hw3]
  clear hb2 hb3 hw3
  obtain ⟨sb, hsb⟩ : ∃ sb, sb = w3.heap.size := ⟨_, rfl⟩
  have HSB : Hid (sb = w3.heap.size) := hsb
  have n3 : b3 < sb := by rw [hsb]; exact F3.out.lt
  have nsb : w.heap.size ≤ sb := by omega
  have FK : Hid (Keeps sb w w3) := ⟨FB.out.os, FB.out.tape, FB.out.output, FB.out.size, fun i hi _ => FB.out.block i hi⟩
  clear hsb
  go_upto_region 3 with (go_at_call 58; refine (l1Source_t w.heap.size a len cap _ FB.out.size (HC.out.keep fun b off hb _ => FB.out.cell (p := ⟨b, off, none⟩) hb)).mono ?_; rw [← HSB.out]; rintro e w4 ⟨rfl, hs, hk⟩; have F0 : Hid (Blk w4 b0 [.int .i64 0, .int .i64 0, .int .i64 0, .int .i64 0, .int .i64 0, .int .i64 0, .int .i64 0, .int .i64 0, .int .i64 0, .int .i64 0, .int .i64 0, .int .i64 0]) := F0.out.keeps hk (by omega); have F1 : Hid (Blk w4 b1 [.int .i64 0, .int .i64 0, .int .i64 0]) := F1.out.keeps hk (by omega); have F2 : Hid (Blk w4 b2 [.int .i64 h.fl, .int .i64 h.gp, .int .i64 h.ln, .int .i64 h.rf, .int .i64 h.sp, .int .i64 h.pu, .int .i64 h.br, .int .i64 h.dr, .int .i64 h.lv, .int .i64 h.dO, .int .i64 h.ld, .int .i64 h.qu]) := F2.out.keeps hk (by omega); have F3 : Hid (Blk w4 b3 [.int .i64 c.pos, .int .i64 c.vel, .int .i64 c.door]) := F3.out.keeps hk (by omega); have FS : Hid (SrcT w4 sb w.heap.size a len cap 0) := hs; have FK : Hid (Keeps sb w w4) := FK.out.trans hk; clear hs hk)
  clear HC HSB FB
  have F0 : Hid (Blk w4.drew b0 [.int .i64 0, .int .i64 0, .int .i64 0, .int .i64 0, .int .i64 0, .int .i64 0, .int .i64 0, .int .i64 0, .int .i64 0, .int .i64 0, .int .i64 0, .int .i64 0]) := F0.out.below (Below.refl _ _).drew F0.out.lt
  have F1 : Hid (Blk w4.drew b1 [.int .i64 0, .int .i64 0, .int .i64 0]) := F1.out.below (Below.refl _ _).drew F1.out.lt
  have F2 : Hid (Blk w4.drew b2 [.int .i64 h.fl, .int .i64 h.gp, .int .i64 h.ln, .int .i64 h.rf, .int .i64 h.sp, .int .i64 h.pu, .int .i64 h.br, .int .i64 h.dr, .int .i64 h.lv, .int .i64 h.dO, .int .i64 h.ld, .int .i64 h.qu]) := F2.out.below (Below.refl _ _).drew F2.out.lt
  have F3 : Hid (Blk w4.drew b3 [.int .i64 c.pos, .int .i64 c.vel, .int .i64 c.door]) := F3.out.below (Below.refl _ _).drew F3.out.lt
  have FS : Hid (SrcT w4.drew sb w.heap.size a len cap 0) := FS.out.drew
  have FK : Hid (Keeps sb w w4.drew) := FK.out.of_below (Below.refl _ _).drew
  refine wp_region_held_drew (S := (fun w'' => Blk w'' b2 ([.int .i64 h.fl, .int .i64 h.gp, .int .i64 h.ln, .int .i64 h.rf, .int .i64 h.sp, .int .i64 h.pu, .int .i64 h.br, .int .i64 h.dr, .int .i64 h.lv, .int .i64 h.dO, .int .i64 h.ld, .int .i64 h.qu]) ∧ Blk w'' b3 ([.int .i64 c.pos, .int .i64 c.vel, .int .i64 c.door]))) (by kernel_rfl) (by (try dsimp only); first | exact ⟨F2.out, F3.out⟩ | go_keep) (fun hHeld => ?_)
  obtain ⟨v_1, hw1⟩ : ∃ v_1, v_1 = w4.drew := ⟨_, rfl⟩
  have F0 : Hid (Blk v_1 b0 [.int .i64 0, .int .i64 0, .int .i64 0, .int .i64 0, .int .i64 0, .int .i64 0, .int .i64 0, .int .i64 0, .int .i64 0, .int .i64 0, .int .i64 0, .int .i64 0]) := by rw [hw1]; exact F0.out
  have F1 : Hid (Blk v_1 b1 [.int .i64 0, .int .i64 0, .int .i64 0]) := by rw [hw1]; exact F1.out
  have F2 : Hid (Blk v_1 b2 [.int .i64 h.fl, .int .i64 h.gp, .int .i64 h.ln, .int .i64 h.rf, .int .i64 h.sp, .int .i64 h.pu, .int .i64 h.br, .int .i64 h.dr, .int .i64 h.lv, .int .i64 h.dO, .int .i64 h.ld, .int .i64 h.qu]) := by rw [hw1]; exact F2.out
  have F3 : Hid (Blk v_1 b3 [.int .i64 c.pos, .int .i64 c.vel, .int .i64 c.door]) := by rw [hw1]; exact F3.out
  have FS : Hid (SrcT v_1 sb w.heap.size a len cap 0) := by rw [hw1]; exact FS.out
  have FK : Hid (Keeps sb w v_1) := by rw [hw1]; exact FK.out
  rw [← hw1] at hHeld ⊢
  clear hw1
  refine tkz 0 rfl ?_ (hy := Or.inl ⟨by kernel_rfl, fun wx hSw => exec_load_blk 27 _ Try.underlying27 (by kernel_rfl) rfl rfl hSw.1⟩)
  refine tkz 1 rfl ?_ (hy := Or.inl ⟨by kernel_rfl, fun wx hSw => exec_load_blk 34 _ Try.underlying34 (by kernel_rfl) rfl rfl hSw.2⟩)
  refine tkz 2 rfl ?_
  refine tkz 3 rfl ?_
  refine wpAnyH_ready (rs := [4]) (by kernel_rfl) (by simp) ?_
  refine (AllReadyH.cons rfl (fun K hK => ?_) AllReadyH.nil)
  go_simp
  obtain ⟨lb0, hbb⟩ : ∃ lb0, lb0 = v_1.heap.size := ⟨_, rfl⟩
  obtain ⟨v_2, hw2⟩ : ∃ v_2, v_2 = v_1.alloc (.cells #[.int .i64 300, .int .i64 1000, .int .i64 10, .int .i64 0, .int .i64 3000, .int .i64 3001, .int .i64 (-1)] 2) := ⟨_, rfl⟩
  have nlb0_0 := F0.out.lt
  rw [← hbb] at nlb0_0
  have nlb0_1 := F1.out.lt
  rw [← hbb] at nlb0_1
  have nlb0_2 := F2.out.lt
  rw [← hbb] at nlb0_2
  have nlb0_3 := F3.out.lt
  rw [← hbb] at nlb0_3
  have nlb0_s := FS.out.lt
  rw [← hbb] at nlb0_s
  have FL0 : Hid (LstAt v_2 lb0 [300, 1000, 10, 0, 3000, 3001, (-1)]) := by rw [hw2]; exact LstAt.new v_1 [300, 1000, 10, 0, 3000, 3001, (-1)] 2 lb0 hbb (by simp)
  have F0 : Hid (Blk v_2 b0 [.int .i64 0, .int .i64 0, .int .i64 0, .int .i64 0, .int .i64 0, .int .i64 0, .int .i64 0, .int .i64 0, .int .i64 0, .int .i64 0, .int .i64 0, .int .i64 0]) := by rw [hw2]; exact F0.out.alloc _
  have F1 : Hid (Blk v_2 b1 [.int .i64 0, .int .i64 0, .int .i64 0]) := by rw [hw2]; exact F1.out.alloc _
  have F2 : Hid (Blk v_2 b2 [.int .i64 h.fl, .int .i64 h.gp, .int .i64 h.ln, .int .i64 h.rf, .int .i64 h.sp, .int .i64 h.pu, .int .i64 h.br, .int .i64 h.dr, .int .i64 h.lv, .int .i64 h.dO, .int .i64 h.ld, .int .i64 h.qu]) := by rw [hw2]; exact F2.out.alloc _
  have F3 : Hid (Blk v_2 b3 [.int .i64 c.pos, .int .i64 c.vel, .int .i64 c.door]) := by rw [hw2]; exact F3.out.alloc _
  have FS : Hid (SrcT v_2 sb w.heap.size a len cap 0) := by rw [hw2]; exact FS.out.alloc _
  have FK : Hid (Keeps sb w v_2) := by rw [hw2]; exact FK.out.alloc _
  rw [← hw2, ← hbb]
  clear hbb hw2
  refine hK.out _ _ (by (try dsimp only); first | exact ⟨F2.out, F3.out⟩ | go_keep) (fun hHeld => ?_)
  clear hK K
  try simp only [Act.put, List.getElem_toArray, List.getElem_cons_succ, List.getElem_cons_zero, List.setIfInBounds_toArray, List.set_cons_zero, List.set_cons_succ]
  refine wpAnyH_ready (rs := [5]) (by kernel_rfl) (by simp) ?_
  refine (AllReadyH.cons rfl (fun K hK => ?_) AllReadyH.nil)
  go_simp
  refine (l1Pick_t sb _ lb0 [300, 1000, 10, 0, 3000, 3001, (-1)] (fun _ => True) (fun _ _ => trivial) a len cap _ _ FS.out (by omega) FL0.out (by simp) (by omega)).mono ?_
  rintro e v_3 ⟨v9, rfl, -, hs, hk⟩
  have F0 : Hid (Blk v_3 b0 [.int .i64 0, .int .i64 0, .int .i64 0, .int .i64 0, .int .i64 0, .int .i64 0, .int .i64 0, .int .i64 0, .int .i64 0, .int .i64 0, .int .i64 0, .int .i64 0]) := F0.out.keeps hk (by omega)
  have F1 : Hid (Blk v_3 b1 [.int .i64 0, .int .i64 0, .int .i64 0]) := F1.out.keeps hk (by omega)
  have F2 : Hid (Blk v_3 b2 [.int .i64 h.fl, .int .i64 h.gp, .int .i64 h.ln, .int .i64 h.rf, .int .i64 h.sp, .int .i64 h.pu, .int .i64 h.br, .int .i64 h.dr, .int .i64 h.lv, .int .i64 h.dO, .int .i64 h.ld, .int .i64 h.qu]) := F2.out.keeps hk (by omega)
  have F3 : Hid (Blk v_3 b3 [.int .i64 c.pos, .int .i64 c.vel, .int .i64 c.door]) := F3.out.keeps hk (by omega)
  have FS : Hid (SrcT v_3 sb w.heap.size a len cap (0 + 1)) := hs
  have FK : Hid (Keeps sb w v_3) := FK.out.trans hk
  have FL0 : Hid (LstAt v_3 lb0 [300, 1000, 10, 0, 3000, 3001, (-1)]) := FL0.out.keeps hk (by omega)
  clear hs hk
  try dsimp only
  refine hK.out _ _ (by (try dsimp only); first | exact ⟨F2.out, F3.out⟩ | go_keep) (fun hHeld => ?_)
  clear hK K
  try simp only [Act.put, List.getElem_toArray, List.getElem_cons_succ, List.getElem_cons_zero, List.setIfInBounds_toArray, List.set_cons_zero, List.set_cons_succ]
  refine wpAnyH_ready (rs := [6]) (by kernel_rfl) (by simp) ?_
  refine (AllReadyH.cons rfl (fun K hK => ?_) AllReadyH.nil)
  refine step_ofE rfl ?_
  refine wp_store_whole [.int .i64 h.fl, .int .i64 h.gp, .int .i64 h.ln, .int .i64 h.rf, .int .i64 h.sp, .int .i64 h.pu, .int .i64 h.br, .int .i64 h.dr, .int .i64 h.lv, .int .i64 h.dO, .int .i64 h.ld, .int .i64 h.qu] 27 _ _ (by kernel_rfl) (by kernel_rfl) F0.out rfl rfl rfl rfl ?_
  obtain ⟨v_4, hw2⟩ : ∃ q, q = putB v_3 b0 0 [.int .i64 h.fl, .int .i64 h.gp, .int .i64 h.ln, .int .i64 h.rf, .int .i64 h.sp, .int .i64 h.pu, .int .i64 h.br, .int .i64 h.dr, .int .i64 h.lv, .int .i64 h.dO, .int .i64 h.ld, .int .i64 h.qu] := ⟨_, rfl⟩
  rw [← hw2]
  have F0 : Hid (Blk v_4 b0 [.int .i64 h.fl, .int .i64 h.gp, .int .i64 h.ln, .int .i64 h.rf, .int .i64 h.sp, .int .i64 h.pu, .int .i64 h.br, .int .i64 h.dr, .int .i64 h.lv, .int .i64 h.dO, .int .i64 h.ld, .int .i64 h.qu]) := by rw [hw2]; exact F0.out.put [.int .i64 h.fl, .int .i64 h.gp, .int .i64 h.ln, .int .i64 h.rf, .int .i64 h.sp, .int .i64 h.pu, .int .i64 h.br, .int .i64 h.dr, .int .i64 h.lv, .int .i64 h.dO, .int .i64 h.ld, .int .i64 h.qu] rfl
  have F1 : Hid (Blk v_4 b1 [.int .i64 0, .int .i64 0, .int .i64 0]) := by rw [hw2]; exact Blk.putB_other (by omega) _ 0 F1.out
  have F2 : Hid (Blk v_4 b2 [.int .i64 h.fl, .int .i64 h.gp, .int .i64 h.ln, .int .i64 h.rf, .int .i64 h.sp, .int .i64 h.pu, .int .i64 h.br, .int .i64 h.dr, .int .i64 h.lv, .int .i64 h.dO, .int .i64 h.ld, .int .i64 h.qu]) := by rw [hw2]; exact Blk.putB_other (by omega) _ 0 F2.out
  have F3 : Hid (Blk v_4 b3 [.int .i64 c.pos, .int .i64 c.vel, .int .i64 c.door]) := by rw [hw2]; exact Blk.putB_other (by omega) _ 0 F3.out
  have FS : Hid (SrcT v_4 sb w.heap.size a len cap (0 + 1)) := by rw [hw2]; exact SrcT.putB (by omega) (by omega) _ 0 FS.out
  have FK : Hid (Keeps sb w v_4) := by rw [hw2]; exact Keeps.putB (by omega) _ 0 FK.out
  clear hw2
  refine hK.out _ _ (by (try dsimp only); first | exact ⟨F2.out, F3.out⟩ | go_keep) (fun hHeld => ?_)
  clear hK K
  try simp only [Act.put, List.getElem_toArray, List.getElem_cons_succ, List.getElem_cons_zero, List.setIfInBounds_toArray, List.set_cons_zero, List.set_cons_succ]
  refine wpAnyH_ready (rs := [7]) (by kernel_rfl) (by simp) ?_
  refine (AllReadyH.cons rfl (fun K hK => ?_) AllReadyH.nil)
  refine step_ofE rfl ?_
  refine wp_store_whole [.int .i64 c.pos, .int .i64 c.vel, .int .i64 c.door] 34 _ _ (by kernel_rfl) (by kernel_rfl) F1.out rfl rfl rfl rfl ?_
  obtain ⟨v_5, hw2⟩ : ∃ q, q = putB v_4 b1 0 [.int .i64 c.pos, .int .i64 c.vel, .int .i64 c.door] := ⟨_, rfl⟩
  rw [← hw2]
  have F0 : Hid (Blk v_5 b0 [.int .i64 h.fl, .int .i64 h.gp, .int .i64 h.ln, .int .i64 h.rf, .int .i64 h.sp, .int .i64 h.pu, .int .i64 h.br, .int .i64 h.dr, .int .i64 h.lv, .int .i64 h.dO, .int .i64 h.ld, .int .i64 h.qu]) := by rw [hw2]; exact Blk.putB_other (by omega) _ 0 F0.out
  have F1 : Hid (Blk v_5 b1 [.int .i64 c.pos, .int .i64 c.vel, .int .i64 c.door]) := by rw [hw2]; exact F1.out.put [.int .i64 c.pos, .int .i64 c.vel, .int .i64 c.door] rfl
  have F2 : Hid (Blk v_5 b2 [.int .i64 h.fl, .int .i64 h.gp, .int .i64 h.ln, .int .i64 h.rf, .int .i64 h.sp, .int .i64 h.pu, .int .i64 h.br, .int .i64 h.dr, .int .i64 h.lv, .int .i64 h.dO, .int .i64 h.ld, .int .i64 h.qu]) := by rw [hw2]; exact Blk.putB_other (by omega) _ 0 F2.out
  have F3 : Hid (Blk v_5 b3 [.int .i64 c.pos, .int .i64 c.vel, .int .i64 c.door]) := by rw [hw2]; exact Blk.putB_other (by omega) _ 0 F3.out
  have FS : Hid (SrcT v_5 sb w.heap.size a len cap (0 + 1)) := by rw [hw2]; exact SrcT.putB (by omega) (by omega) _ 0 FS.out
  have FK : Hid (Keeps sb w v_5) := by rw [hw2]; exact Keeps.putB (by omega) _ 0 FK.out
  clear hw2
  refine hK.out _ _ (by (try dsimp only); first | exact ⟨F2.out, F3.out⟩ | go_keep) (fun hHeld => ?_)
  clear hK K
  try simp only [Act.put, List.getElem_toArray, List.getElem_cons_succ, List.getElem_cons_zero, List.setIfInBounds_toArray, List.set_cons_zero, List.set_cons_succ]
  refine tkz 8 rfl ?_
  refine tkz 9 rfl ?_
  refine wpAnyH_done (by kernel_rfl) ?_ _
  have FB : Below w.heap.size w v_5 := FK.out.below (by omega) (Nat.le_refl _)
  have d0 := F0.out.c 0 _ rfl
  have d1 := F0.out.c 1 _ rfl
  have d2 := F0.out.c 2 _ rfl
  have d3 := F0.out.c 3 _ rfl
  have d4 := F0.out.c 4 _ rfl
  have d5 := F0.out.c 5 _ rfl
  have d6 := F0.out.c 6 _ rfl
  have d7 := F0.out.c 7 _ rfl
  have d8 := F0.out.c 8 _ rfl
  have d9 := F0.out.c 9 _ rfl
  have d10 := F0.out.c 10 _ rfl
  have d11 := F0.out.c 11 _ rfl
  have k0 := F1.out.c 0 _ rfl
  have k1 := F1.out.c 1 _ rfl
  have k2 := F1.out.c 2 _ rfl
  go_wp2_with fail
  exact bodyPost_ret (v := .tuple #[.agg #[.int .i64 h.fl, .int .i64 h.gp, .int .i64 h.ln, .int .i64 h.rf, .int .i64 h.sp, .int .i64 h.pu, .int .i64 h.br, .int .i64 h.dr, .int .i64 h.lv, .int .i64 h.dO, .int .i64 h.ld, .int .i64 h.qu], .agg #[.int .i64 c.pos, .int .i64 c.vel, .int .i64 c.door], .int .i64 f, .int .i64 v9]) (by simp [results, Try.results56, go_sem, d0, d1, d2, d3, d4, d5, d6, d7, d8, d9, d10, d11, k0, k1, k2]) rfl ⟨h, c, f, v9, rfl, HBD.out, FB⟩
set_option maxRecDepth 20000 in
set_option maxHeartbeats 16000000 in
theorem DrawBookRun_any (a : Option Addr) (len cap : Nat) (w : World) (hc : CodeIn w w.heap.size a len) (hl : len ≤ 1048576) (hz : a = none → len = 0 ∧ cap = 0) :
    Calls Try.prog 28 #[.slice a len cap] w fun e w' => ∃ (h : Hs) (c : Cs) (f r t : Int), e = .returned (.tuple #[.agg #[.int .i64 h.fl, .int .i64 h.gp, .int .i64 h.ln, .int .i64 h.rf, .int .i64 h.sp, .int .i64 h.pu, .int .i64 h.br, .int .i64 h.dr, .int .i64 h.lv, .int .i64 h.dO, .int .i64 h.ld, .int .i64 h.qu], .agg #[.int .i64 c.pos, .int .i64 c.vel, .int .i64 c.door], .int .i64 f, .int .i64 r, .int .i64 t]) ∧ Below w.heap.size w w' := by
  obtain ⟨b0, hb0⟩ : ∃ b0, b0 = w.heap.size := ⟨_, rfl⟩
  obtain ⟨b1, hb1⟩ : ∃ b1, b1 = b0 + 1 := ⟨_, rfl⟩
  obtain ⟨W0, hW0⟩ : ∃ W0, W0 = (w.alloc (.cells #[.int .i64 0, .int .i64 0, .int .i64 0, .int .i64 0, .int .i64 0, .int .i64 0, .int .i64 0, .int .i64 0, .int .i64 0, .int .i64 0, .int .i64 0, .int .i64 0] 27)).alloc (.cells #[.int .i64 0, .int .i64 0, .int .i64 0] 34) := ⟨_, rfl⟩
  have FB : Hid (Below w.heap.size w W0) := by rw [hW0]; exact ((Below.refl _ _).alloc (Nat.le_refl _) _).alloc (by simp) _
  have HC : Hid (CodeIn w w.heap.size a len) := hc
  have F0 : Hid (Blk W0 b0 [.int .i64 0, .int .i64 0, .int .i64 0, .int .i64 0, .int .i64 0, .int .i64 0, .int .i64 0, .int .i64 0, .int .i64 0, .int .i64 0, .int .i64 0, .int .i64 0]) := by rw [hW0]; exact (Blk.at_ w #[.int .i64 0, .int .i64 0, .int .i64 0, .int .i64 0, .int .i64 0, .int .i64 0, .int .i64 0, .int .i64 0, .int .i64 0, .int .i64 0, .int .i64 0, .int .i64 0] _ _ hb0).alloc _
  have F1 : Hid (Blk W0 b1 [.int .i64 0, .int .i64 0, .int .i64 0]) := by rw [hW0]; exact Blk.at_ _ #[.int .i64 0, .int .i64 0, .int .i64 0] _ _ (by simp; omega)
  have l01 : b0 < b1 := by omega
  have leb0 : w.heap.size ≤ b0 := by omega
  have leb1 : w.heap.size ≤ b1 := by omega
  clear hc
  go_enter Try.func28, Try.ntmps28
  go_upto_region 1 with fail
  rw [← hb0, ← hb1, ← hW0]
  clear hb0 hb1 hW0
  go_upto_region 2 with (go_at_call 56; refine (DrawRunTo_any a len cap _ ((HC.out.keep fun b off hb _ => FB.out.cell (p := ⟨b, off, none⟩) hb).up FB.out.size)).mono ?_; rintro e w1 ⟨h, c, f, t, rfl, hbd, hb⟩; have HBD : Hid ((0 ≤ h.ld ∧ h.ld ≤ 21) ∧ (1 ≤ h.fl ∧ h.fl ≤ 13)) := hbd; have F0 : Hid (Blk w1 b0 [.int .i64 0, .int .i64 0, .int .i64 0, .int .i64 0, .int .i64 0, .int .i64 0, .int .i64 0, .int .i64 0, .int .i64 0, .int .i64 0, .int .i64 0, .int .i64 0]) := F0.out.below hb F0.out.lt; have F1 : Hid (Blk w1 b1 [.int .i64 0, .int .i64 0, .int .i64 0]) := F1.out.below hb F1.out.lt; have FB : Hid (Below w.heap.size w w1) := FB.out.trans (hb.mono FB.out.size); clear hb hbd)
  obtain ⟨b2, hb2⟩ : ∃ b2, b2 = w1.heap.size := ⟨_, rfl⟩
  obtain ⟨b3, hb3⟩ : ∃ b3, b3 = b2 + 1 := ⟨_, rfl⟩
  obtain ⟨w3, hw3⟩ : ∃ w3, w3 = (w1.alloc (.cells #[.int .i64 h.fl, .int .i64 h.gp, .int .i64 h.ln, .int .i64 h.rf, .int .i64 h.sp, .int .i64 h.pu, .int .i64 h.br, .int .i64 h.dr, .int .i64 h.lv, .int .i64 h.dO, .int .i64 h.ld, .int .i64 h.qu] 27)).alloc (.cells #[.int .i64 c.pos, .int .i64 c.vel, .int .i64 c.door] 34) := ⟨_, rfl⟩
  have l02 : b0 < b2 := by rw [hb2]; exact F0.out.lt
  have l12 : b1 < b2 := by rw [hb2]; exact F1.out.lt
  have l23 : b2 < b3 := by omega
  have F0 : Hid (Blk w3 b0 [.int .i64 0, .int .i64 0, .int .i64 0, .int .i64 0, .int .i64 0, .int .i64 0, .int .i64 0, .int .i64 0, .int .i64 0, .int .i64 0, .int .i64 0, .int .i64 0]) := by rw [hw3]; exact (F0.out.alloc _).alloc _
  have F1 : Hid (Blk w3 b1 [.int .i64 0, .int .i64 0, .int .i64 0]) := by rw [hw3]; exact (F1.out.alloc _).alloc _
  have F2 : Hid (Blk w3 b2 [.int .i64 h.fl, .int .i64 h.gp, .int .i64 h.ln, .int .i64 h.rf, .int .i64 h.sp, .int .i64 h.pu, .int .i64 h.br, .int .i64 h.dr, .int .i64 h.lv, .int .i64 h.dO, .int .i64 h.ld, .int .i64 h.qu]) := by rw [hw3]; exact (Blk.at_ w1 #[.int .i64 h.fl, .int .i64 h.gp, .int .i64 h.ln, .int .i64 h.rf, .int .i64 h.sp, .int .i64 h.pu, .int .i64 h.br, .int .i64 h.dr, .int .i64 h.lv, .int .i64 h.dO, .int .i64 h.ld, .int .i64 h.qu] _ _ hb2).alloc _
  have F3 : Hid (Blk w3 b3 [.int .i64 c.pos, .int .i64 c.vel, .int .i64 c.door]) := by rw [hw3]; exact Blk.at_ _ #[.int .i64 c.pos, .int .i64 c.vel, .int .i64 c.door] _ _ (by simp; omega)
  have FB : Hid (Below w.heap.size w w3) := by rw [hw3]; exact (FB.out.alloc FB.out.size _).alloc (by have := FB.out.size; simp; omega) _
  (try simp only [Act.put])
  rw [← hb2, ← hb3, ← hw3]
  clear hb2 hb3 hw3
  go_upto_region 2 with fail
  have F0 : Hid (Blk w3.drew b0 [.int .i64 0, .int .i64 0, .int .i64 0, .int .i64 0, .int .i64 0, .int .i64 0, .int .i64 0, .int .i64 0, .int .i64 0, .int .i64 0, .int .i64 0, .int .i64 0]) := F0.out.below (Below.refl _ _).drew F0.out.lt
  have F1 : Hid (Blk w3.drew b1 [.int .i64 0, .int .i64 0, .int .i64 0]) := F1.out.below (Below.refl _ _).drew F1.out.lt
  have F2 : Hid (Blk w3.drew b2 [.int .i64 h.fl, .int .i64 h.gp, .int .i64 h.ln, .int .i64 h.rf, .int .i64 h.sp, .int .i64 h.pu, .int .i64 h.br, .int .i64 h.dr, .int .i64 h.lv, .int .i64 h.dO, .int .i64 h.ld, .int .i64 h.qu]) := F2.out.below (Below.refl _ _).drew F2.out.lt
  have F3 : Hid (Blk w3.drew b3 [.int .i64 c.pos, .int .i64 c.vel, .int .i64 c.door]) := F3.out.below (Below.refl _ _).drew F3.out.lt
  have FB : Hid (Below w.heap.size w w3.drew) := FB.out.drew
  refine wp_region_held_drew (S := (fun w'' => Blk w'' b2 ([.int .i64 h.fl, .int .i64 h.gp, .int .i64 h.ln, .int .i64 h.rf, .int .i64 h.sp, .int .i64 h.pu, .int .i64 h.br, .int .i64 h.dr, .int .i64 h.lv, .int .i64 h.dO, .int .i64 h.ld, .int .i64 h.qu]) ∧ Blk w'' b3 ([.int .i64 c.pos, .int .i64 c.vel, .int .i64 c.door]))) (by kernel_rfl) (by (try dsimp only); first | exact ⟨F2.out, F3.out⟩ | go_keep) (fun hHeld => ?_)
  obtain ⟨v_6, hw1⟩ : ∃ v_6, v_6 = w3.drew := ⟨_, rfl⟩
  have F0 : Hid (Blk v_6 b0 [.int .i64 0, .int .i64 0, .int .i64 0, .int .i64 0, .int .i64 0, .int .i64 0, .int .i64 0, .int .i64 0, .int .i64 0, .int .i64 0, .int .i64 0, .int .i64 0]) := by rw [hw1]; exact F0.out
  have F1 : Hid (Blk v_6 b1 [.int .i64 0, .int .i64 0, .int .i64 0]) := by rw [hw1]; exact F1.out
  have F2 : Hid (Blk v_6 b2 [.int .i64 h.fl, .int .i64 h.gp, .int .i64 h.ln, .int .i64 h.rf, .int .i64 h.sp, .int .i64 h.pu, .int .i64 h.br, .int .i64 h.dr, .int .i64 h.lv, .int .i64 h.dO, .int .i64 h.ld, .int .i64 h.qu]) := by rw [hw1]; exact F2.out
  have F3 : Hid (Blk v_6 b3 [.int .i64 c.pos, .int .i64 c.vel, .int .i64 c.door]) := by rw [hw1]; exact F3.out
  have FB : Hid (Below w.heap.size w v_6) := by rw [hw1]; exact FB.out
  rw [← hw1] at hHeld ⊢
  clear hw1
  refine tkz 0 rfl ?_ (hy := Or.inl ⟨by kernel_rfl, fun wx hSw => exec_load_blk 27 _ Try.underlying27 (by kernel_rfl) rfl rfl hSw.1⟩)
  refine tkz 1 rfl ?_ (hy := Or.inl ⟨by kernel_rfl, fun wx hSw => exec_load_blk 34 _ Try.underlying34 (by kernel_rfl) rfl rfl hSw.2⟩)
  refine tkz 2 rfl ?_
  refine tkz 4 rfl ?_
  refine tkz 7 rfl ?_ (hy := Or.inl ⟨by kernel_rfl, fun wx hSw => exec_load_blk 27 _ Try.underlying27 (by kernel_rfl) rfl rfl hSw.1⟩)
  refine tkz 9 rfl ?_
  refine wpAnyH_ready (rs := [3]) (by kernel_rfl) (by simp) ?_
  refine (AllReadyH.cons rfl (fun K hK => ?_) AllReadyH.nil)
  refine step_ofE rfl ?_
  go_simp
  obtain ⟨ub, hub⟩ : ∃ ub, ub = v_6.heap.size := ⟨_, rfl⟩
  have lub : b3 < ub := by rw [hub]; exact F3.out.lt
  obtain ⟨v_7, hw2⟩ : ∃ v_7, v_7 = v_6.alloc (.cells #[.int .u8 9] 5) := ⟨_, rfl⟩
  have F0 : Hid (Blk v_7 b0 [.int .i64 0, .int .i64 0, .int .i64 0, .int .i64 0, .int .i64 0, .int .i64 0, .int .i64 0, .int .i64 0, .int .i64 0, .int .i64 0, .int .i64 0, .int .i64 0]) := by rw [hw2]; exact F0.out.alloc _
  have F1 : Hid (Blk v_7 b1 [.int .i64 0, .int .i64 0, .int .i64 0]) := by rw [hw2]; exact F1.out.alloc _
  have F2 : Hid (Blk v_7 b2 [.int .i64 h.fl, .int .i64 h.gp, .int .i64 h.ln, .int .i64 h.rf, .int .i64 h.sp, .int .i64 h.pu, .int .i64 h.br, .int .i64 h.dr, .int .i64 h.lv, .int .i64 h.dO, .int .i64 h.ld, .int .i64 h.qu]) := by rw [hw2]; exact F2.out.alloc _
  have F3 : Hid (Blk v_7 b3 [.int .i64 c.pos, .int .i64 c.vel, .int .i64 c.door]) := by rw [hw2]; exact F3.out.alloc _
  have FB : Hid (Below w.heap.size w v_7) := by rw [hw2]; exact FB.out.alloc FB.out.size _
  have FU : Hid (U1 v_7 ub 9) := by rw [hw2]; exact U1.new v_6 9 ub hub
  rw [← hw2, ← hub]
  clear hw2 hub
  refine hK.out _ _ (by (try dsimp only); first | exact ⟨F2.out, F3.out⟩ | go_keep) (fun hHeld => ?_)
  clear hK K
  try simp only [Act.put, List.getElem_toArray, List.getElem_cons_succ, List.getElem_cons_zero, List.setIfInBounds_toArray, List.set_cons_zero, List.set_cons_succ]
  refine wpAnyH_ready (rs := [5]) (by kernel_rfl) (by simp) ?_
  refine (AllReadyH.cons rfl (fun K hK => ?_) AllReadyH.nil)
  refine step_ofE rfl ?_
  refine wp_append_codeW (HC.out.keep fun b off hb _ => FB.out.cell (p := ⟨b, off, none⟩) hb) hl hz 9 (by decide) (by decide) ub FU.out _ _ rfl rfl rfl ?_
  intro cg cc v_8 hcode hg
  have HCD : Hid (CodeIn v_8 v_8.heap.size (some ⟨cg, 0, none⟩) (1 + len)) := hcode
  have F0 : Hid (Blk v_8 b0 [.int .i64 0, .int .i64 0, .int .i64 0, .int .i64 0, .int .i64 0, .int .i64 0, .int .i64 0, .int .i64 0, .int .i64 0, .int .i64 0, .int .i64 0, .int .i64 0]) := F0.out.grown hg (fun e => by have e2 := Option.some.inj e; omega)
  have F1 : Hid (Blk v_8 b1 [.int .i64 0, .int .i64 0, .int .i64 0]) := F1.out.grown hg (fun e => by have e2 := Option.some.inj e; omega)
  have F2 : Hid (Blk v_8 b2 [.int .i64 h.fl, .int .i64 h.gp, .int .i64 h.ln, .int .i64 h.rf, .int .i64 h.sp, .int .i64 h.pu, .int .i64 h.br, .int .i64 h.dr, .int .i64 h.lv, .int .i64 h.dO, .int .i64 h.ld, .int .i64 h.qu]) := F2.out.grown hg (fun e => by have e2 := Option.some.inj e; omega)
  have F3 : Hid (Blk v_8 b3 [.int .i64 c.pos, .int .i64 c.vel, .int .i64 c.door]) := F3.out.grown hg (fun e => by have e2 := Option.some.inj e; omega)
  have FB : Hid (Below w.heap.size w v_8) := below_gr FB.out hg (by omega)
  clear hcode hg
  refine hK.out _ _ (by (try dsimp only); first | exact ⟨F2.out, F3.out⟩ | go_keep) (fun hHeld => ?_)
  clear hK K
  try simp only [Act.put, List.getElem_toArray, List.getElem_cons_succ, List.getElem_cons_zero, List.setIfInBounds_toArray, List.set_cons_zero, List.set_cons_succ]
  refine wpAnyH_ready (rs := [6]) (by kernel_rfl) (by simp) ?_
  refine (AllReadyH.cons rfl (fun K hK => ?_) AllReadyH.nil)
  go_simp
  refine (l1Source_t _ (some ⟨cg, 0, none⟩) (1 + len) cc _ (Nat.le_refl _) HCD.out).mono ?_
  rintro e v_9 ⟨rfl, hs, hk⟩
  obtain ⟨sb, hsb⟩ : ∃ sb, sb = v_8.heap.size := ⟨_, rfl⟩
  rw [← hsb] at hs hk
  have FSR : Hid (SrcT v_9 sb sb (some ⟨cg, 0, none⟩) (1 + len) cc 0) := hs
  have nsb0 : b3 < sb := by rw [hsb]; exact F3.out.lt
  have nsb1 : w.heap.size ≤ sb := by rw [hsb]; exact FB.out.size
  have F0 : Hid (Blk v_9 b0 [.int .i64 0, .int .i64 0, .int .i64 0, .int .i64 0, .int .i64 0, .int .i64 0, .int .i64 0, .int .i64 0, .int .i64 0, .int .i64 0, .int .i64 0, .int .i64 0]) := F0.out.keeps hk (by have := F0.out.lt; omega)
  have F1 : Hid (Blk v_9 b1 [.int .i64 0, .int .i64 0, .int .i64 0]) := F1.out.keeps hk (by have := F1.out.lt; omega)
  have F2 : Hid (Blk v_9 b2 [.int .i64 h.fl, .int .i64 h.gp, .int .i64 h.ln, .int .i64 h.rf, .int .i64 h.sp, .int .i64 h.pu, .int .i64 h.br, .int .i64 h.dr, .int .i64 h.lv, .int .i64 h.dO, .int .i64 h.ld, .int .i64 h.qu]) := F2.out.keeps hk (by have := F2.out.lt; omega)
  have F3 : Hid (Blk v_9 b3 [.int .i64 c.pos, .int .i64 c.vel, .int .i64 c.door]) := F3.out.keeps hk (by have := F3.out.lt; omega)
  have FB : Hid (Below w.heap.size w v_9) := FB.out.trans (hk.below (by have := FB.out.size; omega) FB.out.size)
  rw [← hsb]
  clear hk hs hsb
  try dsimp only
  refine hK.out _ _ (by (try dsimp only); first | exact ⟨F2.out, F3.out⟩ | go_keep) (fun hHeld => ?_)
  clear hK K
  try simp only [Act.put, List.getElem_toArray, List.getElem_cons_succ, List.getElem_cons_zero, List.setIfInBounds_toArray, List.set_cons_zero, List.set_cons_succ]
  refine wpAnyH_ready (rs := [8]) (by kernel_rfl) (by simp) ?_
  refine (AllReadyH.cons rfl (fun K hK => ?_) AllReadyH.nil)
  go_simp
  refine (l13Riders_t h (by have := HBD.out; omega) (by have := HBD.out; omega) sb _ _ _ _ _ _ FSR.out (by omega)).mono ?_
  rintro e v_10 ⟨r, rfl, hs, hk⟩
  have F0 : Hid (Blk v_10 b0 [.int .i64 0, .int .i64 0, .int .i64 0, .int .i64 0, .int .i64 0, .int .i64 0, .int .i64 0, .int .i64 0, .int .i64 0, .int .i64 0, .int .i64 0, .int .i64 0]) := F0.out.keeps hk (by omega)
  have F1 : Hid (Blk v_10 b1 [.int .i64 0, .int .i64 0, .int .i64 0]) := F1.out.keeps hk (by omega)
  have F2 : Hid (Blk v_10 b2 [.int .i64 h.fl, .int .i64 h.gp, .int .i64 h.ln, .int .i64 h.rf, .int .i64 h.sp, .int .i64 h.pu, .int .i64 h.br, .int .i64 h.dr, .int .i64 h.lv, .int .i64 h.dO, .int .i64 h.ld, .int .i64 h.qu]) := F2.out.keeps hk (by omega)
  have F3 : Hid (Blk v_10 b3 [.int .i64 c.pos, .int .i64 c.vel, .int .i64 c.door]) := F3.out.keeps hk (by omega)
  have FB : Hid (Below w.heap.size w v_10) := FB.out.trans (hk.below (by omega) FB.out.size)
  clear hs hk
  try dsimp only
  refine hK.out _ _ (by (try dsimp only); first | exact ⟨F2.out, F3.out⟩ | go_keep) (fun hHeld => ?_)
  clear hK K
  try simp only [Act.put, List.getElem_toArray, List.getElem_cons_succ, List.getElem_cons_zero, List.setIfInBounds_toArray, List.set_cons_zero, List.set_cons_succ]
  refine wpAnyH_ready (rs := [10]) (by kernel_rfl) (by simp) ?_
  refine (AllReadyH.cons rfl (fun K hK => ?_) AllReadyH.nil)
  refine step_ofE rfl ?_
  refine wp_store_whole [.int .i64 h.fl, .int .i64 h.gp, .int .i64 h.ln, .int .i64 h.rf, .int .i64 h.sp, .int .i64 h.pu, .int .i64 h.br, .int .i64 h.dr, .int .i64 h.lv, .int .i64 h.dO, .int .i64 h.ld, .int .i64 h.qu] 27 _ _ (by kernel_rfl) (by kernel_rfl) F0.out rfl rfl rfl rfl ?_
  obtain ⟨v_11, hw2⟩ : ∃ q, q = putB v_10 b0 0 [.int .i64 h.fl, .int .i64 h.gp, .int .i64 h.ln, .int .i64 h.rf, .int .i64 h.sp, .int .i64 h.pu, .int .i64 h.br, .int .i64 h.dr, .int .i64 h.lv, .int .i64 h.dO, .int .i64 h.ld, .int .i64 h.qu] := ⟨_, rfl⟩
  rw [← hw2]
  have F0 : Hid (Blk v_11 b0 [.int .i64 h.fl, .int .i64 h.gp, .int .i64 h.ln, .int .i64 h.rf, .int .i64 h.sp, .int .i64 h.pu, .int .i64 h.br, .int .i64 h.dr, .int .i64 h.lv, .int .i64 h.dO, .int .i64 h.ld, .int .i64 h.qu]) := by rw [hw2]; exact F0.out.put [.int .i64 h.fl, .int .i64 h.gp, .int .i64 h.ln, .int .i64 h.rf, .int .i64 h.sp, .int .i64 h.pu, .int .i64 h.br, .int .i64 h.dr, .int .i64 h.lv, .int .i64 h.dO, .int .i64 h.ld, .int .i64 h.qu] rfl
  have F1 : Hid (Blk v_11 b1 [.int .i64 0, .int .i64 0, .int .i64 0]) := by rw [hw2]; exact Blk.putB_other (by omega) _ 0 F1.out
  have F2 : Hid (Blk v_11 b2 [.int .i64 h.fl, .int .i64 h.gp, .int .i64 h.ln, .int .i64 h.rf, .int .i64 h.sp, .int .i64 h.pu, .int .i64 h.br, .int .i64 h.dr, .int .i64 h.lv, .int .i64 h.dO, .int .i64 h.ld, .int .i64 h.qu]) := by rw [hw2]; exact Blk.putB_other (by omega) _ 0 F2.out
  have F3 : Hid (Blk v_11 b3 [.int .i64 c.pos, .int .i64 c.vel, .int .i64 c.door]) := by rw [hw2]; exact Blk.putB_other (by omega) _ 0 F3.out
  have FB : Hid (Below w.heap.size w v_11) := by rw [hw2]; exact below_putB FB.out (by omega) _ 0
  clear hw2
  refine hK.out _ _ (by (try dsimp only); first | exact ⟨F2.out, F3.out⟩ | go_keep) (fun hHeld => ?_)
  clear hK K
  try simp only [Act.put, List.getElem_toArray, List.getElem_cons_succ, List.getElem_cons_zero, List.setIfInBounds_toArray, List.set_cons_zero, List.set_cons_succ]
  refine wpAnyH_ready (rs := [11]) (by kernel_rfl) (by simp) ?_
  refine (AllReadyH.cons rfl (fun K hK => ?_) AllReadyH.nil)
  refine step_ofE rfl ?_
  refine wp_store_whole [.int .i64 c.pos, .int .i64 c.vel, .int .i64 c.door] 34 _ _ (by kernel_rfl) (by kernel_rfl) F1.out rfl rfl rfl rfl ?_
  obtain ⟨v_12, hw2⟩ : ∃ q, q = putB v_11 b1 0 [.int .i64 c.pos, .int .i64 c.vel, .int .i64 c.door] := ⟨_, rfl⟩
  rw [← hw2]
  have F0 : Hid (Blk v_12 b0 [.int .i64 h.fl, .int .i64 h.gp, .int .i64 h.ln, .int .i64 h.rf, .int .i64 h.sp, .int .i64 h.pu, .int .i64 h.br, .int .i64 h.dr, .int .i64 h.lv, .int .i64 h.dO, .int .i64 h.ld, .int .i64 h.qu]) := by rw [hw2]; exact Blk.putB_other (by omega) _ 0 F0.out
  have F1 : Hid (Blk v_12 b1 [.int .i64 c.pos, .int .i64 c.vel, .int .i64 c.door]) := by rw [hw2]; exact F1.out.put [.int .i64 c.pos, .int .i64 c.vel, .int .i64 c.door] rfl
  have F2 : Hid (Blk v_12 b2 [.int .i64 h.fl, .int .i64 h.gp, .int .i64 h.ln, .int .i64 h.rf, .int .i64 h.sp, .int .i64 h.pu, .int .i64 h.br, .int .i64 h.dr, .int .i64 h.lv, .int .i64 h.dO, .int .i64 h.ld, .int .i64 h.qu]) := by rw [hw2]; exact Blk.putB_other (by omega) _ 0 F2.out
  have F3 : Hid (Blk v_12 b3 [.int .i64 c.pos, .int .i64 c.vel, .int .i64 c.door]) := by rw [hw2]; exact Blk.putB_other (by omega) _ 0 F3.out
  have FB : Hid (Below w.heap.size w v_12) := by rw [hw2]; exact below_putB FB.out (by omega) _ 0
  clear hw2
  refine hK.out _ _ (by (try dsimp only); first | exact ⟨F2.out, F3.out⟩ | go_keep) (fun hHeld => ?_)
  clear hK K
  try simp only [Act.put, List.getElem_toArray, List.getElem_cons_succ, List.getElem_cons_zero, List.setIfInBounds_toArray, List.set_cons_zero, List.set_cons_succ]
  refine tkz 12 rfl ?_
  refine tkz 13 rfl ?_
  refine tkz 14 rfl ?_
  refine wpAnyH_done (by kernel_rfl) ?_ _
  have d0 := F0.out.c 0 _ rfl
  have d1 := F0.out.c 1 _ rfl
  have d2 := F0.out.c 2 _ rfl
  have d3 := F0.out.c 3 _ rfl
  have d4 := F0.out.c 4 _ rfl
  have d5 := F0.out.c 5 _ rfl
  have d6 := F0.out.c 6 _ rfl
  have d7 := F0.out.c 7 _ rfl
  have d8 := F0.out.c 8 _ rfl
  have d9 := F0.out.c 9 _ rfl
  have d10 := F0.out.c 10 _ rfl
  have d11 := F0.out.c 11 _ rfl
  have k0 := F1.out.c 0 _ rfl
  have k1 := F1.out.c 1 _ rfl
  have k2 := F1.out.c 2 _ rfl
  go_wp2_with fail
  exact bodyPost_ret (v := .tuple #[.agg #[.int .i64 h.fl, .int .i64 h.gp, .int .i64 h.ln, .int .i64 h.rf, .int .i64 h.sp, .int .i64 h.pu, .int .i64 h.br, .int .i64 h.dr, .int .i64 h.lv, .int .i64 h.dO, .int .i64 h.ld, .int .i64 h.qu], .agg #[.int .i64 c.pos, .int .i64 c.vel, .int .i64 c.door], .int .i64 f, .int .i64 r, .int .i64 t]) (by simp [results, Try.results28, go_sem, d0, d1, d2, d3, d4, d5, d6, d7, d8, d9, d10, d11, k0, k1, k2]) rfl ⟨h, c, f, r, t, rfl, FB.out⟩
end Go.Proofs.Ytngdfckknkgdgaa

namespace Go.Proofs.Ytngdfckknkgdgaa
open Go.RowKit Pl
set_option linter.unusedSimpArgs false
set_option linter.unusedVariables false

/-- What a run tells, where it tells no code. -/
theorem bkR_ok {h : Hs} {f r : Int} (r1 : 0 ≤ r) (r2 : r ≤ h.ld) : ∀ (k : Nat) (c : Cs) (s : Bk), CarOk h c → c.door = 0 → (Hs.bkR h f r k c s).k = 0 →
    CarOk h (Hs.bkR h f r k c s).c ∧ (Hs.bkR h f r k c s).b.i - (Hs.bkR h f r k c s).b.o - (Hs.bkR h f r k c s).b.l = s.i - s.o - s.l + (enE h (Hs.bkR h f r k c s).c r - enE h c r) ∧ (s.i ≤ (Hs.bkR h f r k c s).b.i ∧ (Hs.bkR h f r k c s).b.i ≤ s.i + k * 1000000000000) ∧ (s.o ≤ (Hs.bkR h f r k c s).b.o ∧ (Hs.bkR h f r k c s).b.o ≤ s.o + k * 1000000000000) ∧ (s.l ≤ (Hs.bkR h f r k c s).b.l ∧ (Hs.bkR h f r k c s).b.l ≤ s.l + k * 1000000000000) := by
  intro k
  induction k with
  | zero =>
    intro c s hc hd hz
    show CarOk h c ∧ s.i - s.o - s.l = _ + (enE h c r - enE h c r) ∧ (s.i ≤ s.i ∧ s.i ≤ _) ∧ (s.o ≤ s.o ∧ s.o ≤ _) ∧ (s.l ≤ s.l ∧ s.l ≤ _)
    exact ⟨hc, by omega, ⟨by omega, by omega⟩, ⟨by omega, by omega⟩, ⟨by omega, by omega⟩⟩
  | succ k ih =>
    intro c s hc hd hz
    cases hr : Hs.reachB h c f with
    | true =>
      rw [bkR_stop hr]
      show CarOk h c ∧ s.i - s.o - s.l = _ + (enE h c r - enE h c r) ∧ (s.i ≤ s.i ∧ s.i ≤ _) ∧ (s.o ≤ s.o ∧ s.o ≤ _) ∧ (s.l ≤ s.l ∧ s.l ≤ _)
      exact ⟨hc, by omega, ⟨by omega, by omega⟩, ⟨by omega, by omega⟩, ⟨by omega, by omega⟩⟩
    | false =>
      by_cases hg : h.carC (stepC h c (Hs.forC h c f) 0) = 0
      · rw [bkR_go hr hg] at hz ⊢
        have hok : CarOk h (stepC h c (Hs.forC h c f) 0) := Hs.car_zero (by rw [Hs.car_ok hc.hf]; exact hg)
        have hdz := step_door (h := h) (f := f) hd
        obtain ⟨q1, q2, q3, q4, q5⟩ := ih _ _ hok hdz hz
        have bb := bkS_bd (x := Hs.forC h c f) (d := 0) hc r1 r2
        have bs : (Hs.bkS h c (Hs.forC h c f) 0 r).i - (Hs.bkS h c (Hs.forC h c f) 0 r).o - (Hs.bkS h c (Hs.forC h c f) 0 r).l = enE h (stepC h c (Hs.forC h c f) 0) r - enE h c r := one_sum
        have a1 : (s.add (Hs.bkS h c (Hs.forC h c f) 0 r)).i = s.i + (Hs.bkS h c (Hs.forC h c f) 0 r).i := rfl
        have a2 : (s.add (Hs.bkS h c (Hs.forC h c f) 0 r)).o = s.o + (Hs.bkS h c (Hs.forC h c f) 0 r).o := rfl
        have a3 : (s.add (Hs.bkS h c (Hs.forC h c f) 0 r)).l = s.l + (Hs.bkS h c (Hs.forC h c f) 0 r).l := rfl
        rw [a1, a2, a3] at q2
        rw [a1] at q3
        rw [a2] at q4
        rw [a3] at q5
        refine ⟨q1, by omega, ?_, ?_, ?_⟩
        · constructor <;> omega
        · constructor <;> omega
        · constructor <;> omega
      · rw [bkR_bad hr hg] at hz
        exact absurd hz (by decide)
structure BkOk (h : Hs) (c g : Cs) (r i o l : Int) : Prop where
  a : Hs.askK h c r = 0
  b : Hs.askK h g r = 0
  m : Hs.massK h r = 0
  r1 : 0 ≤ r
  r2 : r ≤ 20
  s : i - o - l = enE h g r - enE h c r
  i1 : 0 ≤ i
  i2 : i ≤ 4000000000000000
  o1 : 0 ≤ o
  o2 : o ≤ 4000000000000000
  l1 : 0 ≤ l
  l2 : l ≤ 4000000000000000
  ok : h.Ok
  nc : Nr h c
  ng : Nr h g
theorem bkV_ok {h : Hs} {c : Cs} {f r t : Int} {i o l : Int} {g : Cs} (e : Hs.bkV h c f r t = ⟨0, ⟨i, o, l⟩, g⟩) : BkOk h c g r i o l := by
  unfold Hs.bkV at e
  by_cases ha : Hs.askK h c r = 0
  · rw [if_pos ha] at e
    by_cases hf : inB f (-1) h.fl = true ∧ inB t 0 3000 = true
    · rw [if_pos hf] at e
      by_cases dz : c.door = 0
      · rw [if_pos dz] at e
        have az := Hs.ask_zero ha
        have k := Hs.car_zero az.1
        have tb := inB_iff.1 hf.2
        have l2 := k.ok.ld2
        obtain ⟨q1, q2, q3, q4, q5⟩ := bkR_ok (f := f) az.2.1 az.2.2 t.toNat c Bk.no k dz (by rw [e])
        rw [e] at q1 q2 q3 q4 q5
        dsimp only [Bk.no] at q1 q2 q3 q4 q5
        have hi : inB r 0 h.ld = true := inB_yes az.2.1 az.2.2
        have hcg : h.car g = 0 := by
          rw [Hs.car_ok k.hf]
          unfold Hs.carC Hs.carR
          rw [inB_yes q1.p1 q1.p2, inB_yes q1.v1 q1.v2, inB_yes q1.d1 q1.d2]
          have := q1.dv
          simp only [Bool.and_self, if_true]
          rw [if_neg (by omega)]
        refine ⟨ha, Hs.ask_in hcg hi, ?_, az.2.1, by omega, by omega, by omega, by omega, by omega, by omega, by omega, by omega, k.ok, nr_of k, nr_of q1⟩
        unfold Hs.massK
        rw [if_pos k.hf, if_pos hi]
      · rw [if_neg dz] at e; cases e
    · rw [if_neg hf] at e; cases e
  · rw [if_neg ha] at e
    exact absurd (congrArg Bks.k e) ha
theorem fieldB0 (k a b c d e f : Int) (w : World) : (Instr.field 40 (.agg #[.int .i64 k, .int .i64 a, .int .i64 b, .int .i64 c, .int .i64 d, .int .i64 e, .int .i64 f]) 0).run Try.prog w = .ok (.int .i64 k) w := by kernel_rfl
theorem fieldRB1 (k a : Int) (w : World) : (Instr.field 25 (.agg #[.int .i64 k, .int .i64 a]) 1).run Try.prog w = .ok (.int .i64 a) w := by kernel_rfl
end Go.Proofs.Ytngdfckknkgdgaa

namespace Go.Proofs.Ytngdfckknkgdgaa
open Go.RowKit Pl

def Hs.movV (h : Hs) (c : Cs) (r : Int) : Int := if Hs.askK h c r = 0 then movE c r else 0
theorem specMovingOf_all (h : Hs) (c : Cs) (r : Int) (w : World) : Calls Try.prog 14 #[.agg #[.int .i64 h.fl, .int .i64 h.gp, .int .i64 h.ln, .int .i64 h.rf, .int .i64 h.sp, .int .i64 h.pu, .int .i64 h.br, .int .i64 h.dr, .int .i64 h.lv, .int .i64 h.dO, .int .i64 h.ld, .int .i64 h.qu], .agg #[.int .i64 c.pos, .int .i64 c.vel, .int .i64 c.door], .int .i64 r] w (isAns w (Hs.askK h c r) (Hs.movV h c r)) := specMovingOf_any h c r w
theorem implMovingOf_all (h : Hs) (c : Cs) (r : Int) (w : World) : Calls Try.prog 16 #[.agg #[.int .i64 h.fl, .int .i64 h.gp, .int .i64 h.ln, .int .i64 h.rf, .int .i64 h.sp, .int .i64 h.pu, .int .i64 h.br, .int .i64 h.dr, .int .i64 h.lv, .int .i64 h.dO, .int .i64 h.ld, .int .i64 h.qu], .agg #[.int .i64 c.pos, .int .i64 c.vel, .int .i64 c.door], .int .i64 r] w (isAns w (Hs.askK h c r) (Hs.movV h c r)) := implMovingOf_any h c r w
def Hs.raiV (h : Hs) (c : Cs) (r : Int) : Int := if Hs.askK h c r = 0 then raiE h c r else 0
theorem specRaisedOf_all (h : Hs) (c : Cs) (r : Int) (w : World) : Calls Try.prog 17 #[.agg #[.int .i64 h.fl, .int .i64 h.gp, .int .i64 h.ln, .int .i64 h.rf, .int .i64 h.sp, .int .i64 h.pu, .int .i64 h.br, .int .i64 h.dr, .int .i64 h.lv, .int .i64 h.dO, .int .i64 h.ld, .int .i64 h.qu], .agg #[.int .i64 c.pos, .int .i64 c.vel, .int .i64 c.door], .int .i64 r] w (isAns w (Hs.askK h c r) (Hs.raiV h c r)) := specRaisedOf_any h c r w
theorem implRaisedOf_all (h : Hs) (c : Cs) (r : Int) (w : World) : Calls Try.prog 18 #[.agg #[.int .i64 h.fl, .int .i64 h.gp, .int .i64 h.ln, .int .i64 h.rf, .int .i64 h.sp, .int .i64 h.pu, .int .i64 h.br, .int .i64 h.dr, .int .i64 h.lv, .int .i64 h.dO, .int .i64 h.ld, .int .i64 h.qu], .agg #[.int .i64 c.pos, .int .i64 c.vel, .int .i64 c.door], .int .i64 r] w (isAns w (Hs.askK h c r) (Hs.raiV h c r)) := implRaisedOf_any h c r w
def Hs.enV (h : Hs) (c : Cs) (r : Int) : Int := if Hs.askK h c r = 0 then enE h c r else 0
theorem specEnergyOf_all (h : Hs) (c : Cs) (r : Int) (w : World) : Calls Try.prog 19 #[.agg #[.int .i64 h.fl, .int .i64 h.gp, .int .i64 h.ln, .int .i64 h.rf, .int .i64 h.sp, .int .i64 h.pu, .int .i64 h.br, .int .i64 h.dr, .int .i64 h.lv, .int .i64 h.dO, .int .i64 h.ld, .int .i64 h.qu], .agg #[.int .i64 c.pos, .int .i64 c.vel, .int .i64 c.door], .int .i64 r] w (isAns w (Hs.askK h c r) (Hs.enV h c r)) := specEnergyOf_any h c r w
theorem implEnergyOf_all (h : Hs) (c : Cs) (r : Int) (w : World) : Calls Try.prog 20 #[.agg #[.int .i64 h.fl, .int .i64 h.gp, .int .i64 h.ln, .int .i64 h.rf, .int .i64 h.sp, .int .i64 h.pu, .int .i64 h.br, .int .i64 h.dr, .int .i64 h.lv, .int .i64 h.dO, .int .i64 h.ld, .int .i64 h.qu], .agg #[.int .i64 c.pos, .int .i64 c.vel, .int .i64 c.door], .int .i64 r] w (isAns w (Hs.askK h c r) (Hs.enV h c r)) := implEnergyOf_any h c r w
end Go.Proofs.Ytngdfckknkgdgaa

namespace Go.Proofs.Ytngdfckknkgdgaa
open Go.RowKit Pl

theorem lwBig_no (a : Option Addr) (len cap : Nat) (h : len ≤ 1048576) (w : World) :
    Calls Try.prog 27 #[.slice a len cap] w fun e w' => e = .returned (.bool false) ∧ w' = w := by
  have hd : decide ((1048576 : Int) < (len : Int)) = false := decide_eq_false (by omega)
  go_enter Try.func27, Try.ntmps27
  go_wp2
  go_ret
  exact ⟨rfl, rfl⟩
theorem lwBig_yes (a : Option Addr) (len cap : Nat) (h : 1048576 < len) (hm : len ≤ maxLen) (w : World) :
    Calls Try.prog 27 #[.slice a len cap] w fun e w' => e = .returned (.bool true) ∧ w' = w := by
  unfold maxLen at hm
  have hd : decide ((1048576 : Int) < (len : Int)) = true := decide_eq_true (by omega)
  go_enter Try.func27, Try.ntmps27
  go_wp2
  go_ret
  exact ⟨rfl, rfl⟩

/-- What the shell of a law tells of a slice of bytes that came in. -/
def codeRow (w : World) (a : Option Addr) (len cap : Nat) (zs : List Int) : Prop :=
  (a = none ∧ len = 0 ∧ cap = 0 ∧ zs = []) ∨
  ∃ x, a = some x ∧ len ≤ cap ∧ cap ≤ maxLen ∧ zs.length = cap ∧ (∀ i, i < zs.length → w.cell? (x.add i) = some (.int .u8 (zs.getD i 0))) ∧ ∀ n ∈ zs, (Lit.int .u8 n).wf = true
/-- The bytes lie in a block that was there. -/
def CodeLt (w : World) (a : Option Addr) (len : Nat) : Prop := ∀ b off, a = some ⟨b, off, none⟩ → len ≠ 0 → b < w.heap.size
theorem codeLt_of {w : World} {a : Option Addr} {len cap : Nat} {zs : List Int} (h : codeRow w a len cap zs) : CodeLt w a len := by
  intro b off ha hl
  rcases h with ⟨h1, _⟩ | ⟨x, h1, h2, h3, h4, h5, _⟩
  · rw [h1] at ha; cases ha
  · rw [h1] at ha
    obtain rfl : x = ⟨b, off, none⟩ := by simpa using ha
    have hc0 := h5 0 (by omega)
    have := World.block_lt_of_cell? w _ hc0
    simpa [Addr.add] using this
theorem row_le {w : World} {a : Option Addr} {len cap : Nat} {zs : List Int} (h : codeRow w a len cap zs) : len ≤ maxLen := by
  rcases h with ⟨_, rfl, _, _⟩ | ⟨x, _, h1, h2, _⟩
  · exact Nat.zero_le _
  · omega
theorem codeIn_of {w : World} {a : Option Addr} {len cap : Nat} {zs : List Int} (h : codeRow w a len cap zs) (hl : len ≤ 1048576) (sb : Nat) (hsb : w.heap.size ≤ sb) : CodeIn w sb a len := by
  refine ⟨by omega, ?_⟩
  rcases h with ⟨_, rfl, _, _⟩ | ⟨x, rfl, h1, h2, h3, h4, h5⟩
  · exact Or.inl rfl
  · by_cases h0 : len = 0
    · exact Or.inl h0
    · obtain ⟨b, off, spot⟩ := x
      have hc0 := h4 0 (by omega)
      have hspot : spot = none := by simpa [Addr.add] using World.cell?_spot hc0
      subst hspot
      refine Or.inr ⟨b, off, rfl, ?_, fun i hi => ?_⟩
      · have := World.block_lt_of_cell? w _ hc0
        simp [Addr.add] at this
        omega
      · have hci := h4 i (by omega)
        have hw := getD_all (P := fun n => (Lit.int .u8 n).wf = true) h5 (i := i) (by omega)
        have e : Addr.add ⟨b, off, none⟩ i = ⟨b, off + i, none⟩ := by unfold Addr.add; split <;> simp_all
        rw [e] at hci
        exact ⟨_, hci, (bounds_u8 hw).1, (bounds_u8 hw).2⟩
/-- The bytes can be read as before where nothing that was there has turned. -/
theorem codeIn_below {w W W' : World} {a : Option Addr} {len : Nat} (h : ∀ sb, w.heap.size ≤ sb → CodeIn W sb a len) (hlt : CodeLt w a len) (hb : Below w.heap.size W W') : ∀ sb, w.heap.size ≤ sb → CodeIn W' sb a len := by
  intro sb hsb
  obtain ⟨h1, h2⟩ := h sb hsb
  refine ⟨h1, ?_⟩
  rcases h2 with h2 | ⟨b, off, h3, h4, h5⟩
  · exact Or.inl h2
  · by_cases h0 : len = 0
    · exact Or.inl h0
    · have hblt := hlt b off h3 h0
      refine Or.inr ⟨b, off, h3, h4, fun i hi => ?_⟩
      obtain ⟨z, hz, z1, z2⟩ := h5 i hi
      exact ⟨z, (hb.cell (p := ⟨b, off + i, none⟩) hblt).trans hz, z1, z2⟩
theorem codeIn_drawn {B : Nat} {W W' : World} {a : Option Addr} {len k : Nat} (h : ∀ sb, B ≤ sb → CodeIn W sb a len) (e : W' = W.drewN k) : ∀ sb, B ≤ sb → CodeIn W' sb a len := by
  rw [e]; exact h
theorem below_drawn {B : Nat} {w W W' : World} {k : Nat} (h : Below B w W) (e : W' = W.drewN k) : Below B w W' := by
  rw [e]; exact ⟨h.os, h.tape, h.output, h.size, h.block⟩
end Go.Proofs.Ytngdfckknkgdgaa

namespace Go.Proofs.Ytngdfckknkgdgaa
open Go.RowKit Pl
set_option linter.unusedSimpArgs false
set_option linter.unusedVariables false

set_option maxRecDepth 20000 in
set_option maxHeartbeats 32000000 in
theorem books_walk (a0 : Option Addr) (len0 cap0 : Nat) (w : World) (hc : CodeIn w w.heap.size a0 len0) (hbig : len0 ≤ 1048576) (hz : a0 = none → len0 = 0 ∧ cap0 = 0) :
    Calls Try.prog 9 #[.slice a0 len0 cap0] w fun e w' => e = .returned (.bool true) ∧ Below w.heap.size w w' := by
  have HC : Hid (CodeIn w w.heap.size a0 len0) := hc
  have HZ : Hid (a0 = none → len0 = 0 ∧ cap0 = 0) := hz
  clear hc hz
  go_enter Try.func9, Try.ntmps9
  go_upto_region 4 with (first | (go_at_call 27; refine (lwBig_no _ _ _ hbig _).mono ?_; rintro e w' ⟨rfl, hw⟩; obtain rfl := hw.symm; clear hw) | (go_at_call 28; refine (DrawBookRun_any a0 len0 cap0 _ HC.out hbig HZ.out).mono ?_; rintro e w1 ⟨h, c, f, r, t, rfl, hb⟩; have FB : Hid (Below w.heap.size w w1) := hb; clear hb))
  clear HC HZ hbig
  obtain ⟨b0, hb0⟩ : ∃ b0, b0 = w1.heap.size := ⟨_, rfl⟩
  obtain ⟨b1, hb1⟩ : ∃ b1, b1 = b0 + 1 := ⟨_, rfl⟩
  obtain ⟨w2, hw2⟩ : ∃ w2, w2 = (w1.alloc (.cells #[.int .i64 h.fl, .int .i64 h.gp, .int .i64 h.ln, .int .i64 h.rf, .int .i64 h.sp, .int .i64 h.pu, .int .i64 h.br, .int .i64 h.dr, .int .i64 h.lv, .int .i64 h.dO, .int .i64 h.ld, .int .i64 h.qu] 27)).alloc (.cells #[.int .i64 c.pos, .int .i64 c.vel, .int .i64 c.door] 34) := ⟨_, rfl⟩
  have F0 : Hid (Blk w2 b0 [.int .i64 h.fl, .int .i64 h.gp, .int .i64 h.ln, .int .i64 h.rf, .int .i64 h.sp, .int .i64 h.pu, .int .i64 h.br, .int .i64 h.dr, .int .i64 h.lv, .int .i64 h.dO, .int .i64 h.ld, .int .i64 h.qu]) := by rw [hw2]; exact (Blk.at_ w1 #[.int .i64 h.fl, .int .i64 h.gp, .int .i64 h.ln, .int .i64 h.rf, .int .i64 h.sp, .int .i64 h.pu, .int .i64 h.br, .int .i64 h.dr, .int .i64 h.lv, .int .i64 h.dO, .int .i64 h.ld, .int .i64 h.qu] _ _ hb0).alloc _
  have F1 : Hid (Blk w2 b1 [.int .i64 c.pos, .int .i64 c.vel, .int .i64 c.door]) := by rw [hw2]; exact Blk.at_ _ #[.int .i64 c.pos, .int .i64 c.vel, .int .i64 c.door] _ _ (by simp; omega)
  have FB : Hid (Below w.heap.size w w2) := by rw [hw2]; exact (FB.out.alloc FB.out.size _).alloc (by have := FB.out.size; simp; omega) _
  have l01 : b0 < b1 := by omega
  (try simp only [Act.put])
  rw [← hb0, ← hb1, ← hw2]
  clear hb0 hb1 hw2
  obtain ⟨R, hR⟩ : ∃ R, Hs.bkV h c f r t = R := ⟨_, rfl⟩
  have C1 : ∀ W, Calls Try.prog 26 #[.agg #[.int .i64 h.fl, .int .i64 h.gp, .int .i64 h.ln, .int .i64 h.rf, .int .i64 h.sp, .int .i64 h.pu, .int .i64 h.br, .int .i64 h.dr, .int .i64 h.lv, .int .i64 h.dO, .int .i64 h.ld, .int .i64 h.qu], .agg #[.int .i64 c.pos, .int .i64 c.vel, .int .i64 c.door], .int .i64 f, .int .i64 r, .int .i64 t] W (isBk W R) := fun W => by have q := implBookRun_any h c f r t W; rw [hR] at q; exact q
  have C2 : ∀ W, Calls Try.prog 25 #[.agg #[.int .i64 h.fl, .int .i64 h.gp, .int .i64 h.ln, .int .i64 h.rf, .int .i64 h.sp, .int .i64 h.pu, .int .i64 h.br, .int .i64 h.dr, .int .i64 h.lv, .int .i64 h.dO, .int .i64 h.ld, .int .i64 h.qu], .agg #[.int .i64 c.pos, .int .i64 c.vel, .int .i64 c.door], .int .i64 f, .int .i64 r, .int .i64 t] W (isBk W R) := fun W => by have q := specBookRun_any h c f r t W; rw [hR] at q; exact q
  go_upto_region 5 with (first | (refine load_blk 27 _ Try.underlying27 (by kernel_rfl) F0.out rfl rfl rfl ?_) | (refine load_blk 34 _ Try.underlying34 (by kernel_rfl) F1.out rfl rfl rfl ?_) | (go_at_call 26; refine (C1 _).mono ?_; rintro e w3 ⟨rfl, hb⟩; have F0 : Hid (Blk w3 b0 [.int .i64 h.fl, .int .i64 h.gp, .int .i64 h.ln, .int .i64 h.rf, .int .i64 h.sp, .int .i64 h.pu, .int .i64 h.br, .int .i64 h.dr, .int .i64 h.lv, .int .i64 h.dO, .int .i64 h.ld, .int .i64 h.qu]) := F0.out.below hb F0.out.lt; have F1 : Hid (Blk w3 b1 [.int .i64 c.pos, .int .i64 c.vel, .int .i64 c.door]) := F1.out.below hb F1.out.lt; have FB : Hid (Below w.heap.size w w3) := FB.out.trans (hb.mono FB.out.size); clear hb) | (refine store_new [.int .i64 R.k, .int .i64 R.b.i, .int .i64 R.b.o, .int .i64 R.b.l, .int .i64 R.c.pos, .int .i64 R.c.vel, .int .i64 R.c.door] 40 _ _ (by kernel_rfl) (by kernel_rfl) (by kernel_rfl) rfl rfl rfl rfl ?_))
  have FB0 := FB
  obtain ⟨b2, hbb⟩ : ∃ b2, b2 = w3.heap.size := ⟨_, rfl⟩
  obtain ⟨w4, hw2⟩ : ∃ w4, w4 = w3.alloc (.cells #[.int .i64 R.k, .int .i64 R.b.i, .int .i64 R.b.o, .int .i64 R.b.l, .int .i64 R.c.pos, .int .i64 R.c.vel, .int .i64 R.c.door] 40) := ⟨_, rfl⟩
  have nb2b0 : b0 < b2 := by rw [hbb]; exact F0.out.lt
  have nb2b1 : b1 < b2 := by rw [hbb]; exact F1.out.lt
  have F0 : Hid (Blk w4 b0 [.int .i64 h.fl, .int .i64 h.gp, .int .i64 h.ln, .int .i64 h.rf, .int .i64 h.sp, .int .i64 h.pu, .int .i64 h.br, .int .i64 h.dr, .int .i64 h.lv, .int .i64 h.dO, .int .i64 h.ld, .int .i64 h.qu]) := by rw [hw2]; exact F0.out.alloc _
  have F1 : Hid (Blk w4 b1 [.int .i64 c.pos, .int .i64 c.vel, .int .i64 c.door]) := by rw [hw2]; exact F1.out.alloc _
  have F2 : Hid (Blk w4 b2 [.int .i64 R.k, .int .i64 R.b.i, .int .i64 R.b.o, .int .i64 R.b.l, .int .i64 R.c.pos, .int .i64 R.c.vel, .int .i64 R.c.door]) := by rw [hw2]; exact Blk.at_ w3 #[.int .i64 R.k, .int .i64 R.b.i, .int .i64 R.b.o, .int .i64 R.b.l, .int .i64 R.c.pos, .int .i64 R.c.vel, .int .i64 R.c.door] _ _ hbb
  have FB : Hid (Below w.heap.size w w4) := by rw [hw2]; exact FB.out.alloc FB.out.size _
  have leb2 : w.heap.size ≤ b2 := by rw [hbb]; exact FB0.out.size
  (try simp only [Act.put])
  rw [← hw2, ← hbb]
  clear hbb hw2 FB0
  have z0 := F2.out.c 0 _ rfl
  by_cases hk : R.k = 0
  case neg =>
    have hn : (R.k != 0) = true := by simpa using hk
    have hee : (R.k == R.k) = true := by simp
    have fb := fieldB0
    clear hk hR
    go_upto_region 6 with fail
    have F0 : Hid (Blk w4.drew b0 [.int .i64 h.fl, .int .i64 h.gp, .int .i64 h.ln, .int .i64 h.rf, .int .i64 h.sp, .int .i64 h.pu, .int .i64 h.br, .int .i64 h.dr, .int .i64 h.lv, .int .i64 h.dO, .int .i64 h.ld, .int .i64 h.qu]) := F0.out.below (Below.refl _ _).drew F0.out.lt
    have F1 : Hid (Blk w4.drew b1 [.int .i64 c.pos, .int .i64 c.vel, .int .i64 c.door]) := F1.out.below (Below.refl _ _).drew F1.out.lt
    have F2 : Hid (Blk w4.drew b2 [.int .i64 R.k, .int .i64 R.b.i, .int .i64 R.b.o, .int .i64 R.b.l, .int .i64 R.c.pos, .int .i64 R.c.vel, .int .i64 R.c.door]) := F2.out.below (Below.refl _ _).drew F2.out.lt
    have FB : Hid (Below w.heap.size w w4.drew) := FB.out.drew
    refine wp_region_held_drew (S := (fun w'' => Blk w'' b0 ([.int .i64 h.fl, .int .i64 h.gp, .int .i64 h.ln, .int .i64 h.rf, .int .i64 h.sp, .int .i64 h.pu, .int .i64 h.br, .int .i64 h.dr, .int .i64 h.lv, .int .i64 h.dO, .int .i64 h.ld, .int .i64 h.qu]) ∧ Blk w'' b1 ([.int .i64 c.pos, .int .i64 c.vel, .int .i64 c.door]) ∧ Blk w'' b2 ([.int .i64 R.k, .int .i64 R.b.i, .int .i64 R.b.o, .int .i64 R.b.l, .int .i64 R.c.pos, .int .i64 R.c.vel, .int .i64 R.c.door]))) (by kernel_rfl) (by (try dsimp only); first | exact ⟨F0.out, F1.out, F2.out⟩ | go_keep) (fun hHeld => ?_)
    obtain ⟨v_1, hw1⟩ : ∃ v_1, v_1 = w4.drew := ⟨_, rfl⟩
    have F0 : Hid (Blk v_1 b0 [.int .i64 h.fl, .int .i64 h.gp, .int .i64 h.ln, .int .i64 h.rf, .int .i64 h.sp, .int .i64 h.pu, .int .i64 h.br, .int .i64 h.dr, .int .i64 h.lv, .int .i64 h.dO, .int .i64 h.ld, .int .i64 h.qu]) := by rw [hw1]; exact F0.out
    have F1 : Hid (Blk v_1 b1 [.int .i64 c.pos, .int .i64 c.vel, .int .i64 c.door]) := by rw [hw1]; exact F1.out
    have F2 : Hid (Blk v_1 b2 [.int .i64 R.k, .int .i64 R.b.i, .int .i64 R.b.o, .int .i64 R.b.l, .int .i64 R.c.pos, .int .i64 R.c.vel, .int .i64 R.c.door]) := by rw [hw1]; exact F2.out
    have FB : Hid (Below w.heap.size w v_1) := by rw [hw1]; exact FB.out
    rw [← hw1] at hHeld ⊢
    clear hw1
    refine tkz 0 rfl ?_ (hy := Or.inl ⟨by kernel_rfl, fun wx hSw => exec_load_blk 27 _ Try.underlying27 (by kernel_rfl) rfl rfl hSw.1⟩)
    refine tkz 1 rfl ?_ (hy := Or.inl ⟨by kernel_rfl, fun wx hSw => exec_load_blk 34 _ Try.underlying34 (by kernel_rfl) rfl rfl hSw.2.1⟩)
    refine tkz 2 rfl ?_
    refine tkz 3 rfl ?_
    refine tkz 4 rfl ?_
    refine tkz 7 rfl ?_
    refine tkz 8 rfl ?_ (hy := Or.inl ⟨by kernel_rfl, by (intro wx hSw; have hq2_0 := hSw.2.2.c 0 _ rfl; (try dsimp only at hSw); go_simp <;> with_reducible rfl)⟩)
    refine wpAnyH_ready (rs := [5]) (by kernel_rfl) (by simp) ?_
    refine (AllReadyH.cons rfl (fun K hK => ?_) AllReadyH.nil)
    go_simp
    refine (C2 _).mono ?_
    rintro e v_2 ⟨rfl, hb⟩
    have F0 : Hid (Blk v_2 b0 [.int .i64 h.fl, .int .i64 h.gp, .int .i64 h.ln, .int .i64 h.rf, .int .i64 h.sp, .int .i64 h.pu, .int .i64 h.br, .int .i64 h.dr, .int .i64 h.lv, .int .i64 h.dO, .int .i64 h.ld, .int .i64 h.qu]) := F0.out.below hb F0.out.lt
    have F1 : Hid (Blk v_2 b1 [.int .i64 c.pos, .int .i64 c.vel, .int .i64 c.door]) := F1.out.below hb F1.out.lt
    have F2 : Hid (Blk v_2 b2 [.int .i64 R.k, .int .i64 R.b.i, .int .i64 R.b.o, .int .i64 R.b.l, .int .i64 R.c.pos, .int .i64 R.c.vel, .int .i64 R.c.door]) := F2.out.below hb F2.out.lt
    have FB : Hid (Below w.heap.size w v_2) := FB.out.trans (hb.mono FB.out.size)
    clear hb
    try dsimp only
    refine hK.out _ _ (by (try dsimp only); first | exact ⟨F0.out, F1.out, F2.out⟩ | go_keep) (fun hHeld => ?_)
    clear hK K
    try simp only [Act.put, List.getElem_toArray, List.getElem_cons_succ, List.getElem_cons_zero, List.setIfInBounds_toArray, List.set_cons_zero, List.set_cons_succ]
    refine tkz 6 rfl ?_
    refine tkz 9 rfl ?_
    refine tkz 10 rfl ?_
    refine wpAnyH_done (by kernel_rfl) ?_ _
    go_wp2
    go_ret
    exact ⟨by first | rfl | simp, FB.out⟩
  case pos =>
  obtain ⟨Rk, ⟨i, o, l⟩, g⟩ := R
  have hk2 : Rk = 0 := hk
  subst hk2
  have bk := bkV_ok hR
  have F2 : Hid (Blk w4 b2 [.int .i64 0, .int .i64 i, .int .i64 o, .int .i64 l, .int .i64 g.pos, .int .i64 g.vel, .int .i64 g.door]) := F2.out
  have z0 := F2.out.c 0 _ rfl
  clear hR C1 C2
  have cr := bk.ng.mov bk.r1 bk.r2
  have cq := bk.ng.rai bk.ok bk.r1 bk.r2
  have ca := bk.nc.en bk.ok bk.r1 bk.r2
  have cb := bk.ng.en bk.ok bk.r1 bk.r2
  have mb := mass_bd bk.r1 bk.r2
  have E1 : ∀ W, Calls Try.prog 20 #[.agg #[.int .i64 h.fl, .int .i64 h.gp, .int .i64 h.ln, .int .i64 h.rf, .int .i64 h.sp, .int .i64 h.pu, .int .i64 h.br, .int .i64 h.dr, .int .i64 h.lv, .int .i64 h.dO, .int .i64 h.ld, .int .i64 h.qu], .agg #[.int .i64 c.pos, .int .i64 c.vel, .int .i64 c.door], .int .i64 r] W fun e w' => e = .returned (.agg #[.int .i64 0, .int .i64 (enE h c r)]) ∧ Below W.heap.size W w' := fun W => by have q := implEnergyOf_any h c r W; rw [bk.a, if_pos rfl] at q; exact q
  have E2 : ∀ W, Calls Try.prog 20 #[.agg #[.int .i64 h.fl, .int .i64 h.gp, .int .i64 h.ln, .int .i64 h.rf, .int .i64 h.sp, .int .i64 h.pu, .int .i64 h.br, .int .i64 h.dr, .int .i64 h.lv, .int .i64 h.dO, .int .i64 h.ld, .int .i64 h.qu], .agg #[.int .i64 g.pos, .int .i64 g.vel, .int .i64 g.door], .int .i64 r] W fun e w' => e = .returned (.agg #[.int .i64 0, .int .i64 (enE h g r)]) ∧ Below W.heap.size W w' := fun W => by have q := implEnergyOf_any h g r W; rw [bk.b, if_pos rfl] at q; exact q
  have E3 : ∀ W, Calls Try.prog 16 #[.agg #[.int .i64 h.fl, .int .i64 h.gp, .int .i64 h.ln, .int .i64 h.rf, .int .i64 h.sp, .int .i64 h.pu, .int .i64 h.br, .int .i64 h.dr, .int .i64 h.lv, .int .i64 h.dO, .int .i64 h.ld, .int .i64 h.qu], .agg #[.int .i64 g.pos, .int .i64 g.vel, .int .i64 g.door], .int .i64 r] W fun e w' => e = .returned (.agg #[.int .i64 0, .int .i64 (movE g r)]) ∧ Below W.heap.size W w' := fun W => by have q := implMovingOf_any h g r W; rw [bk.b, if_pos rfl] at q; exact q
  have E4 : ∀ W, Calls Try.prog 18 #[.agg #[.int .i64 h.fl, .int .i64 h.gp, .int .i64 h.ln, .int .i64 h.rf, .int .i64 h.sp, .int .i64 h.pu, .int .i64 h.br, .int .i64 h.dr, .int .i64 h.lv, .int .i64 h.dO, .int .i64 h.ld, .int .i64 h.qu], .agg #[.int .i64 g.pos, .int .i64 g.vel, .int .i64 g.door], .int .i64 r] W fun e w' => e = .returned (.agg #[.int .i64 0, .int .i64 (raiE h g r)]) ∧ Below W.heap.size W w' := fun W => by have q := implRaisedOf_any h g r W; rw [bk.b, if_pos rfl] at q; exact q
  have E5 : ∀ W, Calls Try.prog 12 #[.agg #[.int .i64 h.fl, .int .i64 h.gp, .int .i64 h.ln, .int .i64 h.rf, .int .i64 h.sp, .int .i64 h.pu, .int .i64 h.br, .int .i64 h.dr, .int .i64 h.lv, .int .i64 h.dO, .int .i64 h.ld, .int .i64 h.qu], .int .i64 r] W fun e w' => e = .returned (.agg #[.int .i64 0, .int .i64 (massN r)]) ∧ Below W.heap.size W w' := fun W => by have q := implMassOf_any h r W; unfold Hs.massV at q; rw [bk.m, if_pos rfl] at q; exact q
  have es : enE h g r = movE g r + raiE h g r := rfl
  have bs := bk.s
  have i1 := bk.i1; have i2 := bk.i2; have o1 := bk.o1; have o2 := bk.o2; have l1 := bk.l1; have l2 := bk.l2
  clear bk
  obtain ⟨ea, hea⟩ : ∃ x, enE h c r = x := ⟨_, rfl⟩
  obtain ⟨eb, heb⟩ : ∃ x, enE h g r = x := ⟨_, rfl⟩
  obtain ⟨mv, hmv⟩ : ∃ x, movE g r = x := ⟨_, rfl⟩
  obtain ⟨ra, hra⟩ : ∃ x, raiE h g r = x := ⟨_, rfl⟩
  obtain ⟨mm, hmm⟩ : ∃ x, massN r = x := ⟨_, rfl⟩
  rw [hea] at E1 ca bs
  rw [heb] at E2 cb bs es
  rw [hmv] at E3 es
  rw [hra] at E4 es
  rw [hmm] at E5 mb
  have cr2 : -575000000 ≤ mv ∧ mv ≤ 575000000 := by rw [← hmv]; exact cr.2
  have cq2 : -414000000000 ≤ ra ∧ ra ≤ 414000000000 := by rw [← hra]; exact cq.2
  clear cr cq hea heb hmv hra hmm
  have q1 : IntKind.i64.wrap (i - o) = i - o := IntWalk.i64_in _ (by omega)
  have q2 : IntKind.i64.wrap (i - o - l) = i - o - l := IntWalk.i64_in _ (by omega)
  have q3 : IntKind.i64.wrap (eb - ea) = eb - ea := IntWalk.i64_in _ (by omega)
  have q4 : IntKind.i64.wrap (mv + ra) = mv + ra := IntWalk.i64_in _ (by omega)
  have p1 : (i - o - l == eb - ea) = true := by simpa using bs
  have p2 : (eb == mv + ra) = true := by simpa using es
  have p3 : decide (i ≥ 0) = true := decide_eq_true i1
  have p4 : decide (o ≥ 0) = true := decide_eq_true o1
  have p5 : decide (l ≥ 0) = true := decide_eq_true l1
  have p6 : decide (mm ≥ 800) = true := decide_eq_true mb.1
  have fr := fieldRB1
  clear bs es i1 i2 o1 o2 l1 l2 ca cb cr2 cq2 mb
  go_upto_region 8 with (first | (refine load_blk 27 _ Try.underlying27 (by kernel_rfl) F0.out rfl rfl rfl ?_) | (refine load_blk 34 _ Try.underlying34 (by kernel_rfl) F1.out rfl rfl rfl ?_) | (go_at_call 20; refine (E1 _).mono ?_; rintro e w5 ⟨rfl, hb⟩; have F0 : Hid (Blk w5 b0 [.int .i64 h.fl, .int .i64 h.gp, .int .i64 h.ln, .int .i64 h.rf, .int .i64 h.sp, .int .i64 h.pu, .int .i64 h.br, .int .i64 h.dr, .int .i64 h.lv, .int .i64 h.dO, .int .i64 h.ld, .int .i64 h.qu]) := F0.out.below hb F0.out.lt; have F1 : Hid (Blk w5 b1 [.int .i64 c.pos, .int .i64 c.vel, .int .i64 c.door]) := F1.out.below hb F1.out.lt; have F2 : Hid (Blk w5 b2 [.int .i64 0, .int .i64 i, .int .i64 o, .int .i64 l, .int .i64 g.pos, .int .i64 g.vel, .int .i64 g.door]) := F2.out.below hb F2.out.lt; have FB : Hid (Below w.heap.size w w5) := FB.out.trans (hb.mono FB.out.size); clear hb) | (refine store_new [.int .i64 0, .int .i64 ea] 25 _ _ (by kernel_rfl) (by kernel_rfl) (by kernel_rfl) rfl rfl rfl rfl ?_))
  have FB0 := FB
  obtain ⟨b3, hbb⟩ : ∃ b3, b3 = w5.heap.size := ⟨_, rfl⟩
  obtain ⟨w6, hw2⟩ : ∃ w6, w6 = w5.alloc (.cells #[.int .i64 0, .int .i64 ea] 25) := ⟨_, rfl⟩
  have nb3b0 : b0 < b3 := by rw [hbb]; exact F0.out.lt
  have nb3b1 : b1 < b3 := by rw [hbb]; exact F1.out.lt
  have nb3b2 : b2 < b3 := by rw [hbb]; exact F2.out.lt
  have F0 : Hid (Blk w6 b0 [.int .i64 h.fl, .int .i64 h.gp, .int .i64 h.ln, .int .i64 h.rf, .int .i64 h.sp, .int .i64 h.pu, .int .i64 h.br, .int .i64 h.dr, .int .i64 h.lv, .int .i64 h.dO, .int .i64 h.ld, .int .i64 h.qu]) := by rw [hw2]; exact F0.out.alloc _
  have F1 : Hid (Blk w6 b1 [.int .i64 c.pos, .int .i64 c.vel, .int .i64 c.door]) := by rw [hw2]; exact F1.out.alloc _
  have F2 : Hid (Blk w6 b2 [.int .i64 0, .int .i64 i, .int .i64 o, .int .i64 l, .int .i64 g.pos, .int .i64 g.vel, .int .i64 g.door]) := by rw [hw2]; exact F2.out.alloc _
  have F3 : Hid (Blk w6 b3 [.int .i64 0, .int .i64 ea]) := by rw [hw2]; exact Blk.at_ w5 #[.int .i64 0, .int .i64 ea] _ _ hbb
  have FB : Hid (Below w.heap.size w w6) := by rw [hw2]; exact FB.out.alloc FB.out.size _
  have leb3 : w.heap.size ≤ b3 := by rw [hbb]; exact FB0.out.size
  (try simp only [Act.put])
  rw [← hw2, ← hbb]
  clear hbb hw2 FB0
  go_upto_region 9 with (first | (refine load_blk 27 _ Try.underlying27 (by kernel_rfl) F0.out rfl rfl rfl ?_) | (refine load_mid 34 _ 4 [.int .i64 g.pos, .int .i64 g.vel, .int .i64 g.door] Try.underlying34 (by kernel_rfl) F2.out rfl rfl rfl rfl ?_) | (go_at_call 20; refine (E2 _).mono ?_; rintro e w7 ⟨rfl, hb⟩; have F0 : Hid (Blk w7 b0 [.int .i64 h.fl, .int .i64 h.gp, .int .i64 h.ln, .int .i64 h.rf, .int .i64 h.sp, .int .i64 h.pu, .int .i64 h.br, .int .i64 h.dr, .int .i64 h.lv, .int .i64 h.dO, .int .i64 h.ld, .int .i64 h.qu]) := F0.out.below hb F0.out.lt; have F1 : Hid (Blk w7 b1 [.int .i64 c.pos, .int .i64 c.vel, .int .i64 c.door]) := F1.out.below hb F1.out.lt; have F2 : Hid (Blk w7 b2 [.int .i64 0, .int .i64 i, .int .i64 o, .int .i64 l, .int .i64 g.pos, .int .i64 g.vel, .int .i64 g.door]) := F2.out.below hb F2.out.lt; have F3 : Hid (Blk w7 b3 [.int .i64 0, .int .i64 ea]) := F3.out.below hb F3.out.lt; have FB : Hid (Below w.heap.size w w7) := FB.out.trans (hb.mono FB.out.size); clear hb) | (refine store_new [.int .i64 0, .int .i64 eb] 25 _ _ (by kernel_rfl) (by kernel_rfl) (by kernel_rfl) rfl rfl rfl rfl ?_))
  have FB0 := FB
  obtain ⟨b4, hbb⟩ : ∃ b4, b4 = w7.heap.size := ⟨_, rfl⟩
  obtain ⟨w8, hw2⟩ : ∃ w8, w8 = w7.alloc (.cells #[.int .i64 0, .int .i64 eb] 25) := ⟨_, rfl⟩
  have nb4b0 : b0 < b4 := by rw [hbb]; exact F0.out.lt
  have nb4b1 : b1 < b4 := by rw [hbb]; exact F1.out.lt
  have nb4b2 : b2 < b4 := by rw [hbb]; exact F2.out.lt
  have nb4b3 : b3 < b4 := by rw [hbb]; exact F3.out.lt
  have F0 : Hid (Blk w8 b0 [.int .i64 h.fl, .int .i64 h.gp, .int .i64 h.ln, .int .i64 h.rf, .int .i64 h.sp, .int .i64 h.pu, .int .i64 h.br, .int .i64 h.dr, .int .i64 h.lv, .int .i64 h.dO, .int .i64 h.ld, .int .i64 h.qu]) := by rw [hw2]; exact F0.out.alloc _
  have F1 : Hid (Blk w8 b1 [.int .i64 c.pos, .int .i64 c.vel, .int .i64 c.door]) := by rw [hw2]; exact F1.out.alloc _
  have F2 : Hid (Blk w8 b2 [.int .i64 0, .int .i64 i, .int .i64 o, .int .i64 l, .int .i64 g.pos, .int .i64 g.vel, .int .i64 g.door]) := by rw [hw2]; exact F2.out.alloc _
  have F3 : Hid (Blk w8 b3 [.int .i64 0, .int .i64 ea]) := by rw [hw2]; exact F3.out.alloc _
  have F4 : Hid (Blk w8 b4 [.int .i64 0, .int .i64 eb]) := by rw [hw2]; exact Blk.at_ w7 #[.int .i64 0, .int .i64 eb] _ _ hbb
  have FB : Hid (Below w.heap.size w w8) := by rw [hw2]; exact FB.out.alloc FB.out.size _
  have leb4 : w.heap.size ≤ b4 := by rw [hbb]; exact FB0.out.size
  (try simp only [Act.put])
  rw [← hw2, ← hbb]
  clear hbb hw2 FB0
  simp only [List.append_eq, List.cons_append, List.nil_append]
  have F0 : Hid (Blk w8.drew b0 [.int .i64 h.fl, .int .i64 h.gp, .int .i64 h.ln, .int .i64 h.rf, .int .i64 h.sp, .int .i64 h.pu, .int .i64 h.br, .int .i64 h.dr, .int .i64 h.lv, .int .i64 h.dO, .int .i64 h.ld, .int .i64 h.qu]) := F0.out.below (Below.refl _ _).drew F0.out.lt
  have F1 : Hid (Blk w8.drew b1 [.int .i64 c.pos, .int .i64 c.vel, .int .i64 c.door]) := F1.out.below (Below.refl _ _).drew F1.out.lt
  have F2 : Hid (Blk w8.drew b2 [.int .i64 0, .int .i64 i, .int .i64 o, .int .i64 l, .int .i64 g.pos, .int .i64 g.vel, .int .i64 g.door]) := F2.out.below (Below.refl _ _).drew F2.out.lt
  have F3 : Hid (Blk w8.drew b3 [.int .i64 0, .int .i64 ea]) := F3.out.below (Below.refl _ _).drew F3.out.lt
  have F4 : Hid (Blk w8.drew b4 [.int .i64 0, .int .i64 eb]) := F4.out.below (Below.refl _ _).drew F4.out.lt
  have FB : Hid (Below w.heap.size w w8.drew) := FB.out.drew
  refine wp_region_held_drew (S := (fun w'' => Blk w'' b0 ([.int .i64 h.fl, .int .i64 h.gp, .int .i64 h.ln, .int .i64 h.rf, .int .i64 h.sp, .int .i64 h.pu, .int .i64 h.br, .int .i64 h.dr, .int .i64 h.lv, .int .i64 h.dO, .int .i64 h.ld, .int .i64 h.qu]) ∧ Blk w'' b2 ([.int .i64 0, .int .i64 i, .int .i64 o, .int .i64 l, .int .i64 g.pos, .int .i64 g.vel, .int .i64 g.door]) ∧ Blk w'' b3 ([.int .i64 0, .int .i64 ea]) ∧ Blk w'' b4 ([.int .i64 0, .int .i64 eb]))) (by kernel_rfl) (by (try dsimp only); first | exact ⟨F0.out, F2.out, F3.out, F4.out⟩ | go_keep) (fun hHeld => ?_)
  obtain ⟨v_3, hw1⟩ : ∃ v_3, v_3 = w8.drew := ⟨_, rfl⟩
  have F0 : Hid (Blk v_3 b0 [.int .i64 h.fl, .int .i64 h.gp, .int .i64 h.ln, .int .i64 h.rf, .int .i64 h.sp, .int .i64 h.pu, .int .i64 h.br, .int .i64 h.dr, .int .i64 h.lv, .int .i64 h.dO, .int .i64 h.ld, .int .i64 h.qu]) := by rw [hw1]; exact F0.out
  have F1 : Hid (Blk v_3 b1 [.int .i64 c.pos, .int .i64 c.vel, .int .i64 c.door]) := by rw [hw1]; exact F1.out
  have F2 : Hid (Blk v_3 b2 [.int .i64 0, .int .i64 i, .int .i64 o, .int .i64 l, .int .i64 g.pos, .int .i64 g.vel, .int .i64 g.door]) := by rw [hw1]; exact F2.out
  have F3 : Hid (Blk v_3 b3 [.int .i64 0, .int .i64 ea]) := by rw [hw1]; exact F3.out
  have F4 : Hid (Blk v_3 b4 [.int .i64 0, .int .i64 eb]) := by rw [hw1]; exact F4.out
  have FB : Hid (Below w.heap.size w v_3) := by rw [hw1]; exact FB.out
  rw [← hw1] at hHeld ⊢
  clear hw1
  refine tkz 0 rfl ?_
  refine tkz 1 rfl ?_ (hy := Or.inl ⟨by kernel_rfl, by (intro wx hSw; have hq2_0 := hSw.2.2.1.c 0 _ rfl; (try dsimp only at hSw); go_simp <;> with_reducible rfl)⟩)
  refine tkz 2 rfl ?_
  refine tkz 3 rfl ?_
  refine tkz 4 rfl ?_
  refine tkz 5 rfl ?_ (hy := Or.inl ⟨by kernel_rfl, by (intro wx hSw; have hq3_0 := hSw.2.2.2.c 0 _ rfl; (try dsimp only at hSw); go_simp <;> with_reducible rfl)⟩)
  refine tkz 6 rfl ?_
  refine tkz 7 rfl ?_
  refine tkz 8 rfl ?_
  refine tkz 9 rfl ?_
  refine tkz 10 rfl ?_ (hy := Or.inl ⟨by kernel_rfl, by (intro wx hSw; have hq1_1 := hSw.2.1.c 1 _ rfl; (try dsimp only at hSw); go_simp <;> with_reducible rfl)⟩)
  refine tkz 11 rfl ?_
  refine tkz 12 rfl ?_ (hy := Or.inl ⟨by kernel_rfl, by (intro wx hSw; have hq1_2 := hSw.2.1.c 2 _ rfl; (try dsimp only at hSw); go_simp <;> with_reducible rfl)⟩)
  refine tkz 13 rfl ?_
  refine tkz 14 rfl ?_
  refine tkz 15 rfl ?_ (hy := Or.inl ⟨by kernel_rfl, by (intro wx hSw; have hq1_3 := hSw.2.1.c 3 _ rfl; (try dsimp only at hSw); go_simp <;> with_reducible rfl)⟩)
  refine tkz 16 rfl ?_
  refine tkz 17 rfl ?_
  refine tkz 18 rfl ?_ (hy := Or.inl ⟨by kernel_rfl, by (intro wx hSw; have hq3_1 := hSw.2.2.2.c 1 _ rfl; (try dsimp only at hSw); go_simp <;> with_reducible rfl)⟩)
  refine tkz 19 rfl ?_
  refine tkz 20 rfl ?_ (hy := Or.inl ⟨by kernel_rfl, by (intro wx hSw; have hq2_1 := hSw.2.2.1.c 1 _ rfl; (try dsimp only at hSw); go_simp <;> with_reducible rfl)⟩)
  refine tkz 21 rfl ?_
  refine tkz 22 rfl ?_
  refine tkz 23 rfl ?_
  refine tkz 24 rfl ?_
  refine tkz 25 rfl ?_
  refine tkz 26 rfl ?_ (hy := Or.inl ⟨by kernel_rfl, by (intro wx hSw; have hq1_1 := hSw.2.1.c 1 _ rfl; (try dsimp only at hSw); go_simp <;> with_reducible rfl)⟩)
  refine tkz 27 rfl ?_
  refine tkz 28 rfl ?_
  refine tkz 29 rfl ?_
  refine tkz 30 rfl ?_
  refine tkz 31 rfl ?_ (hy := Or.inl ⟨by kernel_rfl, by (intro wx hSw; have hq1_2 := hSw.2.1.c 2 _ rfl; (try dsimp only at hSw); go_simp <;> with_reducible rfl)⟩)
  refine tkz 32 rfl ?_
  refine tkz 33 rfl ?_
  refine tkz 34 rfl ?_
  refine tkz 35 rfl ?_
  refine tkz 36 rfl ?_ (hy := Or.inl ⟨by kernel_rfl, by (intro wx hSw; have hq1_3 := hSw.2.1.c 3 _ rfl; (try dsimp only at hSw); go_simp <;> with_reducible rfl)⟩)
  refine tkz 37 rfl ?_
  refine tkz 38 rfl ?_
  refine tkz 39 rfl ?_
  refine tkz 40 rfl ?_ (hy := Or.inl ⟨by kernel_rfl, fun wx hSw => exec_load_blk 27 _ Try.underlying27 (by kernel_rfl) rfl rfl hSw.1⟩)
  refine tkz 41 rfl ?_
  refine tkz 42 rfl ?_ (hy := Or.inl ⟨by kernel_rfl, fun wx hSw => exec_load_mid 34 _ 4 [.int .i64 g.pos, .int .i64 g.vel, .int .i64 g.door] Try.underlying34 (by kernel_rfl) rfl rfl rfl hSw.2.1⟩)
  refine tkz 43 rfl ?_
  refine tkz 46 rfl ?_ (hy := Or.inl ⟨by kernel_rfl, fun wx hSw => exec_load_blk 27 _ Try.underlying27 (by kernel_rfl) rfl rfl hSw.1⟩)
  refine tkz 47 rfl ?_
  refine tkz 48 rfl ?_ (hy := Or.inl ⟨by kernel_rfl, fun wx hSw => exec_load_mid 34 _ 4 [.int .i64 g.pos, .int .i64 g.vel, .int .i64 g.door] Try.underlying34 (by kernel_rfl) rfl rfl rfl hSw.2.1⟩)
  refine tkz 49 rfl ?_
  refine tkz 52 rfl ?_ (hy := Or.inl ⟨by kernel_rfl, fun wx hSw => exec_load_blk 27 _ Try.underlying27 (by kernel_rfl) rfl rfl hSw.1⟩)
  refine tkz 53 rfl ?_
  refine tkz 54 rfl ?_ (hy := Or.inl ⟨by kernel_rfl, fun wx hSw => exec_load_mid 34 _ 4 [.int .i64 g.pos, .int .i64 g.vel, .int .i64 g.door] Try.underlying34 (by kernel_rfl) rfl rfl rfl hSw.2.1⟩)
  refine tkz 55 rfl ?_
  refine wpAnyH_ready (rs := [44]) (by kernel_rfl) (by simp) ?_
  refine (AllReadyH.cons rfl (fun K hK => ?_) AllReadyH.nil)
  go_simp
  refine (E2 _).mono ?_
  rintro e v_4 ⟨rfl, hb⟩
  have F0 : Hid (Blk v_4 b0 [.int .i64 h.fl, .int .i64 h.gp, .int .i64 h.ln, .int .i64 h.rf, .int .i64 h.sp, .int .i64 h.pu, .int .i64 h.br, .int .i64 h.dr, .int .i64 h.lv, .int .i64 h.dO, .int .i64 h.ld, .int .i64 h.qu]) := F0.out.below hb F0.out.lt
  have F1 : Hid (Blk v_4 b1 [.int .i64 c.pos, .int .i64 c.vel, .int .i64 c.door]) := F1.out.below hb F1.out.lt
  have F2 : Hid (Blk v_4 b2 [.int .i64 0, .int .i64 i, .int .i64 o, .int .i64 l, .int .i64 g.pos, .int .i64 g.vel, .int .i64 g.door]) := F2.out.below hb F2.out.lt
  have F3 : Hid (Blk v_4 b3 [.int .i64 0, .int .i64 ea]) := F3.out.below hb F3.out.lt
  have F4 : Hid (Blk v_4 b4 [.int .i64 0, .int .i64 eb]) := F4.out.below hb F4.out.lt
  have FB : Hid (Below w.heap.size w v_4) := FB.out.trans (hb.mono FB.out.size)
  clear hb
  try dsimp only
  refine hK.out _ _ (by (try dsimp only); first | exact ⟨F0.out, F2.out, F3.out, F4.out⟩ | go_keep) (fun hHeld => ?_)
  clear hK K
  try simp only [Act.put, List.getElem_toArray, List.getElem_cons_succ, List.getElem_cons_zero, List.setIfInBounds_toArray, List.set_cons_zero, List.set_cons_succ]
  refine tkz 45 rfl ?_
  refine wpAnyH_ready (rs := [50]) (by kernel_rfl) (by simp) ?_
  refine (AllReadyH.cons rfl (fun K hK => ?_) AllReadyH.nil)
  go_simp
  refine (E3 _).mono ?_
  rintro e v_5 ⟨rfl, hb⟩
  have F0 : Hid (Blk v_5 b0 [.int .i64 h.fl, .int .i64 h.gp, .int .i64 h.ln, .int .i64 h.rf, .int .i64 h.sp, .int .i64 h.pu, .int .i64 h.br, .int .i64 h.dr, .int .i64 h.lv, .int .i64 h.dO, .int .i64 h.ld, .int .i64 h.qu]) := F0.out.below hb F0.out.lt
  have F1 : Hid (Blk v_5 b1 [.int .i64 c.pos, .int .i64 c.vel, .int .i64 c.door]) := F1.out.below hb F1.out.lt
  have F2 : Hid (Blk v_5 b2 [.int .i64 0, .int .i64 i, .int .i64 o, .int .i64 l, .int .i64 g.pos, .int .i64 g.vel, .int .i64 g.door]) := F2.out.below hb F2.out.lt
  have F3 : Hid (Blk v_5 b3 [.int .i64 0, .int .i64 ea]) := F3.out.below hb F3.out.lt
  have F4 : Hid (Blk v_5 b4 [.int .i64 0, .int .i64 eb]) := F4.out.below hb F4.out.lt
  have FB : Hid (Below w.heap.size w v_5) := FB.out.trans (hb.mono FB.out.size)
  clear hb
  try dsimp only
  refine hK.out _ _ (by (try dsimp only); first | exact ⟨F0.out, F2.out, F3.out, F4.out⟩ | go_keep) (fun hHeld => ?_)
  clear hK K
  try simp only [Act.put, List.getElem_toArray, List.getElem_cons_succ, List.getElem_cons_zero, List.setIfInBounds_toArray, List.set_cons_zero, List.set_cons_succ]
  refine tkz 51 rfl ?_
  refine wpAnyH_ready (rs := [56]) (by kernel_rfl) (by simp) ?_
  refine (AllReadyH.cons rfl (fun K hK => ?_) AllReadyH.nil)
  go_simp
  refine (E4 _).mono ?_
  rintro e v_6 ⟨rfl, hb⟩
  have F0 : Hid (Blk v_6 b0 [.int .i64 h.fl, .int .i64 h.gp, .int .i64 h.ln, .int .i64 h.rf, .int .i64 h.sp, .int .i64 h.pu, .int .i64 h.br, .int .i64 h.dr, .int .i64 h.lv, .int .i64 h.dO, .int .i64 h.ld, .int .i64 h.qu]) := F0.out.below hb F0.out.lt
  have F1 : Hid (Blk v_6 b1 [.int .i64 c.pos, .int .i64 c.vel, .int .i64 c.door]) := F1.out.below hb F1.out.lt
  have F2 : Hid (Blk v_6 b2 [.int .i64 0, .int .i64 i, .int .i64 o, .int .i64 l, .int .i64 g.pos, .int .i64 g.vel, .int .i64 g.door]) := F2.out.below hb F2.out.lt
  have F3 : Hid (Blk v_6 b3 [.int .i64 0, .int .i64 ea]) := F3.out.below hb F3.out.lt
  have F4 : Hid (Blk v_6 b4 [.int .i64 0, .int .i64 eb]) := F4.out.below hb F4.out.lt
  have FB : Hid (Below w.heap.size w v_6) := FB.out.trans (hb.mono FB.out.size)
  clear hb
  try dsimp only
  refine hK.out _ _ (by (try dsimp only); first | exact ⟨F0.out, F2.out, F3.out, F4.out⟩ | go_keep) (fun hHeld => ?_)
  clear hK K
  try simp only [Act.put, List.getElem_toArray, List.getElem_cons_succ, List.getElem_cons_zero, List.setIfInBounds_toArray, List.set_cons_zero, List.set_cons_succ]
  refine tkz 57 rfl ?_
  refine tkz 58 rfl ?_
  refine tkz 59 rfl ?_
  refine tkz 60 rfl ?_
  refine tkz 61 rfl ?_
  refine tkz 62 rfl ?_ (hy := Or.inl ⟨by kernel_rfl, fun wx hSw => exec_load_blk 27 _ Try.underlying27 (by kernel_rfl) rfl rfl hSw.1⟩)
  refine tkz 63 rfl ?_
  refine wpAnyH_ready (rs := [64]) (by kernel_rfl) (by simp) ?_
  refine (AllReadyH.cons rfl (fun K hK => ?_) AllReadyH.nil)
  go_simp
  refine (E5 _).mono ?_
  rintro e v_7 ⟨rfl, hb⟩
  have F0 : Hid (Blk v_7 b0 [.int .i64 h.fl, .int .i64 h.gp, .int .i64 h.ln, .int .i64 h.rf, .int .i64 h.sp, .int .i64 h.pu, .int .i64 h.br, .int .i64 h.dr, .int .i64 h.lv, .int .i64 h.dO, .int .i64 h.ld, .int .i64 h.qu]) := F0.out.below hb F0.out.lt
  have F1 : Hid (Blk v_7 b1 [.int .i64 c.pos, .int .i64 c.vel, .int .i64 c.door]) := F1.out.below hb F1.out.lt
  have F2 : Hid (Blk v_7 b2 [.int .i64 0, .int .i64 i, .int .i64 o, .int .i64 l, .int .i64 g.pos, .int .i64 g.vel, .int .i64 g.door]) := F2.out.below hb F2.out.lt
  have F3 : Hid (Blk v_7 b3 [.int .i64 0, .int .i64 ea]) := F3.out.below hb F3.out.lt
  have F4 : Hid (Blk v_7 b4 [.int .i64 0, .int .i64 eb]) := F4.out.below hb F4.out.lt
  have FB : Hid (Below w.heap.size w v_7) := FB.out.trans (hb.mono FB.out.size)
  clear hb
  try dsimp only
  refine hK.out _ _ (by (try dsimp only); first | exact ⟨F0.out, F2.out, F3.out, F4.out⟩ | go_keep) (fun hHeld => ?_)
  clear hK K
  try simp only [Act.put, List.getElem_toArray, List.getElem_cons_succ, List.getElem_cons_zero, List.setIfInBounds_toArray, List.set_cons_zero, List.set_cons_succ]
  refine tkz 65 rfl ?_
  refine tkz 66 rfl ?_
  refine tkz 67 rfl ?_
  refine tkz 68 rfl ?_
  refine wpAnyH_done (by kernel_rfl) ?_ _
  go_wp2
  go_ret
  exact ⟨by first | rfl | simp, FB.out⟩
end Go.Proofs.Ytngdfckknkgdgaa

namespace Go.Proofs.Ytngdfckknkgdgaa.fnBooks
open Go.ChangeShapes Go.WideShapes Go.ChangeAt Go.RowKit
open Go.ChangeMaps (open_string shut_string)
set_option linter.unusedVariables false

theorem own : ownKnob Try.prog.godebug = none := by kernel_rfl
theorem laidOut : laidOutB Try.prog = true := by kernel_rfl

/-- WHAT THE WALK IS TOLD OF A SLICE OF INTEGERS THAT CAME IN: it is nil; or it leads to a row of 'cap' cells, the numbers 'zs' (the first 'len' are its elements, the rest its spare room), each fitting its kind. -/
def IsRow (k : IntKind) (w : World) (a : Option Addr) (len cap : Nat) (zs : List Int) : Prop :=
  (a = none ∧ len = 0 ∧ cap = 0 ∧ zs = []) ∨
  ∃ x, a = some x ∧ len ≤ cap ∧ cap ≤ maxLen ∧ zs.length = cap ∧ (∀ i, i < zs.length → w.cell? (x.add i) = some (.int k (zs.getD i 0))) ∧ ∀ n ∈ zs, (Lit.int k n).wf = true

/-! ### STEP 1: THE WALK: the Go text returns true, AND WRITES NOTHING THAT WAS THERE: 'Below w.heap.size w w'' (Derived/Below.lean: '.refl', '.alloc', '.drew', '.setCell' at a new block, '.trans'). Open each 'IsRow' by 'rcases' AHEAD of 'go_enter'; part every test ahead of the walk. -/
set_option maxHeartbeats 8000000 in
theorem walk (a0 : Option Addr) (len0 cap0 : Nat) (z0 : List Int) (w : World) (w0 : IsRow .u8 w a0 len0 cap0 z0) :
    Calls Try.prog 9 #[.slice a0 len0 cap0] w fun e w' => e = .returned (.bool true) ∧ Below w.heap.size w w' := by
  have hnone : a0 = none → len0 = 0 ∧ cap0 = 0 := by
    intro e
    rcases w0 with ⟨_, q1, q2, _⟩ | ⟨x, q, _⟩
    · exact ⟨q1, q2⟩
    · rw [q] at e
      cases e
  by_cases hbig : len0 ≤ 1048576
  · exact books_walk a0 len0 cap0 w (codeIn_of w0 hbig _ (Nat.le_refl _)) hbig hnone
  · have hm : len0 ≤ maxLen := row_le w0
    clear w0
    go_enter Try.func9, Try.ntmps9
    go_wp2_with (go_at_call 27; refine (lwBig_yes _ _ _ (by omega) hm _).mono ?_; rintro e w' ⟨rfl, rfl⟩)
    go_ret
    exact ⟨rfl, Below.refl _ _⟩

/-! ### THE ROW's STEP: WRITTEN OUT: LEAVE IT -/
set_option maxRecDepth 100000 in
theorem lifted (os : Os) (started : os.Started) (H : Type) (enc : TypeId × Value → H) :
    ReturnsInHanded {} Try.checked os 9 .any (Rows.fnBooksSpec.pre6 enc Try.prog Try.f9 Rows.fnBooksRow.domain false) (Rows.fnBooksSpec.post enc Try.prog Try.f9 false true false false) := by
  refine returnsInHanded_of_change (C := Try.checked) own started (by kernel_rfl) Try.func9
    (ChangeSpec.witness6 (enc := enc) (C := Try.checked) false ⟨#[], #[.slice none 0 0], []⟩ 8 (by kernel_rfl) (by kernel_rfl) (by kernel_rfl) (by kernel_rfl)) ?_
  intro W base args ds gs before hval0 hW hcnd _
  have hval : ∀ (j : Nat) t v, Try.f9.params[j]? = some t → args[j]? = some v → Value.okWide Try.prog W .any base t v := hval0
  have hW' := hW
  obtain ⟨p, q, hA0, hV, rfl, hfz, hnd⟩ := hW
  have hA : DataW.TrodAll enc Try.prog W 0 (fun _ => true) true Try.f9.params.toList args.toList ds p := hA0
  rw [Try.params9] at hA hval
  obtain ⟨v0, vs0, d0, ds0, p0, q0, hargs, rfl, rfl, h0, r0⟩ := trodAll_cons hA
  obtain ⟨rfl, rfl, rfl⟩ := trodAll_nil r0
  obtain rfl : args = #[v0] := by cases args; simp_all
  obtain ⟨rfl, rfl⟩ := trodVars_none hV
  obtain ⟨a0, len0, cap0, rfl⟩ := okWide_slice Try.underlying48 (hval 0 48 v0 rfl rfl)
  have k0 := h0
  have lt0 : ∀ x ∈ p0, x.block < W.heap.size := by obtain ⟨m, hm⟩ := k0; exact DataW.trod_lt m _ _ _ hm
  obtain ⟨z0, w0⟩ : ∃ zs, IsRow .u8 W a0 len0 cap0 zs := by
    obtain ⟨fuel, hf⟩ := h0
    rcases open_ints Try.underlying48 Try.underlying5 (by kernel_rfl) hf with ⟨hcs, _⟩ | ⟨x, l, c, zs, hcs, _, hl, hm, hz, _, hcell, hwz⟩
    · simp [Value.cells] at hcs
      obtain ⟨rfl, rfl, rfl⟩ := hcs
      exact ⟨[], .inl ⟨rfl, rfl, rfl, rfl⟩⟩
    · simp [Value.cells] at hcs
      obtain ⟨rfl, rfl, rfl⟩ := hcs
      exact ⟨zs, .inr ⟨_, rfl, hl, hm, by simpa using hz, hcell, hwz⟩⟩
  clear hA0 hval0
  refine (walk a0 len0 cap0 z0 W w0).mono fun e W' ⟨he, bel⟩ => ?_
  subst he
  exact ⟨_, rfl, _, _, _, [], _, [], hW', trodAll_mk1 (shut_bool Try.underlying4 _), (trodAll_cons_mk (Below.trod laidOut (by kernel_rfl) (of_decide_eq_true (by kernel_rfl)) k0 bel lt0) trodAll_mk0), rfl, bel.frame _, fun h => by cases h⟩

theorem over : Rows.fnBooksRow.holds Try.pinned (OpenSpec.ofChange Rows.fnBooksSpec) :=
  OpenClaim.holds_of_wide 9 Try.f9 rfl rfl rfl rfl rfl rfl rfl ⟨rfl, rfl, rfl, rfl, rfl⟩ rfl rfl rfl rfl rfl (by kernel_rfl) Try.func9 (by kernel_rfl)
    (of_decide_eq_true (by kernel_rfl)) (by unfold Func.isWrapper; first | (rw [if_pos (by decide +kernel)]; kernel_rfl) | (rw [if_neg (by decide +kernel)]; exact ⟨rfl, rfl⟩))
    (fun os started H enc _ => lifted os started H enc)

/-- ████ THE STATEMENT ████ -/
theorem proved : Rows.FnBooksSaid := over
end Go.Proofs.Ytngdfckknkgdgaa.fnBooks

namespace Go.Proofs.Ytngdfckknkgdgaa
theorem fnBooks_holds : Rows.FnBooksSaid := fnBooks.proved
#print axioms fnBooks_holds
end Go.Proofs.Ytngdfckknkgdgaa
