/-
  
-/
import Derived.Test.YtcjfaimhggckmaaRows
import Derived.WalkKit
import Derived.ProofKit
import Derived.OpenShut
import Derived.ShutString
import Derived.ChangeOld
import Derived.Below
import Derived.Test.YtcjfaimhggckmaaCalP
import Derived.Test.YtcjfaimhggckmaaLedLn
import Derived.Test.YtcjfaimhggckmaaPersPn
import Derived.Test.YtcjfaimhggckmaaLedI
import Derived.Test.YtcjfaimhggckmaaLedE
import Derived.Test.YtcjfaimhggckmaaLedJ
import Derived.Deep.DeepCutAuto
import Derived.Deep.MidRow
import Derived.Test.YtcjfaimhggckmaaSrc
import Derived.Test.YtcjfaimhggckmaaDrawW
import Derived.Test.YtcjfaimhggckmaaGnr
import Derived.Deep.RegionHeld3
import Derived.BigGuardPart
import Derived.WalkMore
namespace Go.Proofs.Ytcjfaimhggckmaa
open Go.RowKit Pl
set_option linter.unusedSimpArgs false
set_option linter.unusedVariables false

theorem OwT.putBO {B C : Nat} {v : Value} {l : List Pe} {k : Nat} (hk : k < B) : ∀ (vs : List Value) (j : Nat) {W : World}, OwT W B C v l → OwT (putB W k j vs) B C v l
  | [], _, _, h => h
  | u :: vs, j, W, h => OwT.putBO hk vs (j + 1) (W := W.setCell ⟨k, j, none⟩ u) ⟨h.o.other (p := ⟨k, j, none⟩) (fun e => by have := (h.o.lt k e).1; omega) u, h.t⟩
set_option maxRecDepth 20000 in
set_option maxHeartbeats 16000000 in
theorem DrawAddCall_any (a : Option Addr) (len cap : Nat) (w : World) (hc : CodeIn w w.heap.size a len) :
    Calls Try.prog 5 #[.slice a len cap] w fun e w' => ∃ (h : Hs) (nx : Int) (ra : Option Addr) (rc : Nat) (l : List Pe) (x y p q : Int), e = .returned (.tuple #[.agg #[.int .i64 h.fl, .int .i64 h.gp, .int .i64 h.ln, .int .i64 h.rf, .int .i64 h.sp, .int .i64 h.pu, .int .i64 h.br, .int .i64 h.dr, .int .i64 h.lv, .int .i64 h.dO, .int .i64 h.ld, .int .i64 h.qu], .agg #[.int .i64 nx, .slice ra l.length rc], .int .i64 x, .int .i64 y, .int .i64 p, .int .i64 q]) ∧ Own w' w.heap.size (.slice ra l.length rc) l ∧ l.length ≤ 60 ∧ Below w.heap.size w w' := by
  obtain ⟨b0, hb0⟩ : ∃ b0, b0 = w.heap.size := ⟨_, rfl⟩
  obtain ⟨b1, hb1⟩ : ∃ b1, b1 = w.heap.size + 1 := ⟨_, rfl⟩
  obtain ⟨W0, hW0⟩ : ∃ W0, W0 = (w.alloc (.cells #[.int .i64 0, .int .i64 0, .int .i64 0, .int .i64 0, .int .i64 0, .int .i64 0, .int .i64 0, .int .i64 0, .int .i64 0, .int .i64 0, .int .i64 0, .int .i64 0] 25)).alloc (.cells #[.int .i64 0, .slice none 0 0] 28) := ⟨_, rfl⟩
  have hsz : W0.heap.size = w.heap.size + 2 := by rw [hW0]; simp
  have HC : Hid (CodeIn W0 w.heap.size a len) := by rw [hW0]; exact hc.keep fun b off _ hb => (World.cell?_alloc_past _ _ _ (by simp; omega)).trans (World.cell?_alloc_past _ _ _ hb)
  have G0 : Hid (Blk W0 b0 [.int .i64 0, .int .i64 0, .int .i64 0, .int .i64 0, .int .i64 0, .int .i64 0, .int .i64 0, .int .i64 0, .int .i64 0, .int .i64 0, .int .i64 0, .int .i64 0]) := by rw [hW0]; exact (Blk.at_ w #[.int .i64 0, .int .i64 0, .int .i64 0, .int .i64 0, .int .i64 0, .int .i64 0, .int .i64 0, .int .i64 0, .int .i64 0, .int .i64 0, .int .i64 0, .int .i64 0] _ _ hb0).alloc _
  have G1 : Hid (Blk W0 b1 [.int .i64 0, .slice none 0 0]) := by rw [hW0]; exact Blk.at_ _ #[.int .i64 0, .slice none 0 0] _ _ (by simp [hb1])
  have FB : Hid (Below w.heap.size w W0) := by rw [hW0]; exact ((Below.refl _ _).alloc (Nat.le_refl _) _).alloc (by simp) _
  have HW0 : Hid (W0 = (w.alloc (.cells #[.int .i64 0, .int .i64 0, .int .i64 0, .int .i64 0, .int .i64 0, .int .i64 0, .int .i64 0, .int .i64 0, .int .i64 0, .int .i64 0, .int .i64 0, .int .i64 0] 25)).alloc (.cells #[.int .i64 0, .slice none 0 0] 28)) := hW0
  have HB0 : Hid (b0 = w.heap.size) := hb0
  have HB1 : Hid (b1 = w.heap.size + 1) := hb1
  have le0 : w.heap.size ≤ b0 := by omega
  have le1 : b0 < b1 := by omega
  have le2 : b1 < w.heap.size + 2 := by omega
  clear hW0 hc hb0 hb1
  go_enter Try.func5, Try.ntmps5
  go_upto_region 1 with fail
  rw [← HW0.out, ← HB1.out, ← HB0.out]
  clear HW0 HB0 HB1
  go_upto_region 2 with (go_at_call 11; refine (l7One_any a len cap _ (HC.out.upR (by omega))).mono ?_; rintro e w1 ⟨h, nx, ra, rc, l, rfl, ho, hl60, hb⟩; have G0 : Hid (Blk w1 b0 [.int .i64 0, .int .i64 0, .int .i64 0, .int .i64 0, .int .i64 0, .int .i64 0, .int .i64 0, .int .i64 0, .int .i64 0, .int .i64 0, .int .i64 0, .int .i64 0]) := G0.out.below hb (by omega); have G1 : Hid (Blk w1 b1 [.int .i64 0, .slice none 0 0]) := G1.out.below hb (by omega); have HC : Hid (CodeIn w1 w.heap.size a len) := HC.out.keep fun b off hb1 _ => hb.cell (p := ⟨b, off, none⟩) (show b < W0.heap.size by omega); have FB : Hid (Below w.heap.size w w1) := FB.out.trans (hb.mono (by omega)); rw [hsz] at ho; have FO : Hid (Own w1 (w.heap.size + 2) (.slice ra l.length rc) l) := ho; have hs1 := hb.size; clear hb ho)
  obtain ⟨b2, hb2⟩ : ∃ b2, b2 = w1.heap.size := ⟨_, rfl⟩
  obtain ⟨b3, hb3⟩ : ∃ b3, b3 = w1.heap.size + 1 := ⟨_, rfl⟩
  obtain ⟨w3, hw3⟩ : ∃ w3, w3 = (w1.alloc (.cells #[.int .i64 h.fl, .int .i64 h.gp, .int .i64 h.ln, .int .i64 h.rf, .int .i64 h.sp, .int .i64 h.pu, .int .i64 h.br, .int .i64 h.dr, .int .i64 h.lv, .int .i64 h.dO, .int .i64 h.ld, .int .i64 h.qu] 25)).alloc (.cells #[.int .i64 nx, .slice ra l.length rc] 28) := ⟨_, rfl⟩
  obtain ⟨sb, hsb⟩ : ∃ sb, sb = w3.heap.size := ⟨_, rfl⟩
  have hs3 : b3 < sb := by rw [hsb, hw3, hb3]; simp
  have hb12 : b2 < b3 := by omega
  have hb1w : w.heap.size + 2 ≤ b2 := by omega
  have G0 : Hid (Blk w3 b0 [.int .i64 0, .int .i64 0, .int .i64 0, .int .i64 0, .int .i64 0, .int .i64 0, .int .i64 0, .int .i64 0, .int .i64 0, .int .i64 0, .int .i64 0, .int .i64 0]) := by rw [hw3]; exact (G0.out.alloc _).alloc _
  have G1 : Hid (Blk w3 b1 [.int .i64 0, .slice none 0 0]) := by rw [hw3]; exact (G1.out.alloc _).alloc _
  have F0 : Hid (Blk w3 b2 [.int .i64 h.fl, .int .i64 h.gp, .int .i64 h.ln, .int .i64 h.rf, .int .i64 h.sp, .int .i64 h.pu, .int .i64 h.br, .int .i64 h.dr, .int .i64 h.lv, .int .i64 h.dO, .int .i64 h.ld, .int .i64 h.qu]) := by rw [hw3]; exact (Blk.at_ w1 #[.int .i64 h.fl, .int .i64 h.gp, .int .i64 h.ln, .int .i64 h.rf, .int .i64 h.sp, .int .i64 h.pu, .int .i64 h.br, .int .i64 h.dr, .int .i64 h.lv, .int .i64 h.dO, .int .i64 h.ld, .int .i64 h.qu] _ _ hb2).alloc _
  have F1 : Hid (Blk w3 b3 [.int .i64 nx, .slice ra l.length rc]) := by rw [hw3]; exact Blk.at_ _ #[.int .i64 nx, .slice ra l.length rc] _ _ (by simp [hb3])
  have FO : Hid (OwT w3 (w.heap.size + 2) b2 (.slice ra l.length rc) l) := by rw [hw3]; exact ((⟨FO.out, fun k hk => by rw [hb2]; exact (FO.out.lt k hk).2⟩ : OwT w1 (w.heap.size + 2) b2 (.slice ra l.length rc) l).alloc _).alloc _
  have HC : Hid (CodeIn w3 w.heap.size a len) := by rw [hw3]; exact HC.out.keep fun b off hb _ => (World.cell?_alloc_past _ _ _ (by simp; omega)).trans (World.cell?_alloc_past _ _ _ (by omega))
  have FB : Hid (Below w.heap.size w w3) := by rw [hw3]; exact (FB.out.alloc FB.out.size _).alloc (by simp; omega) _
  have FK : Hid (Keeps sb w w3) := (Keeps.refl sb w).belowL FB.out (Nat.le_refl _)
  have HSB : Hid (sb = w3.heap.size) := hsb
  have HSZ : Hid (w.heap.size ≤ w3.heap.size) := FB.out.size
  rw [← hw3, ← hb3, ← hb2]
  clear hw3 hb2 hb3 hs1 hsz hsb FB
  go_upto_region 3 with (go_at_call 12; refine (l1Source_t w.heap.size a len cap _ HSZ.out HC.out).mono ?_; rw [← HSB.out]; rintro e w4 ⟨rfl, hs, hk⟩; have G0 : Hid (Blk w4 b0 [.int .i64 0, .int .i64 0, .int .i64 0, .int .i64 0, .int .i64 0, .int .i64 0, .int .i64 0, .int .i64 0, .int .i64 0, .int .i64 0, .int .i64 0, .int .i64 0]) := G0.out.keeps hk (by omega); have G1 : Hid (Blk w4 b1 [.int .i64 0, .slice none 0 0]) := G1.out.keeps hk (by omega); have F0 : Hid (Blk w4 b2 [.int .i64 h.fl, .int .i64 h.gp, .int .i64 h.ln, .int .i64 h.rf, .int .i64 h.sp, .int .i64 h.pu, .int .i64 h.br, .int .i64 h.dr, .int .i64 h.lv, .int .i64 h.dO, .int .i64 h.ld, .int .i64 h.qu]) := F0.out.keeps hk (by omega); have F1 : Hid (Blk w4 b3 [.int .i64 nx, .slice ra l.length rc]) := F1.out.keeps hk (by omega); have FO : Hid (OwT w4 (w.heap.size + 2) b2 (.slice ra l.length rc) l) := FO.out.keeps hk (by omega); have FS : Hid (SrcT w4 sb w.heap.size a len cap (0)) := hs; have FK : Hid (Keeps sb w w4) := FK.out.trans hk; clear hs hk)
  clear HC HSB HSZ
  go_upto_region 4 with (first | (go_at_call 14; refine (l2House_t sb _ a len cap 0 _ FS.out (by omega)).mono ?_; rintro e w5 ⟨h2, rfl, hsm, hs, hk⟩; have o1 := hsm.ok.fl1; have o2 := hsm.ok.fl2; clear hsm; have G0 : Hid (Blk w5 b0 [.int .i64 0, .int .i64 0, .int .i64 0, .int .i64 0, .int .i64 0, .int .i64 0, .int .i64 0, .int .i64 0, .int .i64 0, .int .i64 0, .int .i64 0, .int .i64 0]) := G0.out.keeps hk (by omega); have G1 : Hid (Blk w5 b1 [.int .i64 0, .slice none 0 0]) := G1.out.keeps hk (by omega); have F0 : Hid (Blk w5 b2 [.int .i64 h.fl, .int .i64 h.gp, .int .i64 h.ln, .int .i64 h.rf, .int .i64 h.sp, .int .i64 h.pu, .int .i64 h.br, .int .i64 h.dr, .int .i64 h.lv, .int .i64 h.dO, .int .i64 h.ld, .int .i64 h.qu]) := F0.out.keeps hk (by omega); have F1 : Hid (Blk w5 b3 [.int .i64 nx, .slice ra l.length rc]) := F1.out.keeps hk (by omega); have FO : Hid (OwT w5 (w.heap.size + 2) b2 (.slice ra l.length rc) l) := FO.out.keeps hk (by omega); have FS : Hid (SrcT w5 sb w.heap.size a len cap (0 + 40)) := hs; have FK : Hid (Keeps sb w w5) := FK.out.trans hk; clear hs hk) | (go_at_call 13; refine (l7Two_t h2 o1 o2 sb _ a len cap (0 + 40) _ FS.out (by omega)).mono ?_; rintro e w6 ⟨x, y, rfl, hs, hk⟩; have G0 : Hid (Blk w6 b0 [.int .i64 0, .int .i64 0, .int .i64 0, .int .i64 0, .int .i64 0, .int .i64 0, .int .i64 0, .int .i64 0, .int .i64 0, .int .i64 0, .int .i64 0, .int .i64 0]) := G0.out.keeps hk (by omega); have G1 : Hid (Blk w6 b1 [.int .i64 0, .slice none 0 0]) := G1.out.keeps hk (by omega); have F0 : Hid (Blk w6 b2 [.int .i64 h.fl, .int .i64 h.gp, .int .i64 h.ln, .int .i64 h.rf, .int .i64 h.sp, .int .i64 h.pu, .int .i64 h.br, .int .i64 h.dr, .int .i64 h.lv, .int .i64 h.dO, .int .i64 h.ld, .int .i64 h.qu]) := F0.out.keeps hk (by omega); have F1 : Hid (Blk w6 b3 [.int .i64 nx, .slice ra l.length rc]) := F1.out.keeps hk (by omega); have FO : Hid (OwT w6 (w.heap.size + 2) b2 (.slice ra l.length rc) l) := FO.out.keeps hk (by omega); have FS : Hid (SrcT w6 sb w.heap.size a len cap (0 + 40 + 10)) := hs; have FK : Hid (Keeps sb w w6) := FK.out.trans hk; clear hs hk))
  clear o1 o2
  have G0 : Hid (Blk w6.drew b0 [.int .i64 0, .int .i64 0, .int .i64 0, .int .i64 0, .int .i64 0, .int .i64 0, .int .i64 0, .int .i64 0, .int .i64 0, .int .i64 0, .int .i64 0, .int .i64 0]) := G0.out.below (Below.refl _ _).drew G0.out.lt
  have G1 : Hid (Blk w6.drew b1 [.int .i64 0, .slice none 0 0]) := G1.out.below (Below.refl _ _).drew G1.out.lt
  have F0 : Hid (Blk w6.drew b2 [.int .i64 h.fl, .int .i64 h.gp, .int .i64 h.ln, .int .i64 h.rf, .int .i64 h.sp, .int .i64 h.pu, .int .i64 h.br, .int .i64 h.dr, .int .i64 h.lv, .int .i64 h.dO, .int .i64 h.ld, .int .i64 h.qu]) := F0.out.below (Below.refl _ _).drew F0.out.lt
  have F1 : Hid (Blk w6.drew b3 [.int .i64 nx, .slice ra l.length rc]) := F1.out.below (Below.refl _ _).drew F1.out.lt
  have FO : Hid (OwT w6.drew (w.heap.size + 2) b2 (.slice ra l.length rc) l) := FO.out.drew
  have FS : Hid (SrcT w6.drew sb w.heap.size a len cap (0 + 40 + 10)) := FS.out.drew
  have FK : Hid (Keeps sb w w6.drew) := FK.out.of_below (Below.refl _ _).drew
  refine wp_region_held_drew (S := (fun w'' => Blk w'' b2 ([.int .i64 h.fl, .int .i64 h.gp, .int .i64 h.ln, .int .i64 h.rf, .int .i64 h.sp, .int .i64 h.pu, .int .i64 h.br, .int .i64 h.dr, .int .i64 h.lv, .int .i64 h.dO, .int .i64 h.ld, .int .i64 h.qu]) ∧ Blk w'' b3 ([.int .i64 nx, .slice ra l.length rc]))) (by kernel_rfl) (by (try dsimp only); first | exact ⟨F0.out, F1.out⟩ | go_keep) (fun hHeld => ?_)
  obtain ⟨v_1, hw1⟩ : ∃ v_1, v_1 = w6.drew := ⟨_, rfl⟩
  have G0 : Hid (Blk v_1 b0 [.int .i64 0, .int .i64 0, .int .i64 0, .int .i64 0, .int .i64 0, .int .i64 0, .int .i64 0, .int .i64 0, .int .i64 0, .int .i64 0, .int .i64 0, .int .i64 0]) := by rw [hw1]; exact G0.out
  have G1 : Hid (Blk v_1 b1 [.int .i64 0, .slice none 0 0]) := by rw [hw1]; exact G1.out
  have F0 : Hid (Blk v_1 b2 [.int .i64 h.fl, .int .i64 h.gp, .int .i64 h.ln, .int .i64 h.rf, .int .i64 h.sp, .int .i64 h.pu, .int .i64 h.br, .int .i64 h.dr, .int .i64 h.lv, .int .i64 h.dO, .int .i64 h.ld, .int .i64 h.qu]) := by rw [hw1]; exact F0.out
  have F1 : Hid (Blk v_1 b3 [.int .i64 nx, .slice ra l.length rc]) := by rw [hw1]; exact F1.out
  have FO : Hid (OwT v_1 (w.heap.size + 2) b2 (.slice ra l.length rc) l) := by rw [hw1]; exact FO.out
  have FS : Hid (SrcT v_1 sb w.heap.size a len cap (0 + 40 + 10)) := by rw [hw1]; exact FS.out
  have FK : Hid (Keeps sb w v_1) := by rw [hw1]; exact FK.out
  rw [← hw1] at hHeld ⊢
  clear hw1
  refine tkz 0 rfl ?_ (hy := Or.inl ⟨by kernel_rfl, fun wx hSw => exec_load_blk 25 _ Try.underlying25 (by kernel_rfl) rfl rfl hSw.1⟩)
  refine tkz 1 rfl ?_ (hy := Or.inl ⟨by kernel_rfl, fun wx hSw => exec_load_blk 28 _ Try.underlying28 (by kernel_rfl) rfl rfl hSw.2⟩)
  refine tkz 2 rfl ?_
  refine tkz 3 rfl ?_
  refine tkz 4 rfl ?_
  refine tkz 7 rfl ?_
  refine wpAnyH_ready (rs := [5, 8]) (by kernel_rfl) (by simp) ?_
  refine (AllReadyH.cons rfl (fun K hK => ?_) (AllReadyH.cons rfl (fun K hK => ?_) AllReadyH.nil))
  · go_simp
    obtain ⟨lb5, hbb⟩ : ∃ lb5, lb5 = v_1.heap.size := ⟨_, rfl⟩
    obtain ⟨v_2, hw2⟩ : ∃ v_2, v_2 = v_1.alloc (.cells #[.int .i64 0, .int .i64 1, .int .i64 2, .int .i64 0, .int .i64 1, .int .i64 (-1), .int .i64 3] 2) := ⟨_, rfl⟩
    have nlb5_0 := G0.out.lt
    rw [← hbb] at nlb5_0
    have nlb5_1 := G1.out.lt
    rw [← hbb] at nlb5_1
    have nlb5_2 := F0.out.lt
    rw [← hbb] at nlb5_2
    have nlb5_3 := F1.out.lt
    rw [← hbb] at nlb5_3
    have nlb5_s := FS.out.lt
    rw [← hbb] at nlb5_s
    have FL5 : Hid (LstAt v_2 lb5 [0, 1, 2, 0, 1, (-1), 3]) := by rw [hw2]; exact LstAt.new v_1 [0, 1, 2, 0, 1, (-1), 3] 2 lb5 hbb (by simp)
    have G0 : Hid (Blk v_2 b0 [.int .i64 0, .int .i64 0, .int .i64 0, .int .i64 0, .int .i64 0, .int .i64 0, .int .i64 0, .int .i64 0, .int .i64 0, .int .i64 0, .int .i64 0, .int .i64 0]) := by rw [hw2]; exact G0.out.alloc _
    have G1 : Hid (Blk v_2 b1 [.int .i64 0, .slice none 0 0]) := by rw [hw2]; exact G1.out.alloc _
    have F0 : Hid (Blk v_2 b2 [.int .i64 h.fl, .int .i64 h.gp, .int .i64 h.ln, .int .i64 h.rf, .int .i64 h.sp, .int .i64 h.pu, .int .i64 h.br, .int .i64 h.dr, .int .i64 h.lv, .int .i64 h.dO, .int .i64 h.ld, .int .i64 h.qu]) := by rw [hw2]; exact F0.out.alloc _
    have F1 : Hid (Blk v_2 b3 [.int .i64 nx, .slice ra l.length rc]) := by rw [hw2]; exact F1.out.alloc _
    have FO : Hid (OwT v_2 (w.heap.size + 2) b2 (.slice ra l.length rc) l) := by rw [hw2]; exact FO.out.alloc _
    have FS : Hid (SrcT v_2 sb w.heap.size a len cap (0 + 40 + 10)) := by rw [hw2]; exact FS.out.alloc _
    have FK : Hid (Keeps sb w v_2) := by rw [hw2]; exact FK.out.alloc _
    rw [← hw2, ← hbb]
    clear hbb hw2
    refine hK.out _ _ (by (try dsimp only); first | exact ⟨F0.out, F1.out⟩ | go_keep) (fun hHeld => ?_)
    clear hK K
    try simp only [Act.put, List.getElem_toArray, List.getElem_cons_succ, List.getElem_cons_zero, List.setIfInBounds_toArray, List.set_cons_zero, List.set_cons_succ]
    refine wpAnyH_ready (rs := [6, 8]) (by kernel_rfl) (by simp) ?_
    refine (AllReadyH.cons rfl (fun K hK => ?_) (AllReadyH.cons rfl (fun K hK => ?_) AllReadyH.nil))
    · go_simp
      refine (l1Pick_t sb _ lb5 [0, 1, 2, 0, 1, (-1), 3] (fun _ => True) (fun _ _ => trivial) a len cap _ _ FS.out (by omega) FL5.out (by simp) (by omega)).mono ?_
      rintro e v_3 ⟨p, rfl, -, hs, hk⟩
      have G0 : Hid (Blk v_3 b0 [.int .i64 0, .int .i64 0, .int .i64 0, .int .i64 0, .int .i64 0, .int .i64 0, .int .i64 0, .int .i64 0, .int .i64 0, .int .i64 0, .int .i64 0, .int .i64 0]) := G0.out.keeps hk (by omega)
      have G1 : Hid (Blk v_3 b1 [.int .i64 0, .slice none 0 0]) := G1.out.keeps hk (by omega)
      have F0 : Hid (Blk v_3 b2 [.int .i64 h.fl, .int .i64 h.gp, .int .i64 h.ln, .int .i64 h.rf, .int .i64 h.sp, .int .i64 h.pu, .int .i64 h.br, .int .i64 h.dr, .int .i64 h.lv, .int .i64 h.dO, .int .i64 h.ld, .int .i64 h.qu]) := F0.out.keeps hk (by omega)
      have F1 : Hid (Blk v_3 b3 [.int .i64 nx, .slice ra l.length rc]) := F1.out.keeps hk (by omega)
      have FO : Hid (OwT v_3 (w.heap.size + 2) b2 (.slice ra l.length rc) l) := FO.out.keeps hk (by omega)
      have FS : Hid (SrcT v_3 sb w.heap.size a len cap ((0 + 40 + 10) + 1)) := hs
      have FK : Hid (Keeps sb w v_3) := FK.out.trans hk
      have FL5 : Hid (LstAt v_3 lb5 [0, 1, 2, 0, 1, (-1), 3]) := FL5.out.keeps hk (by omega)
      clear hs hk
      try dsimp only
      refine hK.out _ _ (by (try dsimp only); first | exact ⟨F0.out, F1.out⟩ | go_keep) (fun hHeld => ?_)
      clear hK K
      try simp only [Act.put, List.getElem_toArray, List.getElem_cons_succ, List.getElem_cons_zero, List.setIfInBounds_toArray, List.set_cons_zero, List.set_cons_succ]
      refine wpAnyH_ready (rs := [8]) (by kernel_rfl) (by simp) ?_
      refine (AllReadyH.cons rfl (fun K hK => ?_) AllReadyH.nil)
      go_simp
      obtain ⟨lb8, hbb⟩ : ∃ lb8, lb8 = v_3.heap.size := ⟨_, rfl⟩
      obtain ⟨v_4, hw2⟩ : ∃ v_4, v_4 = v_3.alloc (.cells #[.int .i64 0, .int .i64 1, .int .i64 0, .int .i64 1, .int .i64 0, .int .i64 1, .int .i64 (-1), .int .i64 2] 2) := ⟨_, rfl⟩
      have nlb8_0 := G0.out.lt
      rw [← hbb] at nlb8_0
      have nlb8_1 := G1.out.lt
      rw [← hbb] at nlb8_1
      have nlb8_2 := F0.out.lt
      rw [← hbb] at nlb8_2
      have nlb8_3 := F1.out.lt
      rw [← hbb] at nlb8_3
      have nlb8_s := FS.out.lt
      rw [← hbb] at nlb8_s
      have nlb8_7 := FL5.out.lt
      rw [← hbb] at nlb8_7
      have FL8 : Hid (LstAt v_4 lb8 [0, 1, 0, 1, 0, 1, (-1), 2]) := by rw [hw2]; exact LstAt.new v_3 [0, 1, 0, 1, 0, 1, (-1), 2] 2 lb8 hbb (by simp)
      have G0 : Hid (Blk v_4 b0 [.int .i64 0, .int .i64 0, .int .i64 0, .int .i64 0, .int .i64 0, .int .i64 0, .int .i64 0, .int .i64 0, .int .i64 0, .int .i64 0, .int .i64 0, .int .i64 0]) := by rw [hw2]; exact G0.out.alloc _
      have G1 : Hid (Blk v_4 b1 [.int .i64 0, .slice none 0 0]) := by rw [hw2]; exact G1.out.alloc _
      have F0 : Hid (Blk v_4 b2 [.int .i64 h.fl, .int .i64 h.gp, .int .i64 h.ln, .int .i64 h.rf, .int .i64 h.sp, .int .i64 h.pu, .int .i64 h.br, .int .i64 h.dr, .int .i64 h.lv, .int .i64 h.dO, .int .i64 h.ld, .int .i64 h.qu]) := by rw [hw2]; exact F0.out.alloc _
      have F1 : Hid (Blk v_4 b3 [.int .i64 nx, .slice ra l.length rc]) := by rw [hw2]; exact F1.out.alloc _
      have FO : Hid (OwT v_4 (w.heap.size + 2) b2 (.slice ra l.length rc) l) := by rw [hw2]; exact FO.out.alloc _
      have FS : Hid (SrcT v_4 sb w.heap.size a len cap ((0 + 40 + 10) + 1)) := by rw [hw2]; exact FS.out.alloc _
      have FK : Hid (Keeps sb w v_4) := by rw [hw2]; exact FK.out.alloc _
      have FL5 : Hid (LstAt v_4 lb5 [0, 1, 2, 0, 1, (-1), 3]) := by rw [hw2]; exact FL5.out.alloc _
      rw [← hw2, ← hbb]
      clear hbb hw2
      refine hK.out _ _ (by (try dsimp only); first | exact ⟨F0.out, F1.out⟩ | go_keep) (fun hHeld => ?_)
      clear hK K
      try simp only [Act.put, List.getElem_toArray, List.getElem_cons_succ, List.getElem_cons_zero, List.setIfInBounds_toArray, List.set_cons_zero, List.set_cons_succ]
      refine wpAnyH_ready (rs := [9]) (by kernel_rfl) (by simp) ?_
      refine (AllReadyH.cons rfl (fun K hK => ?_) AllReadyH.nil)
      go_simp
      refine (l1Pick_t sb _ lb8 [0, 1, 0, 1, 0, 1, (-1), 2] (fun _ => True) (fun _ _ => trivial) a len cap _ _ FS.out (by omega) FL8.out (by simp) (by omega)).mono ?_
      rintro e v_5 ⟨q, rfl, -, hs, hk⟩
      have G0 : Hid (Blk v_5 b0 [.int .i64 0, .int .i64 0, .int .i64 0, .int .i64 0, .int .i64 0, .int .i64 0, .int .i64 0, .int .i64 0, .int .i64 0, .int .i64 0, .int .i64 0, .int .i64 0]) := G0.out.keeps hk (by omega)
      have G1 : Hid (Blk v_5 b1 [.int .i64 0, .slice none 0 0]) := G1.out.keeps hk (by omega)
      have F0 : Hid (Blk v_5 b2 [.int .i64 h.fl, .int .i64 h.gp, .int .i64 h.ln, .int .i64 h.rf, .int .i64 h.sp, .int .i64 h.pu, .int .i64 h.br, .int .i64 h.dr, .int .i64 h.lv, .int .i64 h.dO, .int .i64 h.ld, .int .i64 h.qu]) := F0.out.keeps hk (by omega)
      have F1 : Hid (Blk v_5 b3 [.int .i64 nx, .slice ra l.length rc]) := F1.out.keeps hk (by omega)
      have FO : Hid (OwT v_5 (w.heap.size + 2) b2 (.slice ra l.length rc) l) := FO.out.keeps hk (by omega)
      have FS : Hid (SrcT v_5 sb w.heap.size a len cap (((0 + 40 + 10) + 1) + 1)) := hs
      have FK : Hid (Keeps sb w v_5) := FK.out.trans hk
      have FL5 : Hid (LstAt v_5 lb5 [0, 1, 2, 0, 1, (-1), 3]) := FL5.out.keeps hk (by omega)
      have FL8 : Hid (LstAt v_5 lb8 [0, 1, 0, 1, 0, 1, (-1), 2]) := FL8.out.keeps hk (by omega)
      clear hs hk
      try dsimp only
      refine hK.out _ _ (by (try dsimp only); first | exact ⟨F0.out, F1.out⟩ | go_keep) (fun hHeld => ?_)
      clear hK K
      try simp only [Act.put, List.getElem_toArray, List.getElem_cons_succ, List.getElem_cons_zero, List.setIfInBounds_toArray, List.set_cons_zero, List.set_cons_succ]
      refine wpAnyH_ready (rs := [10]) (by kernel_rfl) (by simp) ?_
      refine (AllReadyH.cons rfl (fun K hK => ?_) AllReadyH.nil)
      refine step_ofEG rfl ?_
      refine wp_store_wholeG [.int .i64 h.fl, .int .i64 h.gp, .int .i64 h.ln, .int .i64 h.rf, .int .i64 h.sp, .int .i64 h.pu, .int .i64 h.br, .int .i64 h.dr, .int .i64 h.lv, .int .i64 h.dO, .int .i64 h.ld, .int .i64 h.qu] 25 _ _ (by kernel_rfl) (by kernel_rfl) G0.out rfl rfl rfl rfl ?_
      obtain ⟨v_6, hw2⟩ : ∃ q, q = putB v_5 b0 0 [.int .i64 h.fl, .int .i64 h.gp, .int .i64 h.ln, .int .i64 h.rf, .int .i64 h.sp, .int .i64 h.pu, .int .i64 h.br, .int .i64 h.dr, .int .i64 h.lv, .int .i64 h.dO, .int .i64 h.ld, .int .i64 h.qu] := ⟨_, rfl⟩
      rw [← hw2]
      have G0 : Hid (Blk v_6 b0 [.int .i64 h.fl, .int .i64 h.gp, .int .i64 h.ln, .int .i64 h.rf, .int .i64 h.sp, .int .i64 h.pu, .int .i64 h.br, .int .i64 h.dr, .int .i64 h.lv, .int .i64 h.dO, .int .i64 h.ld, .int .i64 h.qu]) := by rw [hw2]; exact G0.out.put [.int .i64 h.fl, .int .i64 h.gp, .int .i64 h.ln, .int .i64 h.rf, .int .i64 h.sp, .int .i64 h.pu, .int .i64 h.br, .int .i64 h.dr, .int .i64 h.lv, .int .i64 h.dO, .int .i64 h.ld, .int .i64 h.qu] rfl
      have G1 : Hid (Blk v_6 b1 [.int .i64 0, .slice none 0 0]) := by rw [hw2]; exact Blk.putB_other (by omega) _ 0 G1.out
      have F0 : Hid (Blk v_6 b2 [.int .i64 h.fl, .int .i64 h.gp, .int .i64 h.ln, .int .i64 h.rf, .int .i64 h.sp, .int .i64 h.pu, .int .i64 h.br, .int .i64 h.dr, .int .i64 h.lv, .int .i64 h.dO, .int .i64 h.ld, .int .i64 h.qu]) := by rw [hw2]; exact Blk.putB_other (by omega) _ 0 F0.out
      have F1 : Hid (Blk v_6 b3 [.int .i64 nx, .slice ra l.length rc]) := by rw [hw2]; exact Blk.putB_other (by omega) _ 0 F1.out
      have FO : Hid (OwT v_6 (w.heap.size + 2) b2 (.slice ra l.length rc) l) := by rw [hw2]; exact OwT.putBO (by omega) _ 0 FO.out
      have FS : Hid (SrcT v_6 sb w.heap.size a len cap (((0 + 40 + 10) + 1) + 1)) := by rw [hw2]; exact SrcT.putBG (by omega) (by omega) _ 0 FS.out
      have FK : Hid (Keeps sb w v_6) := by rw [hw2]; exact Keeps.putBG (by omega) _ 0 FK.out
      clear hw2
      refine hK.out _ _ (by (try dsimp only); first | exact ⟨F0.out, F1.out⟩ | go_keep) (fun hHeld => ?_)
      clear hK K
      try simp only [Act.put, List.getElem_toArray, List.getElem_cons_succ, List.getElem_cons_zero, List.setIfInBounds_toArray, List.set_cons_zero, List.set_cons_succ]
      refine wpAnyH_ready (rs := [11]) (by kernel_rfl) (by simp) ?_
      refine (AllReadyH.cons rfl (fun K hK => ?_) AllReadyH.nil)
      refine step_ofEG rfl ?_
      refine wp_store_wholeG [.int .i64 nx, .slice ra l.length rc] 28 _ _ (by kernel_rfl) (by kernel_rfl) G1.out rfl rfl rfl rfl ?_
      obtain ⟨v_7, hw2⟩ : ∃ q, q = putB v_6 b1 0 [.int .i64 nx, .slice ra l.length rc] := ⟨_, rfl⟩
      rw [← hw2]
      have G0 : Hid (Blk v_7 b0 [.int .i64 h.fl, .int .i64 h.gp, .int .i64 h.ln, .int .i64 h.rf, .int .i64 h.sp, .int .i64 h.pu, .int .i64 h.br, .int .i64 h.dr, .int .i64 h.lv, .int .i64 h.dO, .int .i64 h.ld, .int .i64 h.qu]) := by rw [hw2]; exact Blk.putB_other (by omega) _ 0 G0.out
      have G1 : Hid (Blk v_7 b1 [.int .i64 nx, .slice ra l.length rc]) := by rw [hw2]; exact G1.out.put [.int .i64 nx, .slice ra l.length rc] rfl
      have F0 : Hid (Blk v_7 b2 [.int .i64 h.fl, .int .i64 h.gp, .int .i64 h.ln, .int .i64 h.rf, .int .i64 h.sp, .int .i64 h.pu, .int .i64 h.br, .int .i64 h.dr, .int .i64 h.lv, .int .i64 h.dO, .int .i64 h.ld, .int .i64 h.qu]) := by rw [hw2]; exact Blk.putB_other (by omega) _ 0 F0.out
      have F1 : Hid (Blk v_7 b3 [.int .i64 nx, .slice ra l.length rc]) := by rw [hw2]; exact Blk.putB_other (by omega) _ 0 F1.out
      have FO : Hid (OwT v_7 (w.heap.size + 2) b2 (.slice ra l.length rc) l) := by rw [hw2]; exact OwT.putBO (by omega) _ 0 FO.out
      have FS : Hid (SrcT v_7 sb w.heap.size a len cap (((0 + 40 + 10) + 1) + 1)) := by rw [hw2]; exact SrcT.putBG (by omega) (by omega) _ 0 FS.out
      have FK : Hid (Keeps sb w v_7) := by rw [hw2]; exact Keeps.putBG (by omega) _ 0 FK.out
      clear hw2
      refine hK.out _ _ (by (try dsimp only); first | exact ⟨F0.out, F1.out⟩ | go_keep) (fun hHeld => ?_)
      clear hK K
      try simp only [Act.put, List.getElem_toArray, List.getElem_cons_succ, List.getElem_cons_zero, List.setIfInBounds_toArray, List.set_cons_zero, List.set_cons_succ]
      refine tkz 12 rfl ?_
      refine tkz 13 rfl ?_
      refine tkz 14 rfl ?_
      refine tkz 15 rfl ?_
      refine wpAnyH_done (by kernel_rfl) ?_ _
      have FB : Below w.heap.size w v_7 := FK.out.below (by omega) (Nat.le_refl _)
      have d0 := G0.out.c 0 _ rfl
      have d1 := G0.out.c 1 _ rfl
      have d2 := G0.out.c 2 _ rfl
      have d3 := G0.out.c 3 _ rfl
      have d4 := G0.out.c 4 _ rfl
      have d5 := G0.out.c 5 _ rfl
      have d6 := G0.out.c 6 _ rfl
      have d7 := G0.out.c 7 _ rfl
      have d8 := G0.out.c 8 _ rfl
      have d9 := G0.out.c 9 _ rfl
      have d10 := G0.out.c 10 _ rfl
      have d11 := G0.out.c 11 _ rfl
      have k0 := G1.out.c 0 _ rfl
      have k1 := G1.out.c 1 _ rfl
      go_wp2_with fail
      exact bodyPost_ret (v := .tuple #[.agg #[.int .i64 h.fl, .int .i64 h.gp, .int .i64 h.ln, .int .i64 h.rf, .int .i64 h.sp, .int .i64 h.pu, .int .i64 h.br, .int .i64 h.dr, .int .i64 h.lv, .int .i64 h.dO, .int .i64 h.ld, .int .i64 h.qu], .agg #[.int .i64 nx, .slice ra l.length rc], .int .i64 x, .int .i64 y, .int .i64 p, .int .i64 q]) (by simp [results, Try.results5, go_sem, d0, d1, d2, d3, d4, d5, d6, d7, d8, d9, d10, d11, k0, k1]) rfl ⟨h, nx, ra, rc, l, x, y, p, q, rfl, FO.out.o.base (by omega), hl60, FB⟩
    · go_simp
      obtain ⟨lb8, hbb⟩ : ∃ lb8, lb8 = v_2.heap.size := ⟨_, rfl⟩
      obtain ⟨v_8, hw2⟩ : ∃ v_8, v_8 = v_2.alloc (.cells #[.int .i64 0, .int .i64 1, .int .i64 0, .int .i64 1, .int .i64 0, .int .i64 1, .int .i64 (-1), .int .i64 2] 2) := ⟨_, rfl⟩
      have nlb8_0 := G0.out.lt
      rw [← hbb] at nlb8_0
      have nlb8_1 := G1.out.lt
      rw [← hbb] at nlb8_1
      have nlb8_2 := F0.out.lt
      rw [← hbb] at nlb8_2
      have nlb8_3 := F1.out.lt
      rw [← hbb] at nlb8_3
      have nlb8_s := FS.out.lt
      rw [← hbb] at nlb8_s
      have nlb8_7 := FL5.out.lt
      rw [← hbb] at nlb8_7
      have FL8 : Hid (LstAt v_8 lb8 [0, 1, 0, 1, 0, 1, (-1), 2]) := by rw [hw2]; exact LstAt.new v_2 [0, 1, 0, 1, 0, 1, (-1), 2] 2 lb8 hbb (by simp)
      have G0 : Hid (Blk v_8 b0 [.int .i64 0, .int .i64 0, .int .i64 0, .int .i64 0, .int .i64 0, .int .i64 0, .int .i64 0, .int .i64 0, .int .i64 0, .int .i64 0, .int .i64 0, .int .i64 0]) := by rw [hw2]; exact G0.out.alloc _
      have G1 : Hid (Blk v_8 b1 [.int .i64 0, .slice none 0 0]) := by rw [hw2]; exact G1.out.alloc _
      have F0 : Hid (Blk v_8 b2 [.int .i64 h.fl, .int .i64 h.gp, .int .i64 h.ln, .int .i64 h.rf, .int .i64 h.sp, .int .i64 h.pu, .int .i64 h.br, .int .i64 h.dr, .int .i64 h.lv, .int .i64 h.dO, .int .i64 h.ld, .int .i64 h.qu]) := by rw [hw2]; exact F0.out.alloc _
      have F1 : Hid (Blk v_8 b3 [.int .i64 nx, .slice ra l.length rc]) := by rw [hw2]; exact F1.out.alloc _
      have FO : Hid (OwT v_8 (w.heap.size + 2) b2 (.slice ra l.length rc) l) := by rw [hw2]; exact FO.out.alloc _
      have FS : Hid (SrcT v_8 sb w.heap.size a len cap (0 + 40 + 10)) := by rw [hw2]; exact FS.out.alloc _
      have FK : Hid (Keeps sb w v_8) := by rw [hw2]; exact FK.out.alloc _
      have FL5 : Hid (LstAt v_8 lb5 [0, 1, 2, 0, 1, (-1), 3]) := by rw [hw2]; exact FL5.out.alloc _
      rw [← hw2, ← hbb]
      clear hbb hw2
      refine hK.out _ _ (by (try dsimp only); first | exact ⟨F0.out, F1.out⟩ | go_keep) (fun hHeld => ?_)
      clear hK K
      try simp only [Act.put, List.getElem_toArray, List.getElem_cons_succ, List.getElem_cons_zero, List.setIfInBounds_toArray, List.set_cons_zero, List.set_cons_succ]
      refine wpAnyH_ready (rs := [6]) (by kernel_rfl) (by simp) ?_
      refine (AllReadyH.cons rfl (fun K hK => ?_) AllReadyH.nil)
      go_simp
      refine (l1Pick_t sb _ lb5 [0, 1, 2, 0, 1, (-1), 3] (fun _ => True) (fun _ _ => trivial) a len cap _ _ FS.out (by omega) FL5.out (by simp) (by omega)).mono ?_
      rintro e v_9 ⟨p, rfl, -, hs, hk⟩
      have G0 : Hid (Blk v_9 b0 [.int .i64 0, .int .i64 0, .int .i64 0, .int .i64 0, .int .i64 0, .int .i64 0, .int .i64 0, .int .i64 0, .int .i64 0, .int .i64 0, .int .i64 0, .int .i64 0]) := G0.out.keeps hk (by omega)
      have G1 : Hid (Blk v_9 b1 [.int .i64 0, .slice none 0 0]) := G1.out.keeps hk (by omega)
      have F0 : Hid (Blk v_9 b2 [.int .i64 h.fl, .int .i64 h.gp, .int .i64 h.ln, .int .i64 h.rf, .int .i64 h.sp, .int .i64 h.pu, .int .i64 h.br, .int .i64 h.dr, .int .i64 h.lv, .int .i64 h.dO, .int .i64 h.ld, .int .i64 h.qu]) := F0.out.keeps hk (by omega)
      have F1 : Hid (Blk v_9 b3 [.int .i64 nx, .slice ra l.length rc]) := F1.out.keeps hk (by omega)
      have FO : Hid (OwT v_9 (w.heap.size + 2) b2 (.slice ra l.length rc) l) := FO.out.keeps hk (by omega)
      have FS : Hid (SrcT v_9 sb w.heap.size a len cap ((0 + 40 + 10) + 1)) := hs
      have FK : Hid (Keeps sb w v_9) := FK.out.trans hk
      have FL5 : Hid (LstAt v_9 lb5 [0, 1, 2, 0, 1, (-1), 3]) := FL5.out.keeps hk (by omega)
      have FL8 : Hid (LstAt v_9 lb8 [0, 1, 0, 1, 0, 1, (-1), 2]) := FL8.out.keeps hk (by omega)
      clear hs hk
      try dsimp only
      refine hK.out _ _ (by (try dsimp only); first | exact ⟨F0.out, F1.out⟩ | go_keep) (fun hHeld => ?_)
      clear hK K
      try simp only [Act.put, List.getElem_toArray, List.getElem_cons_succ, List.getElem_cons_zero, List.setIfInBounds_toArray, List.set_cons_zero, List.set_cons_succ]
      refine wpAnyH_ready (rs := [9]) (by kernel_rfl) (by simp) ?_
      refine (AllReadyH.cons rfl (fun K hK => ?_) AllReadyH.nil)
      go_simp
      refine (l1Pick_t sb _ lb8 [0, 1, 0, 1, 0, 1, (-1), 2] (fun _ => True) (fun _ _ => trivial) a len cap _ _ FS.out (by omega) FL8.out (by simp) (by omega)).mono ?_
      rintro e v_10 ⟨q, rfl, -, hs, hk⟩
      have G0 : Hid (Blk v_10 b0 [.int .i64 0, .int .i64 0, .int .i64 0, .int .i64 0, .int .i64 0, .int .i64 0, .int .i64 0, .int .i64 0, .int .i64 0, .int .i64 0, .int .i64 0, .int .i64 0]) := G0.out.keeps hk (by omega)
      have G1 : Hid (Blk v_10 b1 [.int .i64 0, .slice none 0 0]) := G1.out.keeps hk (by omega)
      have F0 : Hid (Blk v_10 b2 [.int .i64 h.fl, .int .i64 h.gp, .int .i64 h.ln, .int .i64 h.rf, .int .i64 h.sp, .int .i64 h.pu, .int .i64 h.br, .int .i64 h.dr, .int .i64 h.lv, .int .i64 h.dO, .int .i64 h.ld, .int .i64 h.qu]) := F0.out.keeps hk (by omega)
      have F1 : Hid (Blk v_10 b3 [.int .i64 nx, .slice ra l.length rc]) := F1.out.keeps hk (by omega)
      have FO : Hid (OwT v_10 (w.heap.size + 2) b2 (.slice ra l.length rc) l) := FO.out.keeps hk (by omega)
      have FS : Hid (SrcT v_10 sb w.heap.size a len cap (((0 + 40 + 10) + 1) + 1)) := hs
      have FK : Hid (Keeps sb w v_10) := FK.out.trans hk
      have FL5 : Hid (LstAt v_10 lb5 [0, 1, 2, 0, 1, (-1), 3]) := FL5.out.keeps hk (by omega)
      have FL8 : Hid (LstAt v_10 lb8 [0, 1, 0, 1, 0, 1, (-1), 2]) := FL8.out.keeps hk (by omega)
      clear hs hk
      try dsimp only
      refine hK.out _ _ (by (try dsimp only); first | exact ⟨F0.out, F1.out⟩ | go_keep) (fun hHeld => ?_)
      clear hK K
      try simp only [Act.put, List.getElem_toArray, List.getElem_cons_succ, List.getElem_cons_zero, List.setIfInBounds_toArray, List.set_cons_zero, List.set_cons_succ]
      refine wpAnyH_ready (rs := [10]) (by kernel_rfl) (by simp) ?_
      refine (AllReadyH.cons rfl (fun K hK => ?_) AllReadyH.nil)
      refine step_ofEG rfl ?_
      refine wp_store_wholeG [.int .i64 h.fl, .int .i64 h.gp, .int .i64 h.ln, .int .i64 h.rf, .int .i64 h.sp, .int .i64 h.pu, .int .i64 h.br, .int .i64 h.dr, .int .i64 h.lv, .int .i64 h.dO, .int .i64 h.ld, .int .i64 h.qu] 25 _ _ (by kernel_rfl) (by kernel_rfl) G0.out rfl rfl rfl rfl ?_
      obtain ⟨v_11, hw2⟩ : ∃ q, q = putB v_10 b0 0 [.int .i64 h.fl, .int .i64 h.gp, .int .i64 h.ln, .int .i64 h.rf, .int .i64 h.sp, .int .i64 h.pu, .int .i64 h.br, .int .i64 h.dr, .int .i64 h.lv, .int .i64 h.dO, .int .i64 h.ld, .int .i64 h.qu] := ⟨_, rfl⟩
      rw [← hw2]
      have G0 : Hid (Blk v_11 b0 [.int .i64 h.fl, .int .i64 h.gp, .int .i64 h.ln, .int .i64 h.rf, .int .i64 h.sp, .int .i64 h.pu, .int .i64 h.br, .int .i64 h.dr, .int .i64 h.lv, .int .i64 h.dO, .int .i64 h.ld, .int .i64 h.qu]) := by rw [hw2]; exact G0.out.put [.int .i64 h.fl, .int .i64 h.gp, .int .i64 h.ln, .int .i64 h.rf, .int .i64 h.sp, .int .i64 h.pu, .int .i64 h.br, .int .i64 h.dr, .int .i64 h.lv, .int .i64 h.dO, .int .i64 h.ld, .int .i64 h.qu] rfl
      have G1 : Hid (Blk v_11 b1 [.int .i64 0, .slice none 0 0]) := by rw [hw2]; exact Blk.putB_other (by omega) _ 0 G1.out
      have F0 : Hid (Blk v_11 b2 [.int .i64 h.fl, .int .i64 h.gp, .int .i64 h.ln, .int .i64 h.rf, .int .i64 h.sp, .int .i64 h.pu, .int .i64 h.br, .int .i64 h.dr, .int .i64 h.lv, .int .i64 h.dO, .int .i64 h.ld, .int .i64 h.qu]) := by rw [hw2]; exact Blk.putB_other (by omega) _ 0 F0.out
      have F1 : Hid (Blk v_11 b3 [.int .i64 nx, .slice ra l.length rc]) := by rw [hw2]; exact Blk.putB_other (by omega) _ 0 F1.out
      have FO : Hid (OwT v_11 (w.heap.size + 2) b2 (.slice ra l.length rc) l) := by rw [hw2]; exact OwT.putBO (by omega) _ 0 FO.out
      have FS : Hid (SrcT v_11 sb w.heap.size a len cap (((0 + 40 + 10) + 1) + 1)) := by rw [hw2]; exact SrcT.putBG (by omega) (by omega) _ 0 FS.out
      have FK : Hid (Keeps sb w v_11) := by rw [hw2]; exact Keeps.putBG (by omega) _ 0 FK.out
      clear hw2
      refine hK.out _ _ (by (try dsimp only); first | exact ⟨F0.out, F1.out⟩ | go_keep) (fun hHeld => ?_)
      clear hK K
      try simp only [Act.put, List.getElem_toArray, List.getElem_cons_succ, List.getElem_cons_zero, List.setIfInBounds_toArray, List.set_cons_zero, List.set_cons_succ]
      refine wpAnyH_ready (rs := [11]) (by kernel_rfl) (by simp) ?_
      refine (AllReadyH.cons rfl (fun K hK => ?_) AllReadyH.nil)
      refine step_ofEG rfl ?_
      refine wp_store_wholeG [.int .i64 nx, .slice ra l.length rc] 28 _ _ (by kernel_rfl) (by kernel_rfl) G1.out rfl rfl rfl rfl ?_
      obtain ⟨v_12, hw2⟩ : ∃ q, q = putB v_11 b1 0 [.int .i64 nx, .slice ra l.length rc] := ⟨_, rfl⟩
      rw [← hw2]
      have G0 : Hid (Blk v_12 b0 [.int .i64 h.fl, .int .i64 h.gp, .int .i64 h.ln, .int .i64 h.rf, .int .i64 h.sp, .int .i64 h.pu, .int .i64 h.br, .int .i64 h.dr, .int .i64 h.lv, .int .i64 h.dO, .int .i64 h.ld, .int .i64 h.qu]) := by rw [hw2]; exact Blk.putB_other (by omega) _ 0 G0.out
      have G1 : Hid (Blk v_12 b1 [.int .i64 nx, .slice ra l.length rc]) := by rw [hw2]; exact G1.out.put [.int .i64 nx, .slice ra l.length rc] rfl
      have F0 : Hid (Blk v_12 b2 [.int .i64 h.fl, .int .i64 h.gp, .int .i64 h.ln, .int .i64 h.rf, .int .i64 h.sp, .int .i64 h.pu, .int .i64 h.br, .int .i64 h.dr, .int .i64 h.lv, .int .i64 h.dO, .int .i64 h.ld, .int .i64 h.qu]) := by rw [hw2]; exact Blk.putB_other (by omega) _ 0 F0.out
      have F1 : Hid (Blk v_12 b3 [.int .i64 nx, .slice ra l.length rc]) := by rw [hw2]; exact Blk.putB_other (by omega) _ 0 F1.out
      have FO : Hid (OwT v_12 (w.heap.size + 2) b2 (.slice ra l.length rc) l) := by rw [hw2]; exact OwT.putBO (by omega) _ 0 FO.out
      have FS : Hid (SrcT v_12 sb w.heap.size a len cap (((0 + 40 + 10) + 1) + 1)) := by rw [hw2]; exact SrcT.putBG (by omega) (by omega) _ 0 FS.out
      have FK : Hid (Keeps sb w v_12) := by rw [hw2]; exact Keeps.putBG (by omega) _ 0 FK.out
      clear hw2
      refine hK.out _ _ (by (try dsimp only); first | exact ⟨F0.out, F1.out⟩ | go_keep) (fun hHeld => ?_)
      clear hK K
      try simp only [Act.put, List.getElem_toArray, List.getElem_cons_succ, List.getElem_cons_zero, List.setIfInBounds_toArray, List.set_cons_zero, List.set_cons_succ]
      refine tkz 12 rfl ?_
      refine tkz 13 rfl ?_
      refine tkz 14 rfl ?_
      refine tkz 15 rfl ?_
      refine wpAnyH_done (by kernel_rfl) ?_ _
      have FB : Below w.heap.size w v_12 := FK.out.below (by omega) (Nat.le_refl _)
      have d0 := G0.out.c 0 _ rfl
      have d1 := G0.out.c 1 _ rfl
      have d2 := G0.out.c 2 _ rfl
      have d3 := G0.out.c 3 _ rfl
      have d4 := G0.out.c 4 _ rfl
      have d5 := G0.out.c 5 _ rfl
      have d6 := G0.out.c 6 _ rfl
      have d7 := G0.out.c 7 _ rfl
      have d8 := G0.out.c 8 _ rfl
      have d9 := G0.out.c 9 _ rfl
      have d10 := G0.out.c 10 _ rfl
      have d11 := G0.out.c 11 _ rfl
      have k0 := G1.out.c 0 _ rfl
      have k1 := G1.out.c 1 _ rfl
      go_wp2_with fail
      exact bodyPost_ret (v := .tuple #[.agg #[.int .i64 h.fl, .int .i64 h.gp, .int .i64 h.ln, .int .i64 h.rf, .int .i64 h.sp, .int .i64 h.pu, .int .i64 h.br, .int .i64 h.dr, .int .i64 h.lv, .int .i64 h.dO, .int .i64 h.ld, .int .i64 h.qu], .agg #[.int .i64 nx, .slice ra l.length rc], .int .i64 x, .int .i64 y, .int .i64 p, .int .i64 q]) (by simp [results, Try.results5, go_sem, d0, d1, d2, d3, d4, d5, d6, d7, d8, d9, d10, d11, k0, k1]) rfl ⟨h, nx, ra, rc, l, x, y, p, q, rfl, FO.out.o.base (by omega), hl60, FB⟩
  · go_simp
    obtain ⟨lb8, hbb⟩ : ∃ lb8, lb8 = v_1.heap.size := ⟨_, rfl⟩
    obtain ⟨v_13, hw2⟩ : ∃ v_13, v_13 = v_1.alloc (.cells #[.int .i64 0, .int .i64 1, .int .i64 0, .int .i64 1, .int .i64 0, .int .i64 1, .int .i64 (-1), .int .i64 2] 2) := ⟨_, rfl⟩
    have nlb8_0 := G0.out.lt
    rw [← hbb] at nlb8_0
    have nlb8_1 := G1.out.lt
    rw [← hbb] at nlb8_1
    have nlb8_2 := F0.out.lt
    rw [← hbb] at nlb8_2
    have nlb8_3 := F1.out.lt
    rw [← hbb] at nlb8_3
    have nlb8_s := FS.out.lt
    rw [← hbb] at nlb8_s
    have FL8 : Hid (LstAt v_13 lb8 [0, 1, 0, 1, 0, 1, (-1), 2]) := by rw [hw2]; exact LstAt.new v_1 [0, 1, 0, 1, 0, 1, (-1), 2] 2 lb8 hbb (by simp)
    have G0 : Hid (Blk v_13 b0 [.int .i64 0, .int .i64 0, .int .i64 0, .int .i64 0, .int .i64 0, .int .i64 0, .int .i64 0, .int .i64 0, .int .i64 0, .int .i64 0, .int .i64 0, .int .i64 0]) := by rw [hw2]; exact G0.out.alloc _
    have G1 : Hid (Blk v_13 b1 [.int .i64 0, .slice none 0 0]) := by rw [hw2]; exact G1.out.alloc _
    have F0 : Hid (Blk v_13 b2 [.int .i64 h.fl, .int .i64 h.gp, .int .i64 h.ln, .int .i64 h.rf, .int .i64 h.sp, .int .i64 h.pu, .int .i64 h.br, .int .i64 h.dr, .int .i64 h.lv, .int .i64 h.dO, .int .i64 h.ld, .int .i64 h.qu]) := by rw [hw2]; exact F0.out.alloc _
    have F1 : Hid (Blk v_13 b3 [.int .i64 nx, .slice ra l.length rc]) := by rw [hw2]; exact F1.out.alloc _
    have FO : Hid (OwT v_13 (w.heap.size + 2) b2 (.slice ra l.length rc) l) := by rw [hw2]; exact FO.out.alloc _
    have FS : Hid (SrcT v_13 sb w.heap.size a len cap (0 + 40 + 10)) := by rw [hw2]; exact FS.out.alloc _
    have FK : Hid (Keeps sb w v_13) := by rw [hw2]; exact FK.out.alloc _
    rw [← hw2, ← hbb]
    clear hbb hw2
    refine hK.out _ _ (by (try dsimp only); first | exact ⟨F0.out, F1.out⟩ | go_keep) (fun hHeld => ?_)
    clear hK K
    try simp only [Act.put, List.getElem_toArray, List.getElem_cons_succ, List.getElem_cons_zero, List.setIfInBounds_toArray, List.set_cons_zero, List.set_cons_succ]
    refine wpAnyH_ready (rs := [5]) (by kernel_rfl) (by simp) ?_
    refine (AllReadyH.cons rfl (fun K hK => ?_) AllReadyH.nil)
    go_simp
    obtain ⟨lb5, hbb⟩ : ∃ lb5, lb5 = v_13.heap.size := ⟨_, rfl⟩
    obtain ⟨v_14, hw2⟩ : ∃ v_14, v_14 = v_13.alloc (.cells #[.int .i64 0, .int .i64 1, .int .i64 2, .int .i64 0, .int .i64 1, .int .i64 (-1), .int .i64 3] 2) := ⟨_, rfl⟩
    have nlb5_0 := G0.out.lt
    rw [← hbb] at nlb5_0
    have nlb5_1 := G1.out.lt
    rw [← hbb] at nlb5_1
    have nlb5_2 := F0.out.lt
    rw [← hbb] at nlb5_2
    have nlb5_3 := F1.out.lt
    rw [← hbb] at nlb5_3
    have nlb5_s := FS.out.lt
    rw [← hbb] at nlb5_s
    have nlb5_7 := FL8.out.lt
    rw [← hbb] at nlb5_7
    have FL5 : Hid (LstAt v_14 lb5 [0, 1, 2, 0, 1, (-1), 3]) := by rw [hw2]; exact LstAt.new v_13 [0, 1, 2, 0, 1, (-1), 3] 2 lb5 hbb (by simp)
    have G0 : Hid (Blk v_14 b0 [.int .i64 0, .int .i64 0, .int .i64 0, .int .i64 0, .int .i64 0, .int .i64 0, .int .i64 0, .int .i64 0, .int .i64 0, .int .i64 0, .int .i64 0, .int .i64 0]) := by rw [hw2]; exact G0.out.alloc _
    have G1 : Hid (Blk v_14 b1 [.int .i64 0, .slice none 0 0]) := by rw [hw2]; exact G1.out.alloc _
    have F0 : Hid (Blk v_14 b2 [.int .i64 h.fl, .int .i64 h.gp, .int .i64 h.ln, .int .i64 h.rf, .int .i64 h.sp, .int .i64 h.pu, .int .i64 h.br, .int .i64 h.dr, .int .i64 h.lv, .int .i64 h.dO, .int .i64 h.ld, .int .i64 h.qu]) := by rw [hw2]; exact F0.out.alloc _
    have F1 : Hid (Blk v_14 b3 [.int .i64 nx, .slice ra l.length rc]) := by rw [hw2]; exact F1.out.alloc _
    have FO : Hid (OwT v_14 (w.heap.size + 2) b2 (.slice ra l.length rc) l) := by rw [hw2]; exact FO.out.alloc _
    have FS : Hid (SrcT v_14 sb w.heap.size a len cap (0 + 40 + 10)) := by rw [hw2]; exact FS.out.alloc _
    have FK : Hid (Keeps sb w v_14) := by rw [hw2]; exact FK.out.alloc _
    have FL8 : Hid (LstAt v_14 lb8 [0, 1, 0, 1, 0, 1, (-1), 2]) := by rw [hw2]; exact FL8.out.alloc _
    rw [← hw2, ← hbb]
    clear hbb hw2
    refine hK.out _ _ (by (try dsimp only); first | exact ⟨F0.out, F1.out⟩ | go_keep) (fun hHeld => ?_)
    clear hK K
    try simp only [Act.put, List.getElem_toArray, List.getElem_cons_succ, List.getElem_cons_zero, List.setIfInBounds_toArray, List.set_cons_zero, List.set_cons_succ]
    refine wpAnyH_ready (rs := [6]) (by kernel_rfl) (by simp) ?_
    refine (AllReadyH.cons rfl (fun K hK => ?_) AllReadyH.nil)
    go_simp
    refine (l1Pick_t sb _ lb5 [0, 1, 2, 0, 1, (-1), 3] (fun _ => True) (fun _ _ => trivial) a len cap _ _ FS.out (by omega) FL5.out (by simp) (by omega)).mono ?_
    rintro e v_15 ⟨p, rfl, -, hs, hk⟩
    have G0 : Hid (Blk v_15 b0 [.int .i64 0, .int .i64 0, .int .i64 0, .int .i64 0, .int .i64 0, .int .i64 0, .int .i64 0, .int .i64 0, .int .i64 0, .int .i64 0, .int .i64 0, .int .i64 0]) := G0.out.keeps hk (by omega)
    have G1 : Hid (Blk v_15 b1 [.int .i64 0, .slice none 0 0]) := G1.out.keeps hk (by omega)
    have F0 : Hid (Blk v_15 b2 [.int .i64 h.fl, .int .i64 h.gp, .int .i64 h.ln, .int .i64 h.rf, .int .i64 h.sp, .int .i64 h.pu, .int .i64 h.br, .int .i64 h.dr, .int .i64 h.lv, .int .i64 h.dO, .int .i64 h.ld, .int .i64 h.qu]) := F0.out.keeps hk (by omega)
    have F1 : Hid (Blk v_15 b3 [.int .i64 nx, .slice ra l.length rc]) := F1.out.keeps hk (by omega)
    have FO : Hid (OwT v_15 (w.heap.size + 2) b2 (.slice ra l.length rc) l) := FO.out.keeps hk (by omega)
    have FS : Hid (SrcT v_15 sb w.heap.size a len cap ((0 + 40 + 10) + 1)) := hs
    have FK : Hid (Keeps sb w v_15) := FK.out.trans hk
    have FL8 : Hid (LstAt v_15 lb8 [0, 1, 0, 1, 0, 1, (-1), 2]) := FL8.out.keeps hk (by omega)
    have FL5 : Hid (LstAt v_15 lb5 [0, 1, 2, 0, 1, (-1), 3]) := FL5.out.keeps hk (by omega)
    clear hs hk
    try dsimp only
    refine hK.out _ _ (by (try dsimp only); first | exact ⟨F0.out, F1.out⟩ | go_keep) (fun hHeld => ?_)
    clear hK K
    try simp only [Act.put, List.getElem_toArray, List.getElem_cons_succ, List.getElem_cons_zero, List.setIfInBounds_toArray, List.set_cons_zero, List.set_cons_succ]
    refine wpAnyH_ready (rs := [9]) (by kernel_rfl) (by simp) ?_
    refine (AllReadyH.cons rfl (fun K hK => ?_) AllReadyH.nil)
    go_simp
    refine (l1Pick_t sb _ lb8 [0, 1, 0, 1, 0, 1, (-1), 2] (fun _ => True) (fun _ _ => trivial) a len cap _ _ FS.out (by omega) FL8.out (by simp) (by omega)).mono ?_
    rintro e v_16 ⟨q, rfl, -, hs, hk⟩
    have G0 : Hid (Blk v_16 b0 [.int .i64 0, .int .i64 0, .int .i64 0, .int .i64 0, .int .i64 0, .int .i64 0, .int .i64 0, .int .i64 0, .int .i64 0, .int .i64 0, .int .i64 0, .int .i64 0]) := G0.out.keeps hk (by omega)
    have G1 : Hid (Blk v_16 b1 [.int .i64 0, .slice none 0 0]) := G1.out.keeps hk (by omega)
    have F0 : Hid (Blk v_16 b2 [.int .i64 h.fl, .int .i64 h.gp, .int .i64 h.ln, .int .i64 h.rf, .int .i64 h.sp, .int .i64 h.pu, .int .i64 h.br, .int .i64 h.dr, .int .i64 h.lv, .int .i64 h.dO, .int .i64 h.ld, .int .i64 h.qu]) := F0.out.keeps hk (by omega)
    have F1 : Hid (Blk v_16 b3 [.int .i64 nx, .slice ra l.length rc]) := F1.out.keeps hk (by omega)
    have FO : Hid (OwT v_16 (w.heap.size + 2) b2 (.slice ra l.length rc) l) := FO.out.keeps hk (by omega)
    have FS : Hid (SrcT v_16 sb w.heap.size a len cap (((0 + 40 + 10) + 1) + 1)) := hs
    have FK : Hid (Keeps sb w v_16) := FK.out.trans hk
    have FL8 : Hid (LstAt v_16 lb8 [0, 1, 0, 1, 0, 1, (-1), 2]) := FL8.out.keeps hk (by omega)
    have FL5 : Hid (LstAt v_16 lb5 [0, 1, 2, 0, 1, (-1), 3]) := FL5.out.keeps hk (by omega)
    clear hs hk
    try dsimp only
    refine hK.out _ _ (by (try dsimp only); first | exact ⟨F0.out, F1.out⟩ | go_keep) (fun hHeld => ?_)
    clear hK K
    try simp only [Act.put, List.getElem_toArray, List.getElem_cons_succ, List.getElem_cons_zero, List.setIfInBounds_toArray, List.set_cons_zero, List.set_cons_succ]
    refine wpAnyH_ready (rs := [10]) (by kernel_rfl) (by simp) ?_
    refine (AllReadyH.cons rfl (fun K hK => ?_) AllReadyH.nil)
    refine step_ofEG rfl ?_
    refine wp_store_wholeG [.int .i64 h.fl, .int .i64 h.gp, .int .i64 h.ln, .int .i64 h.rf, .int .i64 h.sp, .int .i64 h.pu, .int .i64 h.br, .int .i64 h.dr, .int .i64 h.lv, .int .i64 h.dO, .int .i64 h.ld, .int .i64 h.qu] 25 _ _ (by kernel_rfl) (by kernel_rfl) G0.out rfl rfl rfl rfl ?_
    obtain ⟨v_17, hw2⟩ : ∃ q, q = putB v_16 b0 0 [.int .i64 h.fl, .int .i64 h.gp, .int .i64 h.ln, .int .i64 h.rf, .int .i64 h.sp, .int .i64 h.pu, .int .i64 h.br, .int .i64 h.dr, .int .i64 h.lv, .int .i64 h.dO, .int .i64 h.ld, .int .i64 h.qu] := ⟨_, rfl⟩
    rw [← hw2]
    have G0 : Hid (Blk v_17 b0 [.int .i64 h.fl, .int .i64 h.gp, .int .i64 h.ln, .int .i64 h.rf, .int .i64 h.sp, .int .i64 h.pu, .int .i64 h.br, .int .i64 h.dr, .int .i64 h.lv, .int .i64 h.dO, .int .i64 h.ld, .int .i64 h.qu]) := by rw [hw2]; exact G0.out.put [.int .i64 h.fl, .int .i64 h.gp, .int .i64 h.ln, .int .i64 h.rf, .int .i64 h.sp, .int .i64 h.pu, .int .i64 h.br, .int .i64 h.dr, .int .i64 h.lv, .int .i64 h.dO, .int .i64 h.ld, .int .i64 h.qu] rfl
    have G1 : Hid (Blk v_17 b1 [.int .i64 0, .slice none 0 0]) := by rw [hw2]; exact Blk.putB_other (by omega) _ 0 G1.out
    have F0 : Hid (Blk v_17 b2 [.int .i64 h.fl, .int .i64 h.gp, .int .i64 h.ln, .int .i64 h.rf, .int .i64 h.sp, .int .i64 h.pu, .int .i64 h.br, .int .i64 h.dr, .int .i64 h.lv, .int .i64 h.dO, .int .i64 h.ld, .int .i64 h.qu]) := by rw [hw2]; exact Blk.putB_other (by omega) _ 0 F0.out
    have F1 : Hid (Blk v_17 b3 [.int .i64 nx, .slice ra l.length rc]) := by rw [hw2]; exact Blk.putB_other (by omega) _ 0 F1.out
    have FO : Hid (OwT v_17 (w.heap.size + 2) b2 (.slice ra l.length rc) l) := by rw [hw2]; exact OwT.putBO (by omega) _ 0 FO.out
    have FS : Hid (SrcT v_17 sb w.heap.size a len cap (((0 + 40 + 10) + 1) + 1)) := by rw [hw2]; exact SrcT.putBG (by omega) (by omega) _ 0 FS.out
    have FK : Hid (Keeps sb w v_17) := by rw [hw2]; exact Keeps.putBG (by omega) _ 0 FK.out
    clear hw2
    refine hK.out _ _ (by (try dsimp only); first | exact ⟨F0.out, F1.out⟩ | go_keep) (fun hHeld => ?_)
    clear hK K
    try simp only [Act.put, List.getElem_toArray, List.getElem_cons_succ, List.getElem_cons_zero, List.setIfInBounds_toArray, List.set_cons_zero, List.set_cons_succ]
    refine wpAnyH_ready (rs := [11]) (by kernel_rfl) (by simp) ?_
    refine (AllReadyH.cons rfl (fun K hK => ?_) AllReadyH.nil)
    refine step_ofEG rfl ?_
    refine wp_store_wholeG [.int .i64 nx, .slice ra l.length rc] 28 _ _ (by kernel_rfl) (by kernel_rfl) G1.out rfl rfl rfl rfl ?_
    obtain ⟨v_18, hw2⟩ : ∃ q, q = putB v_17 b1 0 [.int .i64 nx, .slice ra l.length rc] := ⟨_, rfl⟩
    rw [← hw2]
    have G0 : Hid (Blk v_18 b0 [.int .i64 h.fl, .int .i64 h.gp, .int .i64 h.ln, .int .i64 h.rf, .int .i64 h.sp, .int .i64 h.pu, .int .i64 h.br, .int .i64 h.dr, .int .i64 h.lv, .int .i64 h.dO, .int .i64 h.ld, .int .i64 h.qu]) := by rw [hw2]; exact Blk.putB_other (by omega) _ 0 G0.out
    have G1 : Hid (Blk v_18 b1 [.int .i64 nx, .slice ra l.length rc]) := by rw [hw2]; exact G1.out.put [.int .i64 nx, .slice ra l.length rc] rfl
    have F0 : Hid (Blk v_18 b2 [.int .i64 h.fl, .int .i64 h.gp, .int .i64 h.ln, .int .i64 h.rf, .int .i64 h.sp, .int .i64 h.pu, .int .i64 h.br, .int .i64 h.dr, .int .i64 h.lv, .int .i64 h.dO, .int .i64 h.ld, .int .i64 h.qu]) := by rw [hw2]; exact Blk.putB_other (by omega) _ 0 F0.out
    have F1 : Hid (Blk v_18 b3 [.int .i64 nx, .slice ra l.length rc]) := by rw [hw2]; exact Blk.putB_other (by omega) _ 0 F1.out
    have FO : Hid (OwT v_18 (w.heap.size + 2) b2 (.slice ra l.length rc) l) := by rw [hw2]; exact OwT.putBO (by omega) _ 0 FO.out
    have FS : Hid (SrcT v_18 sb w.heap.size a len cap (((0 + 40 + 10) + 1) + 1)) := by rw [hw2]; exact SrcT.putBG (by omega) (by omega) _ 0 FS.out
    have FK : Hid (Keeps sb w v_18) := by rw [hw2]; exact Keeps.putBG (by omega) _ 0 FK.out
    clear hw2
    refine hK.out _ _ (by (try dsimp only); first | exact ⟨F0.out, F1.out⟩ | go_keep) (fun hHeld => ?_)
    clear hK K
    try simp only [Act.put, List.getElem_toArray, List.getElem_cons_succ, List.getElem_cons_zero, List.setIfInBounds_toArray, List.set_cons_zero, List.set_cons_succ]
    refine tkz 12 rfl ?_
    refine tkz 13 rfl ?_
    refine tkz 14 rfl ?_
    refine tkz 15 rfl ?_
    refine wpAnyH_done (by kernel_rfl) ?_ _
    have FB : Below w.heap.size w v_18 := FK.out.below (by omega) (Nat.le_refl _)
    have d0 := G0.out.c 0 _ rfl
    have d1 := G0.out.c 1 _ rfl
    have d2 := G0.out.c 2 _ rfl
    have d3 := G0.out.c 3 _ rfl
    have d4 := G0.out.c 4 _ rfl
    have d5 := G0.out.c 5 _ rfl
    have d6 := G0.out.c 6 _ rfl
    have d7 := G0.out.c 7 _ rfl
    have d8 := G0.out.c 8 _ rfl
    have d9 := G0.out.c 9 _ rfl
    have d10 := G0.out.c 10 _ rfl
    have d11 := G0.out.c 11 _ rfl
    have k0 := G1.out.c 0 _ rfl
    have k1 := G1.out.c 1 _ rfl
    go_wp2_with fail
    exact bodyPost_ret (v := .tuple #[.agg #[.int .i64 h.fl, .int .i64 h.gp, .int .i64 h.ln, .int .i64 h.rf, .int .i64 h.sp, .int .i64 h.pu, .int .i64 h.br, .int .i64 h.dr, .int .i64 h.lv, .int .i64 h.dO, .int .i64 h.ld, .int .i64 h.qu], .agg #[.int .i64 nx, .slice ra l.length rc], .int .i64 x, .int .i64 y, .int .i64 p, .int .i64 q]) (by simp [results, Try.results5, go_sem, d0, d1, d2, d3, d4, d5, d6, d7, d8, d9, d10, d11, k0, k1]) rfl ⟨h, nx, ra, rc, l, x, y, p, q, rfl, FO.out.o.base (by omega), hl60, FB⟩
end Go.Proofs.Ytcjfaimhggckmaa

namespace Go.Proofs.Ytcjfaimhggckmaa
open Go.RowKit Pl

theorem lwBig_no (a : Option Addr) (len cap : Nat) (h : len ≤ 1048576) (w : World) :
    Calls Try.prog 4 #[.slice a len cap] w fun e w' => e = .returned (.bool false) ∧ w' = w := by
  have hd : decide ((1048576 : Int) < (len : Int)) = false := decide_eq_false (by omega)
  go_enter Try.func4, Try.ntmps4
  go_wp2
  go_ret
  exact ⟨rfl, rfl⟩
theorem lwBig_yes (a : Option Addr) (len cap : Nat) (h : 1048576 < len) (hm : len ≤ maxLen) (w : World) :
    Calls Try.prog 4 #[.slice a len cap] w fun e w' => e = .returned (.bool true) ∧ w' = w := by
  unfold maxLen at hm
  have hd : decide ((1048576 : Int) < (len : Int)) = true := decide_eq_true (by omega)
  go_enter Try.func4, Try.ntmps4
  go_wp2
  go_ret
  exact ⟨rfl, rfl⟩

/-- What the shell of a law tells of a slice of bytes that came in. -/
def codeRow (w : World) (a : Option Addr) (len cap : Nat) (zs : List Int) : Prop :=
  (a = none ∧ len = 0 ∧ cap = 0 ∧ zs = []) ∨
  ∃ x, a = some x ∧ len ≤ cap ∧ cap ≤ maxLen ∧ zs.length = cap ∧ (∀ i, i < zs.length → w.cell? (x.add i) = some (.int .u8 (zs.getD i 0))) ∧ ∀ n ∈ zs, (Lit.int .u8 n).wf = true
/-- The bytes lie in a block that was there. -/
def CodeLt (w : World) (a : Option Addr) (len : Nat) : Prop := ∀ b off, a = some ⟨b, off, none⟩ → len ≠ 0 → b < w.heap.size
theorem codeLt_of {w : World} {a : Option Addr} {len cap : Nat} {zs : List Int} (h : codeRow w a len cap zs) : CodeLt w a len := by
  intro b off ha hl
  rcases h with ⟨h1, _⟩ | ⟨x, h1, h2, h3, h4, h5, _⟩
  · rw [h1] at ha; cases ha
  · rw [h1] at ha
    obtain rfl : x = ⟨b, off, none⟩ := by simpa using ha
    have hc0 := h5 0 (by omega)
    have := World.block_lt_of_cell? w _ hc0
    simpa [Addr.add] using this
theorem row_le {w : World} {a : Option Addr} {len cap : Nat} {zs : List Int} (h : codeRow w a len cap zs) : len ≤ maxLen := by
  rcases h with ⟨_, rfl, _, _⟩ | ⟨x, _, h1, h2, _⟩
  · exact Nat.zero_le _
  · omega
theorem codeIn_of {w : World} {a : Option Addr} {len cap : Nat} {zs : List Int} (h : codeRow w a len cap zs) (hl : len ≤ 1048576) (sb : Nat) (hsb : w.heap.size ≤ sb) : CodeIn w sb a len := by
  refine ⟨by omega, ?_⟩
  rcases h with ⟨_, rfl, _, _⟩ | ⟨x, rfl, h1, h2, h3, h4, h5⟩
  · exact Or.inl rfl
  · by_cases h0 : len = 0
    · exact Or.inl h0
    · obtain ⟨b, off, spot⟩ := x
      have hc0 := h4 0 (by omega)
      have hspot : spot = none := by simpa [Addr.add] using World.cell?_spot hc0
      subst hspot
      refine Or.inr ⟨b, off, rfl, ?_, fun i hi => ?_⟩
      · have := World.block_lt_of_cell? w _ hc0
        simp [Addr.add] at this
        omega
      · have hci := h4 i (by omega)
        have hw := getD_all (P := fun n => (Lit.int .u8 n).wf = true) h5 (i := i) (by omega)
        have e : Addr.add ⟨b, off, none⟩ i = ⟨b, off + i, none⟩ := by unfold Addr.add; split <;> simp_all
        rw [e] at hci
        exact ⟨_, hci, (bounds_u8 hw).1, (bounds_u8 hw).2⟩
/-- The bytes can be read as before where nothing that was there has turned. -/
theorem codeIn_below {w W W' : World} {a : Option Addr} {len : Nat} (h : ∀ sb, w.heap.size ≤ sb → CodeIn W sb a len) (hlt : CodeLt w a len) (hb : Below w.heap.size W W') : ∀ sb, w.heap.size ≤ sb → CodeIn W' sb a len := by
  intro sb hsb
  obtain ⟨h1, h2⟩ := h sb hsb
  refine ⟨h1, ?_⟩
  rcases h2 with h2 | ⟨b, off, h3, h4, h5⟩
  · exact Or.inl h2
  · by_cases h0 : len = 0
    · exact Or.inl h0
    · have hblt := hlt b off h3 h0
      refine Or.inr ⟨b, off, h3, h4, fun i hi => ?_⟩
      obtain ⟨z, hz, z1, z2⟩ := h5 i hi
      exact ⟨z, (hb.cell (p := ⟨b, off + i, none⟩) hblt).trans hz, z1, z2⟩
theorem codeIn_drawn {B : Nat} {W W' : World} {a : Option Addr} {len k : Nat} (h : ∀ sb, B ≤ sb → CodeIn W sb a len) (e : W' = W.drewN k) : ∀ sb, B ≤ sb → CodeIn W' sb a len := by
  rw [e]; exact h
theorem below_drawn {B : Nat} {w W W' : World} {k : Nat} (h : Below B w W) (e : W' = W.drewN k) : Below B w W' := by
  rw [e]; exact ⟨h.os, h.tape, h.output, h.size, h.block⟩
end Go.Proofs.Ytcjfaimhggckmaa

namespace Go.Proofs.Ytcjfaimhggckmaa
open Go.RowKit Pl
set_option linter.unusedSimpArgs false
set_option linter.unusedVariables false

theorem Blk.mid {w : World} {b : Nat} {vs : List Value} (hB : Blk w b vs) (o : Nat) (cs : List Value) (h : (vs.drop o).take cs.length = cs) : w.rangeAt b o cs := by
  intro j v hv
  have e : (vs.drop o)[j]? = some v := by
    rw [← h] at hv
    rw [List.getElem?_take] at hv
    split at hv
    · exact hv
    · cases hv
  rw [List.getElem?_drop] at e
  exact hB.c (o + j) v e
theorem load_mid {ops : Array Oper} {rest : List Oper} {op : Oper} {a : Act} {w : World} {Q : Exit → Act → World → Prop} {b : Nat} {vs : List Value} (T : TypeId) (x : Operand) (o : Nat) (cs : List Value) {fs : Array Field} (hu : Try.prog.underlying T = some (.struct fs)) (hi : (Try.prog.info? T).map (·.size) = some cs.length) (hB : Blk w b vs) (hc : (vs.drop o).take cs.length = cs)
    (hgd : op.guard = none) (ho : op.op = .load T x) (hx : a.eval x = .pointer (some ⟨b, o, none⟩)) (h : wpList Try.prog ops Q rest (a.put op.dst (.agg cs.toArray)) w) : wpList Try.prog ops Q (op :: rest) a w :=
  wpList_load_mid hgd T x ho b o hx cs (.struct fs) (hB.mid o cs hc) hu rfl hi h
theorem exec_load_mid {op : Oper} {a : Act} {w : World} {b : Nat} {vs : List Value} (T : TypeId) (x : Operand) (o : Nat) (cs : List Value) {fs : Array Field} (hu : Try.prog.underlying T = some (.struct fs)) (hi : (Try.prog.info? T).map (·.size) = some cs.length) (hc : (vs.drop o).take cs.length = cs)
    (ho : op.op = .load T x) (hx : a.eval x = .pointer (some ⟨b, o, none⟩)) (hB : Blk w b vs) : (execOp a.eval op).run Try.prog w = .ok (.value (.agg cs.toArray)) w := by
  unfold execOp
  simp only [ho, hx, Instr.loadAt, Instr.sureAddr, Sem.run_bind, Sem.run_pure, Result.andThen_ok, run_loadVar_mid w b o T cs (.struct fs) (hB.mid o cs hc) hu rfl hi]
theorem Own.pinC {w : World} {B n cap : Nat} {a : Option Addr} {l : List Pe} (h : Own w B (.slice a n cap) l) : PIn w w.heap.size a l := by
  obtain ⟨a2, c2, e, hp⟩ := h.pin
  injection e with q1 q2 q3
  rw [q1]
  exact hp
structure C1c (w : World) (b : Nat) (x : Int) : Prop where
  c : w.cell? ⟨b, 0, none⟩ = some (.int .i64 x)
theorem C1c.lt {w : World} {b : Nat} {x : Int} (a : C1c w b x) : b < w.heap.size := World.block_lt_of_cell? w _ a.c
theorem C1c.below {W w : World} {b B : Nat} {x : Int} (a : C1c W b x) (hb : Below B W w) (hB : b < B) : C1c w b x := ⟨(hb.cell (p := ⟨b, 0, none⟩) hB).trans a.c⟩
theorem fieldC1 (k : Int) (a : Option Addr) (n c : Nat) (w : World) : (Instr.field 40 (.agg #[.int .i64 k, .slice a n c]) 1).run Try.prog w = .ok (.slice a n c) w := by kernel_rfl
theorem fieldL0 (k i n : Int) (v : Value) (w : World) : (Instr.field 32 (.agg #[.int .i64 k, .int .i64 i, .int .i64 n, v]) 0).run Try.prog w = .ok (.int .i64 k) w := by kernel_rfl
theorem count_first (h : Hs) (nx : Int) (l : List Pe) (a : Option Addr) (cap : Nat) (hl : l.length ≤ 60) (hk : Hs.led h ⟨nx, l⟩ = 0) (c : Int) (hc : (cnt 0 (-1) 0 l : Int) = c) (w : World) (hP : PIn w w.heap.size a l) :
    Calls Try.prog 10 #[.agg #[.int .i64 h.fl, .int .i64 h.gp, .int .i64 h.ln, .int .i64 h.rf, .int .i64 h.sp, .int .i64 h.pu, .int .i64 h.br, .int .i64 h.dr, .int .i64 h.lv, .int .i64 h.dO, .int .i64 h.ld, .int .i64 h.qu], .agg #[.int .i64 nx, .slice a l.length cap]] w fun e w' => ∃ ga gc, e = .returned (.agg #[.int .i64 0, .slice (some ⟨ga, 0, none⟩) 5 gc]) ∧ w'.cell? ⟨ga, 0, none⟩ = some (.int .i64 c) ∧ Below w.heap.size w w' := by
  refine (implCountPeople_any h ⟨nx, l⟩ a cap (by show l.length ≤ _; omega) w hP).mono ?_
  have e : Hs.cntV h ⟨nx, l⟩ = cnts l := if_pos hk
  rw [hk, e]
  rintro e2 w' ⟨la, lc, rfl, ho, hb⟩
  rcases ho.cases with ⟨_, h0⟩ | ⟨g, cp, e3⟩
  · simp [cnts] at h0
  · injection e3 with e4 e5 e6
    subst e4
    exact ⟨g, lc, rfl, by rw [← hc]; exact ho.cell rfl, hb⟩
theorem drop_all (h : Hs) (nx : Int) (m : List Pe) (g cap B : Nat) (hl : m.length ≤ 60) (hk : Hs.led h ⟨nx, m⟩ = 0) (w : World) (ho : Own w B (.slice (some ⟨g, 0, none⟩) m.length cap) m) :
    Calls Try.prog 8 #[.agg #[.int .i64 h.fl, .int .i64 h.gp, .int .i64 h.ln, .int .i64 h.rf, .int .i64 h.sp, .int .i64 h.pu, .int .i64 h.br, .int .i64 h.dr, .int .i64 h.lv, .int .i64 h.dO, .int .i64 h.ld, .int .i64 h.qu], .agg #[.int .i64 nx, .slice (some ⟨g, 0, none⟩) m.length cap]] w fun e w' => ∃ a3 c3, e = .returned (.agg #[.int .i64 0, .int .i64 0, .int .i64 nx, .slice a3 (m.map dropP).length c3]) ∧ Own w' w.heap.size (.slice a3 (m.map dropP).length c3) (m.map dropP) ∧ Below w.heap.size w w' := by
  refine (implDropWaiting_any h ⟨nx, m⟩ g 0 cap (by show m.length ≤ _; omega) w ho.ow.bl.2 (fun i p hp => by rw [Nat.zero_add]; exact ho.ow.p7 hp)).mono ?_
  have e1 : Hs.dropV h ⟨nx, m⟩ = ⟨nx, m.map dropP⟩ := by unfold Hs.dropV; rw [if_pos hk]
  rw [hk, e1]
  rintro e w' ⟨v, rfl, ho2, hb⟩
  obtain ⟨a3, c3, rfl, -⟩ := ho2.pin
  exact ⟨a3, c3, rfl, ho2, hb⟩
theorem add_yes (h : Hs) (nx : Int) (l m : List Pe) (x y p q : Int) (ra : Option Addr) (rc : Nat) (hl : l.length ≤ 60) (e0 : Hs.addK h ⟨nx, l⟩ x y p q = 0) (e1 : Hs.addI h ⟨nx, l⟩ x y p q = nx) (e2 : Hs.addV h ⟨nx, l⟩ x y p q = ⟨nx + 1, m⟩) (w : World) (hP : PIn w w.heap.size ra l) :
    Calls Try.prog 6 #[.agg #[.int .i64 h.fl, .int .i64 h.gp, .int .i64 h.ln, .int .i64 h.rf, .int .i64 h.sp, .int .i64 h.pu, .int .i64 h.br, .int .i64 h.dr, .int .i64 h.lv, .int .i64 h.dO, .int .i64 h.ld, .int .i64 h.qu], .agg #[.int .i64 nx, .slice ra l.length rc], .int .i64 x, .int .i64 y, .int .i64 p, .int .i64 q] w fun e w' => ∃ a2 c2, e = .returned (.agg #[.int .i64 0, .int .i64 nx, .int .i64 (nx + 1), .slice a2 m.length c2]) ∧ Own w' w.heap.size (.slice a2 m.length c2) m ∧ Below w.heap.size w w' := by
  refine (implAddCall_pin h ⟨nx, l⟩ x y p q ra rc (by show l.length ≤ _; omega) w hP).mono ?_
  rw [e0, e1, e2]
  rintro e w' ⟨v, rfl, ho2, hb⟩
  obtain ⟨a3, c3, rfl, -⟩ := ho2.pin
  exact ⟨a3, c3, rfl, ho2, hb⟩
theorem add_no (h : Hs) (nx : Int) (l : List Pe) (x y p q k : Int) (ra : Option Addr) (rc : Nat) (hl : l.length ≤ 60) (e0 : Hs.addK h ⟨nx, l⟩ x y p q = k) (hk : ¬ k = 0) (w : World) (hP : PIn w w.heap.size ra l) :
    Calls Try.prog 6 #[.agg #[.int .i64 h.fl, .int .i64 h.gp, .int .i64 h.ln, .int .i64 h.rf, .int .i64 h.sp, .int .i64 h.pu, .int .i64 h.br, .int .i64 h.dr, .int .i64 h.lv, .int .i64 h.dO, .int .i64 h.ld, .int .i64 h.qu], .agg #[.int .i64 nx, .slice ra l.length rc], .int .i64 x, .int .i64 y, .int .i64 p, .int .i64 q] w fun e w' => ∃ a2 c2, e = .returned (.agg #[.int .i64 k, .int .i64 0, .int .i64 0, .slice a2 0 c2]) ∧ Below w.heap.size w w' := by
  refine (implAddCall_pin h ⟨nx, l⟩ x y p q ra rc (by show l.length ≤ _; omega) w hP).mono ?_
  have e1 : Hs.addI h ⟨nx, l⟩ x y p q = 0 := by unfold Hs.addI; rw [e0, if_neg hk]
  have e2 : Hs.addV h ⟨nx, l⟩ x y p q = ⟨0, []⟩ := by unfold Hs.addV; rw [e0, if_neg hk]
  rw [e0, e1, e2]
  rintro e w' ⟨v, rfl, ho2, hb⟩
  obtain ⟨a3, c3, rfl, -⟩ := ho2.pin
  exact ⟨a3, c3, rfl, hb⟩
theorem add_noS (h : Hs) (nx : Int) (l : List Pe) (x y p q k : Int) (ra : Option Addr) (rc : Nat) (hl : l.length ≤ 60) (e0 : Hs.addK h ⟨nx, l⟩ x y p q = k) (hk : ¬ k = 0) (w : World) (hP : CIn w ra rc l) :
    Calls Try.prog 7 #[.agg #[.int .i64 h.fl, .int .i64 h.gp, .int .i64 h.ln, .int .i64 h.rf, .int .i64 h.sp, .int .i64 h.pu, .int .i64 h.br, .int .i64 h.dr, .int .i64 h.lv, .int .i64 h.dO, .int .i64 h.ld, .int .i64 h.qu], .agg #[.int .i64 nx, .slice ra l.length rc], .int .i64 x, .int .i64 y, .int .i64 p, .int .i64 q] w fun e w' => ∃ a2 c2, e = .returned (.agg #[.int .i64 k, .int .i64 0, .int .i64 0, .slice a2 0 c2]) ∧ Below w.heap.size w w' := by
  refine (specAddCall_pin h ⟨nx, l⟩ x y p q ra rc (by show l.length ≤ _; omega) w hP).mono ?_
  have e1 : Hs.addI h ⟨nx, l⟩ x y p q = 0 := by unfold Hs.addI; rw [e0, if_neg hk]
  have e2 : Hs.addV h ⟨nx, l⟩ x y p q = ⟨0, []⟩ := by unfold Hs.addV; rw [e0, if_neg hk]
  rw [e0, e1, e2]
  rintro e w' ⟨v, rfl, ho2, hb⟩
  obtain ⟨a3, c3, rfl, -⟩ := ho2.pin
  exact ⟨a3, c3, rfl, hb⟩
set_option maxRecDepth 20000 in
set_option maxHeartbeats 32000000 in
theorem calls_walk (a0 : Option Addr) (len0 cap0 : Nat) (w : World) (hc : CodeIn w w.heap.size a0 len0) (hbig : len0 ≤ 1048576) :
    Calls Try.prog 3 #[.slice a0 len0 cap0] w fun e w' => e = .returned (.bool true) ∧ Below w.heap.size w w' := by
  have HC : Hid (CodeIn w w.heap.size a0 len0) := hc
  clear hc
  go_enter Try.func3, Try.ntmps3
  go_wp2_with (first | (go_at_call 4; refine (lwBig_no _ _ _ hbig _).mono ?_; rintro e w' ⟨rfl, hw⟩; obtain rfl := hw.symm; clear hw))
  refine (DrawAddCall_any a0 len0 cap0 _ HC.out).mono ?_
  rintro e w1 ⟨h, nx, ra, rc, l, x, y, p, q, rfl, ho, hl60, hb⟩
  clear HC hbig
  go_upto_region 4 with fail
  have hsz := hb.size
  obtain ⟨w2, hw2⟩ : ∃ w2, w2 = (w1.alloc (.cells #[.int .i64 h.fl, .int .i64 h.gp, .int .i64 h.ln, .int .i64 h.rf, .int .i64 h.sp, .int .i64 h.pu, .int .i64 h.br, .int .i64 h.dr, .int .i64 h.lv, .int .i64 h.dO, .int .i64 h.ld, .int .i64 h.qu] 25)).alloc (.cells #[.int .i64 nx, .slice ra l.length rc] 28) := ⟨_, rfl⟩
  obtain ⟨b1, hb1⟩ : ∃ b1, b1 = w1.heap.size := ⟨_, rfl⟩
  obtain ⟨b2, hb2⟩ : ∃ b2, b2 = w1.heap.size + 1 := ⟨_, rfl⟩
  have l12 : b1 < b2 := by omega
  have lw1 : w.heap.size ≤ b1 := by omega
  have F0 : Hid (Blk w2 b1 [.int .i64 h.fl, .int .i64 h.gp, .int .i64 h.ln, .int .i64 h.rf, .int .i64 h.sp, .int .i64 h.pu, .int .i64 h.br, .int .i64 h.dr, .int .i64 h.lv, .int .i64 h.dO, .int .i64 h.ld, .int .i64 h.qu]) := by rw [hw2]; exact (Blk.at_ w1 #[.int .i64 h.fl, .int .i64 h.gp, .int .i64 h.ln, .int .i64 h.rf, .int .i64 h.sp, .int .i64 h.pu, .int .i64 h.br, .int .i64 h.dr, .int .i64 h.lv, .int .i64 h.dO, .int .i64 h.ld, .int .i64 h.qu] _ _ hb1).alloc _
  have F1 : Hid (Blk w2 b2 [.int .i64 nx, .slice ra l.length rc]) := by rw [hw2]; exact Blk.at_ _ #[.int .i64 nx, .slice ra l.length rc] _ _ (by simp [hb2])
  have FO : Hid (Own w2 w.heap.size (.slice ra l.length rc) l) := by rw [hw2]; exact (ho.alloc _).alloc _
  have FB : Hid (Below w.heap.size w w2) := by rw [hw2]; exact (hb.alloc hb.size _).alloc (by simp; omega) _
  rw [← hw2, ← hb2, ← hb1]
  clear hw2 hb1 hb2 hb hsz ho
  by_cases hk : Hs.addK h ⟨nx, l⟩ x y p q = 0
  case neg =>
    obtain ⟨kz, hK⟩ : ∃ kz, Hs.addK h ⟨nx, l⟩ x y p q = kz := ⟨_, rfl⟩
    rw [hK] at hk
    have CI : ∀ W, PIn W W.heap.size ra l → Calls Try.prog 6 #[.agg #[.int .i64 h.fl, .int .i64 h.gp, .int .i64 h.ln, .int .i64 h.rf, .int .i64 h.sp, .int .i64 h.pu, .int .i64 h.br, .int .i64 h.dr, .int .i64 h.lv, .int .i64 h.dO, .int .i64 h.ld, .int .i64 h.qu], .agg #[.int .i64 nx, .slice ra l.length rc], .int .i64 x, .int .i64 y, .int .i64 p, .int .i64 q] W fun e w' => ∃ a2 c2, e = .returned (.agg #[.int .i64 kz, .int .i64 0, .int .i64 0, .slice a2 0 c2]) ∧ Below W.heap.size W w' := fun W hW => add_no h nx l x y p q kz ra rc hl60 hK hk W hW
    have CS : ∀ W, CIn W ra rc l → Calls Try.prog 7 #[.agg #[.int .i64 h.fl, .int .i64 h.gp, .int .i64 h.ln, .int .i64 h.rf, .int .i64 h.sp, .int .i64 h.pu, .int .i64 h.br, .int .i64 h.dr, .int .i64 h.lv, .int .i64 h.dO, .int .i64 h.ld, .int .i64 h.qu], .agg #[.int .i64 nx, .slice ra l.length rc], .int .i64 x, .int .i64 y, .int .i64 p, .int .i64 q] W fun e w' => ∃ a2 c2, e = .returned (.agg #[.int .i64 kz, .int .i64 0, .int .i64 0, .slice a2 0 c2]) ∧ Below W.heap.size W w' := fun W hW => add_noS h nx l x y p q kz ra rc hl60 hK hk W hW
    have hn : (kz != 0) = true := by simpa using hk
    have hee : (kz == kz) = true := by simp
    clear hk hK
    go_upto_region 5 with (first | (refine load_blk 25 _ Try.underlying25 (by kernel_rfl) F0.out rfl rfl rfl ?_) | (refine load_blk 28 _ Try.underlying28 (by kernel_rfl) F1.out rfl rfl rfl ?_) | (go_at_call 6; refine (CI _ FO.out.pinC).mono ?_; rintro e w3 ⟨a2, c2, rfl, hb⟩; have FO : Hid (Own w3 w.heap.size (.slice ra l.length rc) l) := FO.out.below hb (fun k hk => (FO.out.lt k hk).2); have F0 : Hid (Blk w3 b1 [.int .i64 h.fl, .int .i64 h.gp, .int .i64 h.ln, .int .i64 h.rf, .int .i64 h.sp, .int .i64 h.pu, .int .i64 h.br, .int .i64 h.dr, .int .i64 h.lv, .int .i64 h.dO, .int .i64 h.ld, .int .i64 h.qu]) := F0.out.below hb F0.out.lt; have F1 : Hid (Blk w3 b2 [.int .i64 nx, .slice ra l.length rc]) := F1.out.below hb F1.out.lt; have FB : Hid (Below w.heap.size w w3) := FB.out.trans (hb.mono FB.out.size); clear hb) | (refine store_new [.int .i64 kz, .int .i64 0, .int .i64 0, .slice a2 0 c2] 32 _ _ (by kernel_rfl) (by kernel_rfl) (by kernel_rfl) rfl rfl rfl rfl ?_))
    have FB0 := FB
    obtain ⟨b3, hbb⟩ : ∃ b3, b3 = w3.heap.size := ⟨_, rfl⟩
    obtain ⟨w4, hw2⟩ : ∃ w4, w4 = w3.alloc (.cells #[.int .i64 kz, .int .i64 0, .int .i64 0, .slice a2 0 c2] 32) := ⟨_, rfl⟩
    have nb3b1 : b1 < b3 := by rw [hbb]; exact F0.out.lt
    have nb3b2 : b2 < b3 := by rw [hbb]; exact F1.out.lt
    have F0 : Hid (Blk w4 b1 [.int .i64 h.fl, .int .i64 h.gp, .int .i64 h.ln, .int .i64 h.rf, .int .i64 h.sp, .int .i64 h.pu, .int .i64 h.br, .int .i64 h.dr, .int .i64 h.lv, .int .i64 h.dO, .int .i64 h.ld, .int .i64 h.qu]) := by rw [hw2]; exact F0.out.alloc _
    have F1 : Hid (Blk w4 b2 [.int .i64 nx, .slice ra l.length rc]) := by rw [hw2]; exact F1.out.alloc _
    have F3 : Hid (Blk w4 b3 [.int .i64 kz, .int .i64 0, .int .i64 0, .slice a2 0 c2]) := by rw [hw2]; exact Blk.at_ w3 #[.int .i64 kz, .int .i64 0, .int .i64 0, .slice a2 0 c2] _ _ hbb
    have FO : Hid (Own w4 w.heap.size (.slice ra l.length rc) l) := by rw [hw2]; exact FO.out.alloc _
    have FB : Hid (Below w.heap.size w w4) := by rw [hw2]; exact FB.out.alloc FB.out.size _
    have leb3 : w.heap.size ≤ b3 := by rw [hbb]; exact FB0.out.size
    (try simp only [Act.put])
    rw [← hw2, ← hbb]
    clear hbb hw2 FB0
    have z0 := F3.out.c 0 _ rfl
    have fi := fieldL0
    go_upto_region 6 with fail
    clear z0
    have F0 : Hid (Blk w4.drew b1 [.int .i64 h.fl, .int .i64 h.gp, .int .i64 h.ln, .int .i64 h.rf, .int .i64 h.sp, .int .i64 h.pu, .int .i64 h.br, .int .i64 h.dr, .int .i64 h.lv, .int .i64 h.dO, .int .i64 h.ld, .int .i64 h.qu]) := F0.out.below (Below.refl _ _).drew F0.out.lt
    have F1 : Hid (Blk w4.drew b2 [.int .i64 nx, .slice ra l.length rc]) := F1.out.below (Below.refl _ _).drew F1.out.lt
    have F3 : Hid (Blk w4.drew b3 [.int .i64 kz, .int .i64 0, .int .i64 0, .slice a2 0 c2]) := F3.out.below (Below.refl _ _).drew F3.out.lt
    have FB : Hid (Below w.heap.size w w4.drew) := FB.out.drew
    have FO : Hid (Own w4.drew w.heap.size (.slice ra l.length rc) l) := FO.out.drew
    refine wp_region_held_drew (S := (fun w'' => Blk w'' b1 ([.int .i64 h.fl, .int .i64 h.gp, .int .i64 h.ln, .int .i64 h.rf, .int .i64 h.sp, .int .i64 h.pu, .int .i64 h.br, .int .i64 h.dr, .int .i64 h.lv, .int .i64 h.dO, .int .i64 h.ld, .int .i64 h.qu]) ∧ Blk w'' b2 ([.int .i64 nx, .slice ra l.length rc]) ∧ Blk w'' b3 ([.int .i64 kz, .int .i64 0, .int .i64 0, .slice a2 0 c2]))) (by kernel_rfl) (by (try dsimp only); first | exact ⟨F0.out, F1.out, F3.out⟩ | go_keep) (fun hHeld => ?_)
    obtain ⟨v_1, hw1⟩ : ∃ v_1, v_1 = w4.drew := ⟨_, rfl⟩
    have F0 : Hid (Blk v_1 b1 [.int .i64 h.fl, .int .i64 h.gp, .int .i64 h.ln, .int .i64 h.rf, .int .i64 h.sp, .int .i64 h.pu, .int .i64 h.br, .int .i64 h.dr, .int .i64 h.lv, .int .i64 h.dO, .int .i64 h.ld, .int .i64 h.qu]) := by rw [hw1]; exact F0.out
    have F1 : Hid (Blk v_1 b2 [.int .i64 nx, .slice ra l.length rc]) := by rw [hw1]; exact F1.out
    have F3 : Hid (Blk v_1 b3 [.int .i64 kz, .int .i64 0, .int .i64 0, .slice a2 0 c2]) := by rw [hw1]; exact F3.out
    have FB : Hid (Below w.heap.size w v_1) := by rw [hw1]; exact FB.out
    have FO : Hid (Own v_1 w.heap.size (.slice ra l.length rc) l) := by rw [hw1]; exact FO.out
    rw [← hw1] at hHeld ⊢
    clear hw1
    refine tkz 0 rfl ?_ (hy := Or.inl ⟨by kernel_rfl, fun wx hSw => exec_load_blk 25 _ Try.underlying25 (by kernel_rfl) rfl rfl hSw.1⟩)
    refine tkz 1 rfl ?_ (hy := Or.inl ⟨by kernel_rfl, fun wx hSw => exec_load_blk 28 _ Try.underlying28 (by kernel_rfl) rfl rfl hSw.2.1⟩)
    refine tkz 2 rfl ?_
    refine tkz 3 rfl ?_
    refine tkz 4 rfl ?_
    refine tkz 5 rfl ?_
    refine tkz 8 rfl ?_
    refine tkz 9 rfl ?_ (hy := Or.inl ⟨by kernel_rfl, by (intro wx hSw; have hq2_0 := hSw.2.2.c 0 _ rfl; (try dsimp only at hSw); go_simp <;> with_reducible rfl)⟩)
    refine wpAnyH_ready (rs := [6]) (by kernel_rfl) (by simp) ?_
    refine (AllReadyH.cons rfl (fun K hK => ?_) AllReadyH.nil)
    go_simp
    refine (CS _ FO.out.cin).mono ?_
    rintro e v_2 ⟨a3, c3, rfl, hb⟩
    have F0 : Hid (Blk v_2 b1 [.int .i64 h.fl, .int .i64 h.gp, .int .i64 h.ln, .int .i64 h.rf, .int .i64 h.sp, .int .i64 h.pu, .int .i64 h.br, .int .i64 h.dr, .int .i64 h.lv, .int .i64 h.dO, .int .i64 h.ld, .int .i64 h.qu]) := F0.out.below hb F0.out.lt
    have F1 : Hid (Blk v_2 b2 [.int .i64 nx, .slice ra l.length rc]) := F1.out.below hb F1.out.lt
    have F3 : Hid (Blk v_2 b3 [.int .i64 kz, .int .i64 0, .int .i64 0, .slice a2 0 c2]) := F3.out.below hb F3.out.lt
    have FB : Hid (Below w.heap.size w v_2) := FB.out.trans (hb.mono FB.out.size)
    have FO : Hid (Own v_2 w.heap.size (.slice ra l.length rc) l) := FO.out.below hb (fun k hk => (FO.out.lt k hk).2)
    clear hb
    try dsimp only
    refine hK.out _ _ (by (try dsimp only); first | exact ⟨F0.out, F1.out, F3.out⟩ | go_keep) (fun hHeld => ?_)
    clear hK K
    try simp only [Act.put, List.getElem_toArray, List.getElem_cons_succ, List.getElem_cons_zero, List.setIfInBounds_toArray, List.set_cons_zero, List.set_cons_succ]
    refine tkz 7 rfl ?_
    refine tkz 10 rfl ?_
    refine tkz 11 rfl ?_
    refine wpAnyH_done (by kernel_rfl) ?_ _
    go_wp2
    go_ret
    exact ⟨by first | rfl | simp, FB.out⟩
  case pos =>
  obtain ⟨m, e1, e2, ⟨n0, hn0⟩, m60, k1, k2, k3, k4⟩ := calls_ok hk
  obtain ⟨j, hj⟩ : ∃ j, n0.length = j := ⟨_, rfl⟩
  have hml : m.length = j + 1 := by rw [hn0, List.length_append, hj]; rfl
  have HJ : Hid (m[j]? = some (⟨nx, x, y, p, q, 0, 0⟩ : Pe)) := by
    have q : (n0 ++ [(⟨nx, x, y, p, q, 0, 0⟩ : Pe)])[j]? = some (⟨nx, x, y, p, q, 0, 0⟩ : Pe) := by rw [← hj]; exact List.getElem?_concat_length
    rw [← hn0] at q
    exact q
  have CI : ∀ W, PIn W W.heap.size ra l → Calls Try.prog 6 #[.agg #[.int .i64 h.fl, .int .i64 h.gp, .int .i64 h.ln, .int .i64 h.rf, .int .i64 h.sp, .int .i64 h.pu, .int .i64 h.br, .int .i64 h.dr, .int .i64 h.lv, .int .i64 h.dO, .int .i64 h.ld, .int .i64 h.qu], .agg #[.int .i64 nx, .slice ra l.length rc], .int .i64 x, .int .i64 y, .int .i64 p, .int .i64 q] W fun e w' => ∃ a2 c2, e = .returned (.agg #[.int .i64 0, .int .i64 nx, .int .i64 (nx + 1), .slice a2 m.length c2]) ∧ Own w' W.heap.size (.slice a2 m.length c2) m ∧ Below W.heap.size W w' := fun W hW => add_yes h nx l m x y p q ra rc hl60 hk e1 e2 W hW
  clear hn0 hj hk e1 e2
  have hne : ¬ m = [] := by intro e; rw [e] at hml; simp at hml
  have HML : Hid (m.length = j + 1) := hml
  clear hml
  go_upto_region 5 with (first | (refine load_blk 25 _ Try.underlying25 (by kernel_rfl) F0.out rfl rfl rfl ?_) | (refine load_blk 28 _ Try.underlying28 (by kernel_rfl) F1.out rfl rfl rfl ?_) | (go_at_call 6; refine (CI _ FO.out.pinC).mono ?_; rintro e w3 ⟨a2, c2, rfl, ho, hb⟩; obtain ⟨g, gc, hv0, -⟩ := ho.cases.resolve_left (fun e => hne e.2); obtain ⟨hv1, hv2⟩ : a2 = some ⟨g, 0, none⟩ ∧ c2 = gc := (by injection hv0 with q1 q2 q3; exact ⟨q1, q3⟩); subst hv1; clear hv0 hv2; have FM : Hid (Own w3 w.heap.size (.slice (some ⟨g, 0, none⟩) m.length c2) m) := ho.base FB.out.size; have FO : Hid (Own w3 w.heap.size (.slice ra l.length rc) l) := FO.out.below hb (fun k hk => (FO.out.lt k hk).2); have F0 : Hid (Blk w3 b1 [.int .i64 h.fl, .int .i64 h.gp, .int .i64 h.ln, .int .i64 h.rf, .int .i64 h.sp, .int .i64 h.pu, .int .i64 h.br, .int .i64 h.dr, .int .i64 h.lv, .int .i64 h.dO, .int .i64 h.ld, .int .i64 h.qu]) := F0.out.below hb F0.out.lt; have F1 : Hid (Blk w3 b2 [.int .i64 nx, .slice ra l.length rc]) := F1.out.below hb F1.out.lt; have FB : Hid (Below w.heap.size w w3) := FB.out.trans (hb.mono FB.out.size); clear hb; clear ho) | (refine store_new [.int .i64 0, .int .i64 nx, .int .i64 (nx + 1), .slice (some ⟨g, 0, none⟩) m.length c2] 32 _ _ (by kernel_rfl) (by kernel_rfl) (by kernel_rfl) rfl rfl rfl rfl ?_))
  have FB0 := FB
  obtain ⟨b3, hbb⟩ : ∃ b3, b3 = w3.heap.size := ⟨_, rfl⟩
  obtain ⟨w4, hw2⟩ : ∃ w4, w4 = w3.alloc (.cells #[.int .i64 0, .int .i64 nx, .int .i64 (nx + 1), .slice (some ⟨g, 0, none⟩) m.length c2] 32) := ⟨_, rfl⟩
  have nb3b1 : b1 < b3 := by rw [hbb]; exact F0.out.lt
  have nb3b2 : b2 < b3 := by rw [hbb]; exact F1.out.lt
  have F0 : Hid (Blk w4 b1 [.int .i64 h.fl, .int .i64 h.gp, .int .i64 h.ln, .int .i64 h.rf, .int .i64 h.sp, .int .i64 h.pu, .int .i64 h.br, .int .i64 h.dr, .int .i64 h.lv, .int .i64 h.dO, .int .i64 h.ld, .int .i64 h.qu]) := by rw [hw2]; exact F0.out.alloc _
  have F1 : Hid (Blk w4 b2 [.int .i64 nx, .slice ra l.length rc]) := by rw [hw2]; exact F1.out.alloc _
  have F3 : Hid (Blk w4 b3 [.int .i64 0, .int .i64 nx, .int .i64 (nx + 1), .slice (some ⟨g, 0, none⟩) m.length c2]) := by rw [hw2]; exact Blk.at_ w3 #[.int .i64 0, .int .i64 nx, .int .i64 (nx + 1), .slice (some ⟨g, 0, none⟩) m.length c2] _ _ hbb
  have FO : Hid (Own w4 w.heap.size (.slice ra l.length rc) l) := by rw [hw2]; exact FO.out.alloc _
  have FM : Hid (Own w4 w.heap.size (.slice (some ⟨g, 0, none⟩) m.length c2) m) := by rw [hw2]; exact FM.out.alloc _
  have FB : Hid (Below w.heap.size w w4) := by rw [hw2]; exact FB.out.alloc FB.out.size _
  have leb3 : w.heap.size ≤ b3 := by rw [hbb]; exact FB0.out.size
  (try simp only [Act.put])
  rw [← hw2, ← hbb]
  clear hbb hw2 FB0
  have z0 := F3.out.c 0 _ rfl
  have z3 := F3.out.c 3 _ rfl
  have ew : IntKind.i64.wrap ((m.length : Int) - 1) = (j : Int) := by have hml := HML.out; rw [IntWalk.i64_in _ (by omega)]; omega
  have hj1 : j < m.length := by have hml := HML.out; omega
  have hj2 : (j : Int) < (m.length : Int) := by have hml := HML.out; omega
  have hm0 : ((m.length : Int) == 0) = false := by simpa using hne
  have d3 : 0 ≤ (j : Int) := by omega
  clear CI
  obtain ⟨c0, c1, c2_, c3_, c4, c5, c6⟩ := FM.out.ow.p7 HJ.out
  dsimp only at c0 c1 c2_ c3_ c4 c5 c6
  go_upto_region 11 with fail
  clear c0 c1 c2_ c3_ c4 c5 c6 z0 z3 ew hm0
  have FB0 := FB
  obtain ⟨b4, hbb⟩ : ∃ b4, b4 = w4.heap.size := ⟨_, rfl⟩
  obtain ⟨w5, hw2⟩ : ∃ w5, w5 = w4.alloc (.cells #[.int .i64 nx, .int .i64 x, .int .i64 y, .int .i64 p, .int .i64 q, .int .i64 0, .int .i64 0] 35) := ⟨_, rfl⟩
  have nb4b1 : b1 < b4 := by rw [hbb]; exact F0.out.lt
  have nb4b2 : b2 < b4 := by rw [hbb]; exact F1.out.lt
  have nb4b3 : b3 < b4 := by rw [hbb]; exact F3.out.lt
  have F0 : Hid (Blk w5 b1 [.int .i64 h.fl, .int .i64 h.gp, .int .i64 h.ln, .int .i64 h.rf, .int .i64 h.sp, .int .i64 h.pu, .int .i64 h.br, .int .i64 h.dr, .int .i64 h.lv, .int .i64 h.dO, .int .i64 h.ld, .int .i64 h.qu]) := by rw [hw2]; exact F0.out.alloc _
  have F1 : Hid (Blk w5 b2 [.int .i64 nx, .slice ra l.length rc]) := by rw [hw2]; exact F1.out.alloc _
  have F3 : Hid (Blk w5 b3 [.int .i64 0, .int .i64 nx, .int .i64 (nx + 1), .slice (some ⟨g, 0, none⟩) m.length c2]) := by rw [hw2]; exact F3.out.alloc _
  have F4 : Hid (Blk w5 b4 [.int .i64 nx, .int .i64 x, .int .i64 y, .int .i64 p, .int .i64 q, .int .i64 0, .int .i64 0]) := by rw [hw2]; exact Blk.at_ w4 #[.int .i64 nx, .int .i64 x, .int .i64 y, .int .i64 p, .int .i64 q, .int .i64 0, .int .i64 0] _ _ hbb
  have FO : Hid (Own w5 w.heap.size (.slice ra l.length rc) l) := by rw [hw2]; exact FO.out.alloc _
  have FM : Hid (Own w5 w.heap.size (.slice (some ⟨g, 0, none⟩) m.length c2) m) := by rw [hw2]; exact FM.out.alloc _
  have FB : Hid (Below w.heap.size w w5) := by rw [hw2]; exact FB.out.alloc FB.out.size _
  have leb4 : w.heap.size ≤ b4 := by rw [hbb]; exact FB0.out.size
  (try simp only [Act.put])
  rw [← hw2, ← hbb]
  clear hbb hw2 FB0
  obtain ⟨D, hD⟩ : ∃ D, m.map dropP = D := ⟨_, rfl⟩
  have CD : ∀ W, Own W w.heap.size (.slice (some ⟨g, 0, none⟩) m.length c2) m → Calls Try.prog 8 #[.agg #[.int .i64 h.fl, .int .i64 h.gp, .int .i64 h.ln, .int .i64 h.rf, .int .i64 h.sp, .int .i64 h.pu, .int .i64 h.br, .int .i64 h.dr, .int .i64 h.lv, .int .i64 h.dO, .int .i64 h.ld, .int .i64 h.qu], .agg #[.int .i64 (nx + 1), .slice (some ⟨g, 0, none⟩) m.length c2]] W fun e w' => ∃ a3 c3, e = .returned (.agg #[.int .i64 0, .int .i64 0, .int .i64 (nx + 1), .slice a3 D.length c3]) ∧ Own w' W.heap.size (.slice a3 D.length c3) D ∧ Below W.heap.size W w' := fun W hW => by have q := drop_all h (nx + 1) m g c2 w.heap.size m60 k2 W hW; rw [hD] at q; exact q
  have hDl : D.length ≤ 60 := by rw [← hD, List.length_map]; exact m60
  have hDc : (cnt 0 (-1) 0 D : Int) = 0 := by rw [← hD, cnt_dropped]; rfl
  rw [hD] at k3
  obtain ⟨cl, hcl⟩ : ∃ cl : Int, (cnt 0 (-1) 0 l : Int) = cl := ⟨_, rfl⟩
  have hcm : (cnt 0 (-1) 0 m : Int) = cl + 1 := by rw [k4]; omega
  have hcl2 : 0 ≤ cl ∧ cl ≤ 60 := by
    have := List.countP_le_length (l := l) (p := isIn 0 (-1) 0)
    rw [← hcl]
    unfold cnt
    omega
  have ewc : IntKind.i64.wrap (cl + 1) = cl + 1 := IntWalk.i64_in _ (by omega)
  have CF : ∀ W, PIn W W.heap.size (some ⟨g, 0, none⟩) m → Calls Try.prog 9 #[.agg #[.int .i64 h.fl, .int .i64 h.gp, .int .i64 h.ln, .int .i64 h.rf, .int .i64 h.sp, .int .i64 h.pu, .int .i64 h.br, .int .i64 h.dr, .int .i64 h.lv, .int .i64 h.dO, .int .i64 h.ld, .int .i64 h.qu], .agg #[.int .i64 (nx + 1), .slice (some ⟨g, 0, none⟩) m.length c2]] W fun e w' => e = .returned (.int .i64 0) ∧ Below W.heap.size W w' := fun W hW => by have q := implLedgerFault_any h ⟨nx + 1, m⟩ (some ⟨g, 0, none⟩) c2 (by show m.length ≤ _; omega) W hW; rw [k2] at q; exact q
  have CA : ∀ W, PIn W W.heap.size (some ⟨g, 0, none⟩) m → Calls Try.prog 10 #[.agg #[.int .i64 h.fl, .int .i64 h.gp, .int .i64 h.ln, .int .i64 h.rf, .int .i64 h.sp, .int .i64 h.pu, .int .i64 h.br, .int .i64 h.dr, .int .i64 h.lv, .int .i64 h.dO, .int .i64 h.ld, .int .i64 h.qu], .agg #[.int .i64 (nx + 1), .slice (some ⟨g, 0, none⟩) m.length c2]] W fun e w' => ∃ ga gc, e = .returned (.agg #[.int .i64 0, .slice (some ⟨ga, 0, none⟩) 5 gc]) ∧ w'.cell? ⟨ga, 0, none⟩ = some (.int .i64 (cl + 1)) ∧ Below W.heap.size W w' := fun W hW => count_first h (nx + 1) m (some ⟨g, 0, none⟩) c2 m60 k2 _ hcm W hW
  have CB : ∀ W, PIn W W.heap.size ra l → Calls Try.prog 10 #[.agg #[.int .i64 h.fl, .int .i64 h.gp, .int .i64 h.ln, .int .i64 h.rf, .int .i64 h.sp, .int .i64 h.pu, .int .i64 h.br, .int .i64 h.dr, .int .i64 h.lv, .int .i64 h.dO, .int .i64 h.ld, .int .i64 h.qu], .agg #[.int .i64 nx, .slice ra l.length rc]] W fun e w' => ∃ ga gc, e = .returned (.agg #[.int .i64 0, .slice (some ⟨ga, 0, none⟩) 5 gc]) ∧ w'.cell? ⟨ga, 0, none⟩ = some (.int .i64 cl) ∧ Below W.heap.size W w' := fun W hW => count_first h nx l ra rc hl60 k1 _ hcl W hW
  have CC : ∀ (a3 : Option Addr) (c3 : Nat) W, PIn W W.heap.size a3 D → Calls Try.prog 10 #[.agg #[.int .i64 h.fl, .int .i64 h.gp, .int .i64 h.ln, .int .i64 h.rf, .int .i64 h.sp, .int .i64 h.pu, .int .i64 h.br, .int .i64 h.dr, .int .i64 h.lv, .int .i64 h.dO, .int .i64 h.ld, .int .i64 h.qu], .agg #[.int .i64 (nx + 1), .slice a3 D.length c3]] W fun e w' => ∃ ga gc, e = .returned (.agg #[.int .i64 0, .slice (some ⟨ga, 0, none⟩) 5 gc]) ∧ w'.cell? ⟨ga, 0, none⟩ = some (.int .i64 0) ∧ Below W.heap.size W w' := fun a3 c3 W hW => count_first h (nx + 1) D a3 c3 hDl k3 _ hDc W hW
  clear hD hDl hDc k1 k2 k3 k4 hcl hcm hcl2 HML HJ hj1 hj2 d3 hne
  go_upto_region 12 with (first | (refine load_blk 25 _ Try.underlying25 (by kernel_rfl) F0.out rfl rfl rfl ?_) | (refine load_mid 28 _ 2 [.int .i64 (nx + 1), .slice (some ⟨g, 0, none⟩) m.length c2] Try.underlying28 (by kernel_rfl) F3.out rfl rfl rfl rfl ?_) | (go_at_call 8; refine (CD _ FM.out).mono ?_; rintro e w6 ⟨a3, c3, rfl, ho, hb⟩; have FD : Hid (Own w6 w.heap.size (.slice a3 D.length c3) D) := ho.base FB.out.size; have FO : Hid (Own w6 w.heap.size (.slice ra l.length rc) l) := FO.out.below hb (fun k hk => (FO.out.lt k hk).2); have FM : Hid (Own w6 w.heap.size (.slice (some ⟨g, 0, none⟩) m.length c2) m) := FM.out.below hb (fun k hk => (FM.out.lt k hk).2); have F0 : Hid (Blk w6 b1 [.int .i64 h.fl, .int .i64 h.gp, .int .i64 h.ln, .int .i64 h.rf, .int .i64 h.sp, .int .i64 h.pu, .int .i64 h.br, .int .i64 h.dr, .int .i64 h.lv, .int .i64 h.dO, .int .i64 h.ld, .int .i64 h.qu]) := F0.out.below hb F0.out.lt; have F1 : Hid (Blk w6 b2 [.int .i64 nx, .slice ra l.length rc]) := F1.out.below hb F1.out.lt; have F3 : Hid (Blk w6 b3 [.int .i64 0, .int .i64 nx, .int .i64 (nx + 1), .slice (some ⟨g, 0, none⟩) m.length c2]) := F3.out.below hb F3.out.lt; have F4 : Hid (Blk w6 b4 [.int .i64 nx, .int .i64 x, .int .i64 y, .int .i64 p, .int .i64 q, .int .i64 0, .int .i64 0]) := F4.out.below hb F4.out.lt; have FB : Hid (Below w.heap.size w w6) := FB.out.trans (hb.mono FB.out.size); clear hb; clear ho) | (refine store_new [.int .i64 0, .int .i64 0, .int .i64 (nx + 1), .slice a3 D.length c3] 32 _ _ (by kernel_rfl) (by kernel_rfl) (by kernel_rfl) rfl rfl rfl rfl ?_))
  have FB0 := FB
  obtain ⟨b5, hbb⟩ : ∃ b5, b5 = w6.heap.size := ⟨_, rfl⟩
  obtain ⟨w7, hw2⟩ : ∃ w7, w7 = w6.alloc (.cells #[.int .i64 0, .int .i64 0, .int .i64 (nx + 1), .slice a3 D.length c3] 32) := ⟨_, rfl⟩
  have nb5b1 : b1 < b5 := by rw [hbb]; exact F0.out.lt
  have nb5b2 : b2 < b5 := by rw [hbb]; exact F1.out.lt
  have nb5b3 : b3 < b5 := by rw [hbb]; exact F3.out.lt
  have nb5b4 : b4 < b5 := by rw [hbb]; exact F4.out.lt
  have F0 : Hid (Blk w7 b1 [.int .i64 h.fl, .int .i64 h.gp, .int .i64 h.ln, .int .i64 h.rf, .int .i64 h.sp, .int .i64 h.pu, .int .i64 h.br, .int .i64 h.dr, .int .i64 h.lv, .int .i64 h.dO, .int .i64 h.ld, .int .i64 h.qu]) := by rw [hw2]; exact F0.out.alloc _
  have F1 : Hid (Blk w7 b2 [.int .i64 nx, .slice ra l.length rc]) := by rw [hw2]; exact F1.out.alloc _
  have F3 : Hid (Blk w7 b3 [.int .i64 0, .int .i64 nx, .int .i64 (nx + 1), .slice (some ⟨g, 0, none⟩) m.length c2]) := by rw [hw2]; exact F3.out.alloc _
  have F4 : Hid (Blk w7 b4 [.int .i64 nx, .int .i64 x, .int .i64 y, .int .i64 p, .int .i64 q, .int .i64 0, .int .i64 0]) := by rw [hw2]; exact F4.out.alloc _
  have F5 : Hid (Blk w7 b5 [.int .i64 0, .int .i64 0, .int .i64 (nx + 1), .slice a3 D.length c3]) := by rw [hw2]; exact Blk.at_ w6 #[.int .i64 0, .int .i64 0, .int .i64 (nx + 1), .slice a3 D.length c3] _ _ hbb
  have FO : Hid (Own w7 w.heap.size (.slice ra l.length rc) l) := by rw [hw2]; exact FO.out.alloc _
  have FM : Hid (Own w7 w.heap.size (.slice (some ⟨g, 0, none⟩) m.length c2) m) := by rw [hw2]; exact FM.out.alloc _
  have FD : Hid (Own w7 w.heap.size (.slice a3 D.length c3) D) := by rw [hw2]; exact FD.out.alloc _
  have FB : Hid (Below w.heap.size w w7) := by rw [hw2]; exact FB.out.alloc FB.out.size _
  have leb5 : w.heap.size ≤ b5 := by rw [hbb]; exact FB0.out.size
  (try simp only [Act.put])
  rw [← hw2, ← hbb]
  clear hbb hw2 FB0
  have fi := fieldC1
  have enx : (nx == nx) = true := by simp
  have ex_ : (x == x) = true := by simp
  have ey_ : (y == y) = true := by simp
  have ecl : (cl + 1 == cl + 1) = true := by simp
  clear CD m60 hl60
  have F0 : Hid (Blk w7.drew b1 [.int .i64 h.fl, .int .i64 h.gp, .int .i64 h.ln, .int .i64 h.rf, .int .i64 h.sp, .int .i64 h.pu, .int .i64 h.br, .int .i64 h.dr, .int .i64 h.lv, .int .i64 h.dO, .int .i64 h.ld, .int .i64 h.qu]) := F0.out.below (Below.refl _ _).drew F0.out.lt
  have F1 : Hid (Blk w7.drew b2 [.int .i64 nx, .slice ra l.length rc]) := F1.out.below (Below.refl _ _).drew F1.out.lt
  have F3 : Hid (Blk w7.drew b3 [.int .i64 0, .int .i64 nx, .int .i64 (nx + 1), .slice (some ⟨g, 0, none⟩) m.length c2]) := F3.out.below (Below.refl _ _).drew F3.out.lt
  have F4 : Hid (Blk w7.drew b4 [.int .i64 nx, .int .i64 x, .int .i64 y, .int .i64 p, .int .i64 q, .int .i64 0, .int .i64 0]) := F4.out.below (Below.refl _ _).drew F4.out.lt
  have F5 : Hid (Blk w7.drew b5 [.int .i64 0, .int .i64 0, .int .i64 (nx + 1), .slice a3 D.length c3]) := F5.out.below (Below.refl _ _).drew F5.out.lt
  have FB : Hid (Below w.heap.size w w7.drew) := FB.out.drew
  have FO : Hid (Own w7.drew w.heap.size (.slice ra l.length rc) l) := FO.out.drew
  have FM : Hid (Own w7.drew w.heap.size (.slice (some ⟨g, 0, none⟩) m.length c2) m) := FM.out.drew
  have FD : Hid (Own w7.drew w.heap.size (.slice a3 D.length c3) D) := FD.out.drew
  refine wp_region_held_drew (S := (fun w'' => Blk w'' b1 ([.int .i64 h.fl, .int .i64 h.gp, .int .i64 h.ln, .int .i64 h.rf, .int .i64 h.sp, .int .i64 h.pu, .int .i64 h.br, .int .i64 h.dr, .int .i64 h.lv, .int .i64 h.dO, .int .i64 h.ld, .int .i64 h.qu]) ∧ Blk w'' b2 ([.int .i64 nx, .slice ra l.length rc]) ∧ Blk w'' b3 ([.int .i64 0, .int .i64 nx, .int .i64 (nx + 1), .slice (some ⟨g, 0, none⟩) m.length c2]) ∧ Blk w'' b4 ([.int .i64 nx, .int .i64 x, .int .i64 y, .int .i64 p, .int .i64 q, .int .i64 0, .int .i64 0]) ∧ Blk w'' b5 ([.int .i64 0, .int .i64 0, .int .i64 (nx + 1), .slice a3 D.length c3]))) (by kernel_rfl) (by (try dsimp only); first | exact ⟨F0.out, F1.out, F3.out, F4.out, F5.out⟩ | go_keep) (fun hHeld => ?_)
  obtain ⟨v_3, hw1⟩ : ∃ v_3, v_3 = w7.drew := ⟨_, rfl⟩
  have F0 : Hid (Blk v_3 b1 [.int .i64 h.fl, .int .i64 h.gp, .int .i64 h.ln, .int .i64 h.rf, .int .i64 h.sp, .int .i64 h.pu, .int .i64 h.br, .int .i64 h.dr, .int .i64 h.lv, .int .i64 h.dO, .int .i64 h.ld, .int .i64 h.qu]) := by rw [hw1]; exact F0.out
  have F1 : Hid (Blk v_3 b2 [.int .i64 nx, .slice ra l.length rc]) := by rw [hw1]; exact F1.out
  have F3 : Hid (Blk v_3 b3 [.int .i64 0, .int .i64 nx, .int .i64 (nx + 1), .slice (some ⟨g, 0, none⟩) m.length c2]) := by rw [hw1]; exact F3.out
  have F4 : Hid (Blk v_3 b4 [.int .i64 nx, .int .i64 x, .int .i64 y, .int .i64 p, .int .i64 q, .int .i64 0, .int .i64 0]) := by rw [hw1]; exact F4.out
  have F5 : Hid (Blk v_3 b5 [.int .i64 0, .int .i64 0, .int .i64 (nx + 1), .slice a3 D.length c3]) := by rw [hw1]; exact F5.out
  have FB : Hid (Below w.heap.size w v_3) := by rw [hw1]; exact FB.out
  have FO : Hid (Own v_3 w.heap.size (.slice ra l.length rc) l) := by rw [hw1]; exact FO.out
  have FM : Hid (Own v_3 w.heap.size (.slice (some ⟨g, 0, none⟩) m.length c2) m) := by rw [hw1]; exact FM.out
  have FD : Hid (Own v_3 w.heap.size (.slice a3 D.length c3) D) := by rw [hw1]; exact FD.out
  rw [← hw1] at hHeld ⊢
  clear hw1
  refine tkz 0 rfl ?_ (hy := Or.inl ⟨by kernel_rfl, fun wx hSw => exec_load_blk 25 _ Try.underlying25 (by kernel_rfl) rfl rfl hSw.1⟩)
  refine tkz 1 rfl ?_
  refine tkz 2 rfl ?_ (hy := Or.inl ⟨by kernel_rfl, fun wx hSw => exec_load_mid 28 _ 2 [.int .i64 (nx + 1), .slice (some ⟨g, 0, none⟩) m.length c2] Try.underlying28 (by kernel_rfl) rfl rfl rfl hSw.2.2.1⟩)
  refine wpAnyH_ready (rs := [3]) (by kernel_rfl) (by simp) ?_
  refine (AllReadyH.cons rfl (fun K hK => ?_) AllReadyH.nil)
  go_simp
  refine (CF _ FM.out.pinC).mono ?_
  rintro e v_4 ⟨rfl, hb⟩
  have F0 : Hid (Blk v_4 b1 [.int .i64 h.fl, .int .i64 h.gp, .int .i64 h.ln, .int .i64 h.rf, .int .i64 h.sp, .int .i64 h.pu, .int .i64 h.br, .int .i64 h.dr, .int .i64 h.lv, .int .i64 h.dO, .int .i64 h.ld, .int .i64 h.qu]) := F0.out.below hb F0.out.lt
  have F1 : Hid (Blk v_4 b2 [.int .i64 nx, .slice ra l.length rc]) := F1.out.below hb F1.out.lt
  have F3 : Hid (Blk v_4 b3 [.int .i64 0, .int .i64 nx, .int .i64 (nx + 1), .slice (some ⟨g, 0, none⟩) m.length c2]) := F3.out.below hb F3.out.lt
  have F4 : Hid (Blk v_4 b4 [.int .i64 nx, .int .i64 x, .int .i64 y, .int .i64 p, .int .i64 q, .int .i64 0, .int .i64 0]) := F4.out.below hb F4.out.lt
  have F5 : Hid (Blk v_4 b5 [.int .i64 0, .int .i64 0, .int .i64 (nx + 1), .slice a3 D.length c3]) := F5.out.below hb F5.out.lt
  have FB : Hid (Below w.heap.size w v_4) := FB.out.trans (hb.mono FB.out.size)
  have FO : Hid (Own v_4 w.heap.size (.slice ra l.length rc) l) := FO.out.below hb (fun k hk => (FO.out.lt k hk).2)
  have FM : Hid (Own v_4 w.heap.size (.slice (some ⟨g, 0, none⟩) m.length c2) m) := FM.out.below hb (fun k hk => (FM.out.lt k hk).2)
  have FD : Hid (Own v_4 w.heap.size (.slice a3 D.length c3) D) := FD.out.below hb (fun k hk => (FD.out.lt k hk).2)
  clear hb
  try dsimp only
  refine hK.out _ _ (by (try dsimp only); first | exact ⟨F0.out, F1.out, F3.out, F4.out, F5.out⟩ | go_keep) (fun hHeld => ?_)
  clear hK K
  try simp only [Act.put, List.getElem_toArray, List.getElem_cons_succ, List.getElem_cons_zero, List.setIfInBounds_toArray, List.set_cons_zero, List.set_cons_succ]
  refine tkz 4 rfl ?_
  refine tkz 5 rfl ?_
  refine tkz 6 rfl ?_
  refine tkz 7 rfl ?_ (hy := Or.inl ⟨by kernel_rfl, by (intro wx hSw; have hq3_0 := hSw.2.2.2.1.c 0 _ rfl; (try dsimp only at hSw); go_simp <;> with_reducible rfl)⟩)
  refine tkz 8 rfl ?_
  refine tkz 9 rfl ?_ (hy := Or.inl ⟨by kernel_rfl, by (intro wx hSw; have hq2_1 := hSw.2.2.1.c 1 _ rfl; (try dsimp only at hSw); go_simp <;> with_reducible rfl)⟩)
  refine tkz 10 rfl ?_
  refine tkz 11 rfl ?_
  refine tkz 12 rfl ?_
  refine tkz 13 rfl ?_
  refine tkz 14 rfl ?_ (hy := Or.inl ⟨by kernel_rfl, by (intro wx hSw; have hq2_1 := hSw.2.2.1.c 1 _ rfl; (try dsimp only at hSw); go_simp <;> with_reducible rfl)⟩)
  refine tkz 15 rfl ?_
  refine tkz 16 rfl ?_ (hy := Or.inl ⟨by kernel_rfl, by (intro wx hSw; have hq1_0 := hSw.2.1.c 0 _ rfl; (try dsimp only at hSw); go_simp <;> with_reducible rfl)⟩)
  refine tkz 17 rfl ?_
  refine tkz 18 rfl ?_
  refine tkz 19 rfl ?_
  refine tkz 20 rfl ?_
  refine tkz 21 rfl ?_ (hy := Or.inl ⟨by kernel_rfl, by (intro wx hSw; have hq3_5 := hSw.2.2.2.1.c 5 _ rfl; (try dsimp only at hSw); go_simp <;> with_reducible rfl)⟩)
  refine tkz 22 rfl ?_
  refine tkz 23 rfl ?_
  refine tkz 24 rfl ?_
  refine tkz 25 rfl ?_
  refine tkz 26 rfl ?_ (hy := Or.inl ⟨by kernel_rfl, by (intro wx hSw; have hq3_1 := hSw.2.2.2.1.c 1 _ rfl; (try dsimp only at hSw); go_simp <;> with_reducible rfl)⟩)
  refine tkz 27 rfl ?_
  refine tkz 28 rfl ?_
  refine tkz 29 rfl ?_
  refine tkz 30 rfl ?_
  refine tkz 31 rfl ?_
  refine tkz 32 rfl ?_ (hy := Or.inl ⟨by kernel_rfl, by (intro wx hSw; have hq3_2 := hSw.2.2.2.1.c 2 _ rfl; (try dsimp only at hSw); go_simp <;> with_reducible rfl)⟩)
  refine tkz 33 rfl ?_
  refine tkz 34 rfl ?_
  refine tkz 35 rfl ?_
  refine tkz 36 rfl ?_
  refine tkz 37 rfl ?_ (hy := Or.inl ⟨by kernel_rfl, fun wx hSw => exec_load_blk 25 _ Try.underlying25 (by kernel_rfl) rfl rfl hSw.1⟩)
  refine tkz 38 rfl ?_
  refine tkz 39 rfl ?_ (hy := Or.inl ⟨by kernel_rfl, fun wx hSw => exec_load_mid 28 _ 2 [.int .i64 (nx + 1), .slice (some ⟨g, 0, none⟩) m.length c2] Try.underlying28 (by kernel_rfl) rfl rfl rfl hSw.2.2.1⟩)
  refine tkz 44 rfl ?_ (hy := Or.inl ⟨by kernel_rfl, fun wx hSw => exec_load_blk 25 _ Try.underlying25 (by kernel_rfl) rfl rfl hSw.1⟩)
  refine tkz 45 rfl ?_ (hy := Or.inl ⟨by kernel_rfl, fun wx hSw => exec_load_blk 28 _ Try.underlying28 (by kernel_rfl) rfl rfl hSw.2.1⟩)
  refine wpAnyH_ready (rs := [40]) (by kernel_rfl) (by simp) ?_
  refine (AllReadyH.cons rfl (fun K hK => ?_) AllReadyH.nil)
  go_simp
  refine (CA _ FM.out.pinC).mono ?_
  rintro e v_5 ⟨gA, hA, rfl, hcell, hb⟩
  have FA : Hid (C1c v_5 gA (cl + 1)) := ⟨hcell⟩
  have F0 : Hid (Blk v_5 b1 [.int .i64 h.fl, .int .i64 h.gp, .int .i64 h.ln, .int .i64 h.rf, .int .i64 h.sp, .int .i64 h.pu, .int .i64 h.br, .int .i64 h.dr, .int .i64 h.lv, .int .i64 h.dO, .int .i64 h.ld, .int .i64 h.qu]) := F0.out.below hb F0.out.lt
  have F1 : Hid (Blk v_5 b2 [.int .i64 nx, .slice ra l.length rc]) := F1.out.below hb F1.out.lt
  have F3 : Hid (Blk v_5 b3 [.int .i64 0, .int .i64 nx, .int .i64 (nx + 1), .slice (some ⟨g, 0, none⟩) m.length c2]) := F3.out.below hb F3.out.lt
  have F4 : Hid (Blk v_5 b4 [.int .i64 nx, .int .i64 x, .int .i64 y, .int .i64 p, .int .i64 q, .int .i64 0, .int .i64 0]) := F4.out.below hb F4.out.lt
  have F5 : Hid (Blk v_5 b5 [.int .i64 0, .int .i64 0, .int .i64 (nx + 1), .slice a3 D.length c3]) := F5.out.below hb F5.out.lt
  have FB : Hid (Below w.heap.size w v_5) := FB.out.trans (hb.mono FB.out.size)
  have FO : Hid (Own v_5 w.heap.size (.slice ra l.length rc) l) := FO.out.below hb (fun k hk => (FO.out.lt k hk).2)
  have FM : Hid (Own v_5 w.heap.size (.slice (some ⟨g, 0, none⟩) m.length c2) m) := FM.out.below hb (fun k hk => (FM.out.lt k hk).2)
  have FD : Hid (Own v_5 w.heap.size (.slice a3 D.length c3) D) := FD.out.below hb (fun k hk => (FD.out.lt k hk).2)
  clear hb
  clear hcell
  try dsimp only
  refine hK.out _ _ (by (try dsimp only); first | exact ⟨F0.out, F1.out, F3.out, F4.out, F5.out⟩ | go_keep) (fun hHeld => ?_)
  clear hK K
  try simp only [Act.put, List.getElem_toArray, List.getElem_cons_succ, List.getElem_cons_zero, List.setIfInBounds_toArray, List.set_cons_zero, List.set_cons_succ]
  refine tkz 41 rfl ?_
  refine tkz 42 rfl ?_
  refine wpAnyH_ready (rs := [43, 46]) (by kernel_rfl) (by simp) ?_
  refine (AllReadyH.cons rfl (fun K hK => ?_) (AllReadyH.cons rfl (fun K hK => ?_) AllReadyH.nil))
  · have ca_ := FA.out.c
    go_simp
    refine hK.out _ _ (by (try dsimp only); first | exact ⟨F0.out, F1.out, F3.out, F4.out, F5.out⟩ | go_keep) (fun hHeld => ?_)
    clear hK K
    try simp only [Act.put, List.getElem_toArray, List.getElem_cons_succ, List.getElem_cons_zero, List.setIfInBounds_toArray, List.set_cons_zero, List.set_cons_succ]
    refine wpAnyH_ready (rs := [46]) (by kernel_rfl) (by simp) ?_
    refine (AllReadyH.cons rfl (fun K hK => ?_) AllReadyH.nil)
    go_simp
    refine (CB _ FO.out.pinC).mono ?_
    rintro e v_6 ⟨gBb, hBb, rfl, hcell, hb⟩
    have FBb : Hid (C1c v_6 gBb cl) := ⟨hcell⟩
    have F0 : Hid (Blk v_6 b1 [.int .i64 h.fl, .int .i64 h.gp, .int .i64 h.ln, .int .i64 h.rf, .int .i64 h.sp, .int .i64 h.pu, .int .i64 h.br, .int .i64 h.dr, .int .i64 h.lv, .int .i64 h.dO, .int .i64 h.ld, .int .i64 h.qu]) := F0.out.below hb F0.out.lt
    have F1 : Hid (Blk v_6 b2 [.int .i64 nx, .slice ra l.length rc]) := F1.out.below hb F1.out.lt
    have F3 : Hid (Blk v_6 b3 [.int .i64 0, .int .i64 nx, .int .i64 (nx + 1), .slice (some ⟨g, 0, none⟩) m.length c2]) := F3.out.below hb F3.out.lt
    have F4 : Hid (Blk v_6 b4 [.int .i64 nx, .int .i64 x, .int .i64 y, .int .i64 p, .int .i64 q, .int .i64 0, .int .i64 0]) := F4.out.below hb F4.out.lt
    have F5 : Hid (Blk v_6 b5 [.int .i64 0, .int .i64 0, .int .i64 (nx + 1), .slice a3 D.length c3]) := F5.out.below hb F5.out.lt
    have FB : Hid (Below w.heap.size w v_6) := FB.out.trans (hb.mono FB.out.size)
    have FO : Hid (Own v_6 w.heap.size (.slice ra l.length rc) l) := FO.out.below hb (fun k hk => (FO.out.lt k hk).2)
    have FM : Hid (Own v_6 w.heap.size (.slice (some ⟨g, 0, none⟩) m.length c2) m) := FM.out.below hb (fun k hk => (FM.out.lt k hk).2)
    have FD : Hid (Own v_6 w.heap.size (.slice a3 D.length c3) D) := FD.out.below hb (fun k hk => (FD.out.lt k hk).2)
    have FA : Hid (C1c v_6 gA (cl + 1)) := FA.out.below hb FA.out.lt
    clear hb
    clear hcell
    try dsimp only
    refine hK.out _ _ (by (try dsimp only); first | exact ⟨F0.out, F1.out, F3.out, F4.out, F5.out⟩ | go_keep) (fun hHeld => ?_)
    clear hK K
    try simp only [Act.put, List.getElem_toArray, List.getElem_cons_succ, List.getElem_cons_zero, List.setIfInBounds_toArray, List.set_cons_zero, List.set_cons_succ]
    refine tkz 47 rfl ?_
    refine tkz 48 rfl ?_
    refine wpAnyH_ready (rs := [49]) (by kernel_rfl) (by simp) ?_
    refine (AllReadyH.cons rfl (fun K hK => ?_) AllReadyH.nil)
    have cb_ := FBb.out.c
    go_simp
    refine hK.out _ _ (by (try dsimp only); first | exact ⟨F0.out, F1.out, F3.out, F4.out, F5.out⟩ | go_keep) (fun hHeld => ?_)
    clear hK K
    try simp only [Act.put, List.getElem_toArray, List.getElem_cons_succ, List.getElem_cons_zero, List.setIfInBounds_toArray, List.set_cons_zero, List.set_cons_succ]
    refine tkz 50 rfl ?_
    refine tkz 51 rfl ?_
    refine tkz 52 rfl ?_
    refine tkz 53 rfl ?_
    refine tkz 54 rfl ?_ (hy := Or.inl ⟨by kernel_rfl, fun wx hSw => exec_load_blk 25 _ Try.underlying25 (by kernel_rfl) rfl rfl hSw.1⟩)
    refine tkz 55 rfl ?_
    refine tkz 56 rfl ?_ (hy := Or.inl ⟨by kernel_rfl, fun wx hSw => exec_load_mid 28 _ 2 [.int .i64 (nx + 1), .slice a3 D.length c3] Try.underlying28 (by kernel_rfl) rfl rfl rfl hSw.2.2.2.2⟩)
    refine wpAnyH_ready (rs := [57]) (by kernel_rfl) (by simp) ?_
    refine (AllReadyH.cons rfl (fun K hK => ?_) AllReadyH.nil)
    go_simp
    refine (CC _ _ _ FD.out.pinC).mono ?_
    rintro e v_7 ⟨gC, hC, rfl, hcell, hb⟩
    have FC : Hid (C1c v_7 gC 0) := ⟨hcell⟩
    have F0 : Hid (Blk v_7 b1 [.int .i64 h.fl, .int .i64 h.gp, .int .i64 h.ln, .int .i64 h.rf, .int .i64 h.sp, .int .i64 h.pu, .int .i64 h.br, .int .i64 h.dr, .int .i64 h.lv, .int .i64 h.dO, .int .i64 h.ld, .int .i64 h.qu]) := F0.out.below hb F0.out.lt
    have F1 : Hid (Blk v_7 b2 [.int .i64 nx, .slice ra l.length rc]) := F1.out.below hb F1.out.lt
    have F3 : Hid (Blk v_7 b3 [.int .i64 0, .int .i64 nx, .int .i64 (nx + 1), .slice (some ⟨g, 0, none⟩) m.length c2]) := F3.out.below hb F3.out.lt
    have F4 : Hid (Blk v_7 b4 [.int .i64 nx, .int .i64 x, .int .i64 y, .int .i64 p, .int .i64 q, .int .i64 0, .int .i64 0]) := F4.out.below hb F4.out.lt
    have F5 : Hid (Blk v_7 b5 [.int .i64 0, .int .i64 0, .int .i64 (nx + 1), .slice a3 D.length c3]) := F5.out.below hb F5.out.lt
    have FB : Hid (Below w.heap.size w v_7) := FB.out.trans (hb.mono FB.out.size)
    have FO : Hid (Own v_7 w.heap.size (.slice ra l.length rc) l) := FO.out.below hb (fun k hk => (FO.out.lt k hk).2)
    have FM : Hid (Own v_7 w.heap.size (.slice (some ⟨g, 0, none⟩) m.length c2) m) := FM.out.below hb (fun k hk => (FM.out.lt k hk).2)
    have FD : Hid (Own v_7 w.heap.size (.slice a3 D.length c3) D) := FD.out.below hb (fun k hk => (FD.out.lt k hk).2)
    have FA : Hid (C1c v_7 gA (cl + 1)) := FA.out.below hb FA.out.lt
    have FBb : Hid (C1c v_7 gBb cl) := FBb.out.below hb FBb.out.lt
    clear hb
    clear hcell
    try dsimp only
    refine hK.out _ _ (by (try dsimp only); first | exact ⟨F0.out, F1.out, F3.out, F4.out, F5.out⟩ | go_keep) (fun hHeld => ?_)
    clear hK K
    try simp only [Act.put, List.getElem_toArray, List.getElem_cons_succ, List.getElem_cons_zero, List.setIfInBounds_toArray, List.set_cons_zero, List.set_cons_succ]
    refine tkz 58 rfl ?_
    refine tkz 59 rfl ?_
    refine wpAnyH_ready (rs := [60]) (by kernel_rfl) (by simp) ?_
    refine (AllReadyH.cons rfl (fun K hK => ?_) AllReadyH.nil)
    have cc_ := FC.out.c
    go_simp
    refine hK.out _ _ (by (try dsimp only); first | exact ⟨F0.out, F1.out, F3.out, F4.out, F5.out⟩ | go_keep) (fun hHeld => ?_)
    clear hK K
    try simp only [Act.put, List.getElem_toArray, List.getElem_cons_succ, List.getElem_cons_zero, List.setIfInBounds_toArray, List.set_cons_zero, List.set_cons_succ]
    refine tkz 61 rfl ?_
    refine tkz 62 rfl ?_
    refine tkz 63 rfl ?_
    refine wpAnyH_done (by kernel_rfl) ?_ _
    go_wp2
    go_ret
    exact ⟨by first | rfl | simp, FB.out⟩
  · go_simp
    refine (CB _ FO.out.pinC).mono ?_
    rintro e v_8 ⟨gBb, hBb, rfl, hcell, hb⟩
    have FBb : Hid (C1c v_8 gBb cl) := ⟨hcell⟩
    have F0 : Hid (Blk v_8 b1 [.int .i64 h.fl, .int .i64 h.gp, .int .i64 h.ln, .int .i64 h.rf, .int .i64 h.sp, .int .i64 h.pu, .int .i64 h.br, .int .i64 h.dr, .int .i64 h.lv, .int .i64 h.dO, .int .i64 h.ld, .int .i64 h.qu]) := F0.out.below hb F0.out.lt
    have F1 : Hid (Blk v_8 b2 [.int .i64 nx, .slice ra l.length rc]) := F1.out.below hb F1.out.lt
    have F3 : Hid (Blk v_8 b3 [.int .i64 0, .int .i64 nx, .int .i64 (nx + 1), .slice (some ⟨g, 0, none⟩) m.length c2]) := F3.out.below hb F3.out.lt
    have F4 : Hid (Blk v_8 b4 [.int .i64 nx, .int .i64 x, .int .i64 y, .int .i64 p, .int .i64 q, .int .i64 0, .int .i64 0]) := F4.out.below hb F4.out.lt
    have F5 : Hid (Blk v_8 b5 [.int .i64 0, .int .i64 0, .int .i64 (nx + 1), .slice a3 D.length c3]) := F5.out.below hb F5.out.lt
    have FB : Hid (Below w.heap.size w v_8) := FB.out.trans (hb.mono FB.out.size)
    have FO : Hid (Own v_8 w.heap.size (.slice ra l.length rc) l) := FO.out.below hb (fun k hk => (FO.out.lt k hk).2)
    have FM : Hid (Own v_8 w.heap.size (.slice (some ⟨g, 0, none⟩) m.length c2) m) := FM.out.below hb (fun k hk => (FM.out.lt k hk).2)
    have FD : Hid (Own v_8 w.heap.size (.slice a3 D.length c3) D) := FD.out.below hb (fun k hk => (FD.out.lt k hk).2)
    have FA : Hid (C1c v_8 gA (cl + 1)) := FA.out.below hb FA.out.lt
    clear hb
    clear hcell
    try dsimp only
    refine hK.out _ _ (by (try dsimp only); first | exact ⟨F0.out, F1.out, F3.out, F4.out, F5.out⟩ | go_keep) (fun hHeld => ?_)
    clear hK K
    try simp only [Act.put, List.getElem_toArray, List.getElem_cons_succ, List.getElem_cons_zero, List.setIfInBounds_toArray, List.set_cons_zero, List.set_cons_succ]
    refine tkz 47 rfl ?_
    refine tkz 48 rfl ?_
    refine wpAnyH_ready (rs := [43, 49]) (by kernel_rfl) (by simp) ?_
    refine (AllReadyH.cons rfl (fun K hK => ?_) (AllReadyH.cons rfl (fun K hK => ?_) AllReadyH.nil))
    · have ca_ := FA.out.c
      go_simp
      refine hK.out _ _ (by (try dsimp only); first | exact ⟨F0.out, F1.out, F3.out, F4.out, F5.out⟩ | go_keep) (fun hHeld => ?_)
      clear hK K
      try simp only [Act.put, List.getElem_toArray, List.getElem_cons_succ, List.getElem_cons_zero, List.setIfInBounds_toArray, List.set_cons_zero, List.set_cons_succ]
      refine wpAnyH_ready (rs := [49]) (by kernel_rfl) (by simp) ?_
      refine (AllReadyH.cons rfl (fun K hK => ?_) AllReadyH.nil)
      have cb_ := FBb.out.c
      go_simp
      refine hK.out _ _ (by (try dsimp only); first | exact ⟨F0.out, F1.out, F3.out, F4.out, F5.out⟩ | go_keep) (fun hHeld => ?_)
      clear hK K
      try simp only [Act.put, List.getElem_toArray, List.getElem_cons_succ, List.getElem_cons_zero, List.setIfInBounds_toArray, List.set_cons_zero, List.set_cons_succ]
      refine tkz 50 rfl ?_
      refine tkz 51 rfl ?_
      refine tkz 52 rfl ?_
      refine tkz 53 rfl ?_
      refine tkz 54 rfl ?_ (hy := Or.inl ⟨by kernel_rfl, fun wx hSw => exec_load_blk 25 _ Try.underlying25 (by kernel_rfl) rfl rfl hSw.1⟩)
      refine tkz 55 rfl ?_
      refine tkz 56 rfl ?_ (hy := Or.inl ⟨by kernel_rfl, fun wx hSw => exec_load_mid 28 _ 2 [.int .i64 (nx + 1), .slice a3 D.length c3] Try.underlying28 (by kernel_rfl) rfl rfl rfl hSw.2.2.2.2⟩)
      refine wpAnyH_ready (rs := [57]) (by kernel_rfl) (by simp) ?_
      refine (AllReadyH.cons rfl (fun K hK => ?_) AllReadyH.nil)
      go_simp
      refine (CC _ _ _ FD.out.pinC).mono ?_
      rintro e v_9 ⟨gC, hC, rfl, hcell, hb⟩
      have FC : Hid (C1c v_9 gC 0) := ⟨hcell⟩
      have F0 : Hid (Blk v_9 b1 [.int .i64 h.fl, .int .i64 h.gp, .int .i64 h.ln, .int .i64 h.rf, .int .i64 h.sp, .int .i64 h.pu, .int .i64 h.br, .int .i64 h.dr, .int .i64 h.lv, .int .i64 h.dO, .int .i64 h.ld, .int .i64 h.qu]) := F0.out.below hb F0.out.lt
      have F1 : Hid (Blk v_9 b2 [.int .i64 nx, .slice ra l.length rc]) := F1.out.below hb F1.out.lt
      have F3 : Hid (Blk v_9 b3 [.int .i64 0, .int .i64 nx, .int .i64 (nx + 1), .slice (some ⟨g, 0, none⟩) m.length c2]) := F3.out.below hb F3.out.lt
      have F4 : Hid (Blk v_9 b4 [.int .i64 nx, .int .i64 x, .int .i64 y, .int .i64 p, .int .i64 q, .int .i64 0, .int .i64 0]) := F4.out.below hb F4.out.lt
      have F5 : Hid (Blk v_9 b5 [.int .i64 0, .int .i64 0, .int .i64 (nx + 1), .slice a3 D.length c3]) := F5.out.below hb F5.out.lt
      have FB : Hid (Below w.heap.size w v_9) := FB.out.trans (hb.mono FB.out.size)
      have FO : Hid (Own v_9 w.heap.size (.slice ra l.length rc) l) := FO.out.below hb (fun k hk => (FO.out.lt k hk).2)
      have FM : Hid (Own v_9 w.heap.size (.slice (some ⟨g, 0, none⟩) m.length c2) m) := FM.out.below hb (fun k hk => (FM.out.lt k hk).2)
      have FD : Hid (Own v_9 w.heap.size (.slice a3 D.length c3) D) := FD.out.below hb (fun k hk => (FD.out.lt k hk).2)
      have FA : Hid (C1c v_9 gA (cl + 1)) := FA.out.below hb FA.out.lt
      have FBb : Hid (C1c v_9 gBb cl) := FBb.out.below hb FBb.out.lt
      clear hb
      clear hcell
      try dsimp only
      refine hK.out _ _ (by (try dsimp only); first | exact ⟨F0.out, F1.out, F3.out, F4.out, F5.out⟩ | go_keep) (fun hHeld => ?_)
      clear hK K
      try simp only [Act.put, List.getElem_toArray, List.getElem_cons_succ, List.getElem_cons_zero, List.setIfInBounds_toArray, List.set_cons_zero, List.set_cons_succ]
      refine tkz 58 rfl ?_
      refine tkz 59 rfl ?_
      refine wpAnyH_ready (rs := [60]) (by kernel_rfl) (by simp) ?_
      refine (AllReadyH.cons rfl (fun K hK => ?_) AllReadyH.nil)
      have cc_ := FC.out.c
      go_simp
      refine hK.out _ _ (by (try dsimp only); first | exact ⟨F0.out, F1.out, F3.out, F4.out, F5.out⟩ | go_keep) (fun hHeld => ?_)
      clear hK K
      try simp only [Act.put, List.getElem_toArray, List.getElem_cons_succ, List.getElem_cons_zero, List.setIfInBounds_toArray, List.set_cons_zero, List.set_cons_succ]
      refine tkz 61 rfl ?_
      refine tkz 62 rfl ?_
      refine tkz 63 rfl ?_
      refine wpAnyH_done (by kernel_rfl) ?_ _
      go_wp2
      go_ret
      exact ⟨by first | rfl | simp, FB.out⟩
    · have cb_ := FBb.out.c
      go_simp
      refine hK.out _ _ (by (try dsimp only); first | exact ⟨F0.out, F1.out, F3.out, F4.out, F5.out⟩ | go_keep) (fun hHeld => ?_)
      clear hK K
      try simp only [Act.put, List.getElem_toArray, List.getElem_cons_succ, List.getElem_cons_zero, List.setIfInBounds_toArray, List.set_cons_zero, List.set_cons_succ]
      refine tkz 50 rfl ?_
      refine wpAnyH_ready (rs := [43]) (by kernel_rfl) (by simp) ?_
      refine (AllReadyH.cons rfl (fun K hK => ?_) AllReadyH.nil)
      have ca_ := FA.out.c
      go_simp
      refine hK.out _ _ (by (try dsimp only); first | exact ⟨F0.out, F1.out, F3.out, F4.out, F5.out⟩ | go_keep) (fun hHeld => ?_)
      clear hK K
      try simp only [Act.put, List.getElem_toArray, List.getElem_cons_succ, List.getElem_cons_zero, List.setIfInBounds_toArray, List.set_cons_zero, List.set_cons_succ]
      refine tkz 51 rfl ?_
      refine tkz 52 rfl ?_
      refine tkz 53 rfl ?_
      refine tkz 54 rfl ?_ (hy := Or.inl ⟨by kernel_rfl, fun wx hSw => exec_load_blk 25 _ Try.underlying25 (by kernel_rfl) rfl rfl hSw.1⟩)
      refine tkz 55 rfl ?_
      refine tkz 56 rfl ?_ (hy := Or.inl ⟨by kernel_rfl, fun wx hSw => exec_load_mid 28 _ 2 [.int .i64 (nx + 1), .slice a3 D.length c3] Try.underlying28 (by kernel_rfl) rfl rfl rfl hSw.2.2.2.2⟩)
      refine wpAnyH_ready (rs := [57]) (by kernel_rfl) (by simp) ?_
      refine (AllReadyH.cons rfl (fun K hK => ?_) AllReadyH.nil)
      go_simp
      refine (CC _ _ _ FD.out.pinC).mono ?_
      rintro e v_10 ⟨gC, hC, rfl, hcell, hb⟩
      have FC : Hid (C1c v_10 gC 0) := ⟨hcell⟩
      have F0 : Hid (Blk v_10 b1 [.int .i64 h.fl, .int .i64 h.gp, .int .i64 h.ln, .int .i64 h.rf, .int .i64 h.sp, .int .i64 h.pu, .int .i64 h.br, .int .i64 h.dr, .int .i64 h.lv, .int .i64 h.dO, .int .i64 h.ld, .int .i64 h.qu]) := F0.out.below hb F0.out.lt
      have F1 : Hid (Blk v_10 b2 [.int .i64 nx, .slice ra l.length rc]) := F1.out.below hb F1.out.lt
      have F3 : Hid (Blk v_10 b3 [.int .i64 0, .int .i64 nx, .int .i64 (nx + 1), .slice (some ⟨g, 0, none⟩) m.length c2]) := F3.out.below hb F3.out.lt
      have F4 : Hid (Blk v_10 b4 [.int .i64 nx, .int .i64 x, .int .i64 y, .int .i64 p, .int .i64 q, .int .i64 0, .int .i64 0]) := F4.out.below hb F4.out.lt
      have F5 : Hid (Blk v_10 b5 [.int .i64 0, .int .i64 0, .int .i64 (nx + 1), .slice a3 D.length c3]) := F5.out.below hb F5.out.lt
      have FB : Hid (Below w.heap.size w v_10) := FB.out.trans (hb.mono FB.out.size)
      have FO : Hid (Own v_10 w.heap.size (.slice ra l.length rc) l) := FO.out.below hb (fun k hk => (FO.out.lt k hk).2)
      have FM : Hid (Own v_10 w.heap.size (.slice (some ⟨g, 0, none⟩) m.length c2) m) := FM.out.below hb (fun k hk => (FM.out.lt k hk).2)
      have FD : Hid (Own v_10 w.heap.size (.slice a3 D.length c3) D) := FD.out.below hb (fun k hk => (FD.out.lt k hk).2)
      have FA : Hid (C1c v_10 gA (cl + 1)) := FA.out.below hb FA.out.lt
      have FBb : Hid (C1c v_10 gBb cl) := FBb.out.below hb FBb.out.lt
      clear hb
      clear hcell
      try dsimp only
      refine hK.out _ _ (by (try dsimp only); first | exact ⟨F0.out, F1.out, F3.out, F4.out, F5.out⟩ | go_keep) (fun hHeld => ?_)
      clear hK K
      try simp only [Act.put, List.getElem_toArray, List.getElem_cons_succ, List.getElem_cons_zero, List.setIfInBounds_toArray, List.set_cons_zero, List.set_cons_succ]
      refine tkz 58 rfl ?_
      refine tkz 59 rfl ?_
      refine wpAnyH_ready (rs := [60]) (by kernel_rfl) (by simp) ?_
      refine (AllReadyH.cons rfl (fun K hK => ?_) AllReadyH.nil)
      have cc_ := FC.out.c
      go_simp
      refine hK.out _ _ (by (try dsimp only); first | exact ⟨F0.out, F1.out, F3.out, F4.out, F5.out⟩ | go_keep) (fun hHeld => ?_)
      clear hK K
      try simp only [Act.put, List.getElem_toArray, List.getElem_cons_succ, List.getElem_cons_zero, List.setIfInBounds_toArray, List.set_cons_zero, List.set_cons_succ]
      refine tkz 61 rfl ?_
      refine tkz 62 rfl ?_
      refine tkz 63 rfl ?_
      refine wpAnyH_done (by kernel_rfl) ?_ _
      go_wp2
      go_ret
      exact ⟨by first | rfl | simp, FB.out⟩
end Go.Proofs.Ytcjfaimhggckmaa

namespace Go.Proofs.Ytcjfaimhggckmaa.fnCalls
open Go.ChangeShapes Go.WideShapes Go.ChangeAt Go.RowKit
open Go.ChangeMaps (open_string shut_string)
set_option linter.unusedVariables false

theorem own : ownKnob Try.prog.godebug = none := by kernel_rfl
theorem laidOut : laidOutB Try.prog = true := by kernel_rfl

/-- WHAT THE WALK IS TOLD OF A SLICE OF INTEGERS THAT CAME IN: it is nil; or it leads to a row of 'cap' cells, the numbers 'zs' (the first 'len' are its elements, the rest its spare room), each fitting its kind. -/
def IsRow (k : IntKind) (w : World) (a : Option Addr) (len cap : Nat) (zs : List Int) : Prop :=
  (a = none ∧ len = 0 ∧ cap = 0 ∧ zs = []) ∨
  ∃ x, a = some x ∧ len ≤ cap ∧ cap ≤ maxLen ∧ zs.length = cap ∧ (∀ i, i < zs.length → w.cell? (x.add i) = some (.int k (zs.getD i 0))) ∧ ∀ n ∈ zs, (Lit.int k n).wf = true

/-! ### STEP 1: THE WALK: the Go text returns true, AND WRITES NOTHING THAT WAS THERE: 'Below w.heap.size w w'' (Derived/Below.lean: '.refl', '.alloc', '.drew', '.setCell' at a new block, '.trans'). Open each 'IsRow' by 'rcases' AHEAD of 'go_enter'; part every test ahead of the walk. -/
set_option maxHeartbeats 4000000 in
theorem walk (a0 : Option Addr) (len0 cap0 : Nat) (z0 : List Int) (w : World) (w0 : IsRow .u8 w a0 len0 cap0 z0) :
    Calls Try.prog 3 #[.slice a0 len0 cap0] w fun e w' => e = .returned (.bool true) ∧ Below w.heap.size w w' := by
  by_cases hbig : len0 ≤ 1048576
  · exact calls_walk a0 len0 cap0 w (codeIn_of w0 hbig _ (Nat.le_refl _)) hbig
  · have hm : len0 ≤ maxLen := row_le w0
    clear w0
    go_enter Try.func3, Try.ntmps3
    go_wp2_with (go_at_call 4; refine (lwBig_yes _ _ _ (by omega) hm _).mono ?_; rintro e w' ⟨rfl, rfl⟩)
    go_ret
    exact ⟨rfl, Below.refl _ _⟩

/-! ### THE ROW's STEP: WRITTEN OUT: LEAVE IT -/
set_option maxRecDepth 100000 in
theorem lifted (os : Os) (started : os.Started) (H : Type) (enc : TypeId × Value → H) :
    ReturnsInHanded {} Try.checked os 3 .any (Rows.fnCallsSpec.pre6 enc Try.prog Try.f3 Rows.fnCallsRow.domain false) (Rows.fnCallsSpec.post enc Try.prog Try.f3 false true false false) := by
  refine returnsInHanded_of_change (C := Try.checked) own started (by kernel_rfl) Try.func3
    (ChangeSpec.witness6 (enc := enc) (C := Try.checked) false ⟨#[], #[.slice none 0 0], []⟩ 8 (by kernel_rfl) (by kernel_rfl) (by kernel_rfl) (by kernel_rfl)) ?_
  intro W base args ds gs before hval0 hW hcnd _
  have hval : ∀ (j : Nat) t v, Try.f3.params[j]? = some t → args[j]? = some v → Value.okWide Try.prog W .any base t v := hval0
  have hW' := hW
  obtain ⟨p, q, hA0, hV, rfl, hfz, hnd⟩ := hW
  have hA : DataW.TrodAll enc Try.prog W 0 (fun _ => true) true Try.f3.params.toList args.toList ds p := hA0
  rw [Try.params3] at hA hval
  obtain ⟨v0, vs0, d0, ds0, p0, q0, hargs, rfl, rfl, h0, r0⟩ := trodAll_cons hA
  obtain ⟨rfl, rfl, rfl⟩ := trodAll_nil r0
  obtain rfl : args = #[v0] := by cases args; simp_all
  obtain ⟨rfl, rfl⟩ := trodVars_none hV
  obtain ⟨a0, len0, cap0, rfl⟩ := okWide_slice Try.underlying22 (hval 0 22 v0 rfl rfl)
  have k0 := h0
  have lt0 : ∀ x ∈ p0, x.block < W.heap.size := by obtain ⟨m, hm⟩ := k0; exact DataW.trod_lt m _ _ _ hm
  obtain ⟨z0, w0⟩ : ∃ zs, IsRow .u8 W a0 len0 cap0 zs := by
    obtain ⟨fuel, hf⟩ := h0
    rcases open_ints Try.underlying22 Try.underlying5 (by kernel_rfl) hf with ⟨hcs, _⟩ | ⟨x, l, c, zs, hcs, _, hl, hm, hz, _, hcell, hwz⟩
    · simp [Value.cells] at hcs
      obtain ⟨rfl, rfl, rfl⟩ := hcs
      exact ⟨[], .inl ⟨rfl, rfl, rfl, rfl⟩⟩
    · simp [Value.cells] at hcs
      obtain ⟨rfl, rfl, rfl⟩ := hcs
      exact ⟨zs, .inr ⟨_, rfl, hl, hm, by simpa using hz, hcell, hwz⟩⟩
  clear hA0 hval0
  refine (walk a0 len0 cap0 z0 W w0).mono fun e W' ⟨he, bel⟩ => ?_
  subst he
  exact ⟨_, rfl, _, _, _, [], _, [], hW', trodAll_mk1 (shut_bool Try.underlying4 _), (trodAll_cons_mk (Below.trod laidOut (by kernel_rfl) (of_decide_eq_true (by kernel_rfl)) k0 bel lt0) trodAll_mk0), rfl, bel.frame _, fun h => by cases h⟩

theorem over : Rows.fnCallsRow.holds Try.pinned (OpenSpec.ofChange Rows.fnCallsSpec) :=
  OpenClaim.holds_of_wide 3 Try.f3 rfl rfl rfl rfl rfl rfl rfl ⟨rfl, rfl, rfl, rfl, rfl⟩ rfl rfl rfl rfl rfl (by kernel_rfl) Try.func3 (by kernel_rfl)
    (of_decide_eq_true (by kernel_rfl)) (by unfold Func.isWrapper; first | (rw [if_pos (by decide +kernel)]; kernel_rfl) | (rw [if_neg (by decide +kernel)]; exact ⟨rfl, rfl⟩))
    (fun os started H enc _ => lifted os started H enc)

/-- ████ THE STATEMENT ████ -/
theorem proved : Rows.FnCallsSaid := over
end Go.Proofs.Ytcjfaimhggckmaa.fnCalls

namespace Go.Proofs.Ytcjfaimhggckmaa
theorem fnCalls_holds : Rows.FnCallsSaid := fnCalls.proved
#print axioms fnCalls_holds
end Go.Proofs.Ytcjfaimhggckmaa
