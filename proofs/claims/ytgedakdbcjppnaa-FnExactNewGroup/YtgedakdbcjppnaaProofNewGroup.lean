/-
  For every house and every number of shafts NewGroup answers as the model does, changes nothing, and its answer owns its memory.
-/
import Derived.Test.YtgedakdbcjppnaaRows
import Derived.WalkKit
import Derived.ProofKit
import Derived.OpenShut
import Derived.ChangeOld
import Derived.Below
import Derived.Test.YtgedakdbcjppnaaNgS
import Derived.Test.YtgedakdbcjppnaaNgI
import Derived.Test.YtgedakdbcjppnaaGrpT
import Derived.Test.YtgedakdbcjppnaaFnd
namespace Go.Proofs.Ytgedakdbcjppnaa.fnExactNewGroup
open Go.ChangeShapes Go.WideShapes Go.ChangeAt Go.RowKit
set_option linter.unusedVariables false
set_option linter.unusedSimpArgs false

theorem own : ownKnob Try.prog.godebug = none := by kernel_rfl
theorem laidOut : laidOutB Try.prog = true := by kernel_rfl

set_option maxRecDepth 20000 in
set_option maxHeartbeats 32000000 in
theorem walk (a0 : Pl.Hs) (a1 : Int) (w0 : ∀ x ∈ [a0.fl, a0.gp, a0.ln, a0.rf, a0.sp, a0.pu, a0.br, a0.dr, a0.lv, a0.dO, a0.ld, a0.qu], (Lit.int .i64 x).wf = true) (w1 : (Lit.int .i64 a1).wf = true) (w : World) :
    Calls Try.prog 3 #[.agg #[.int .i64 a0.fl, .int .i64 a0.gp, .int .i64 a0.ln, .int .i64 a0.rf, .int .i64 a0.sp, .int .i64 a0.pu, .int .i64 a0.br, .int .i64 a0.dr, .int .i64 a0.lv, .int .i64 a0.dO, .int .i64 a0.ld, .int .i64 a0.qu], .int .i64 a1] w fun e w' => e = .returned (.bool true) ∧ Below w.heap.size w w' := by
  have F0 : Hid (Blk (w.alloc (.cells #[.int .i64 a0.fl, .int .i64 a0.gp, .int .i64 a0.ln, .int .i64 a0.rf, .int .i64 a0.sp, .int .i64 a0.pu, .int .i64 a0.br, .int .i64 a0.dr, .int .i64 a0.lv, .int .i64 a0.dO, .int .i64 a0.ld, .int .i64 a0.qu] 23)) w.heap.size [.int .i64 a0.fl, .int .i64 a0.gp, .int .i64 a0.ln, .int .i64 a0.rf, .int .i64 a0.sp, .int .i64 a0.pu, .int .i64 a0.br, .int .i64 a0.dr, .int .i64 a0.lv, .int .i64 a0.dO, .int .i64 a0.ld, .int .i64 a0.qu]) := Blk.at_ w #[.int .i64 a0.fl, .int .i64 a0.gp, .int .i64 a0.ln, .int .i64 a0.rf, .int .i64 a0.sp, .int .i64 a0.pu, .int .i64 a0.br, .int .i64 a0.dr, .int .i64 a0.lv, .int .i64 a0.dO, .int .i64 a0.ld, .int .i64 a0.qu] _ _ rfl
  have FB : Hid (Below w.heap.size w (w.alloc (.cells #[.int .i64 a0.fl, .int .i64 a0.gp, .int .i64 a0.ln, .int .i64 a0.rf, .int .i64 a0.sp, .int .i64 a0.pu, .int .i64 a0.br, .int .i64 a0.dr, .int .i64 a0.lv, .int .i64 a0.dO, .int .i64 a0.ld, .int .i64 a0.qu] 23))) := (Below.refl _ _).alloc (Nat.le_refl _) _
  obtain ⟨W0, hW0⟩ : ∃ W0, W0 = (w.alloc (.cells #[.int .i64 a0.fl, .int .i64 a0.gp, .int .i64 a0.ln, .int .i64 a0.rf, .int .i64 a0.sp, .int .i64 a0.pu, .int .i64 a0.br, .int .i64 a0.dr, .int .i64 a0.lv, .int .i64 a0.dO, .int .i64 a0.ld, .int .i64 a0.qu] 23)) := ⟨_, rfl⟩
  rw [← hW0] at F0 FB
  have HW0 : Hid (W0 = (w.alloc (.cells #[.int .i64 a0.fl, .int .i64 a0.gp, .int .i64 a0.ln, .int .i64 a0.rf, .int .i64 a0.sp, .int .i64 a0.pu, .int .i64 a0.br, .int .i64 a0.dr, .int .i64 a0.lv, .int .i64 a0.dO, .int .i64 a0.ld, .int .i64 a0.qu] 23))) := hW0
  clear hW0
  obtain ⟨kc, id, h, ds, nx, ps, tk, rc, hrd, hrp, CS, CI⟩ : ∃ (kc id : Int) (h : Pl.Hs) (ds : List Pl.Dk) (nx : Int) (ps : List Pl.Pe) (tk : Int) (rc : Bool), ds.length ≤ 1048576 ∧ ps.length ≤ 1048576 ∧ (∀ W : World, Calls Try.prog 4 #[.agg #[.int .i64 a0.fl, .int .i64 a0.gp, .int .i64 a0.ln, .int .i64 a0.rf, .int .i64 a0.sp, .int .i64 a0.pu, .int .i64 a0.br, .int .i64 a0.dr, .int .i64 a0.lv, .int .i64 a0.dO, .int .i64 a0.ld, .int .i64 a0.qu], .int .i64 a1] W (isGrp W kc id h ds nx ps tk rc)) ∧ (∀ W : World, Calls Try.prog 6 #[.agg #[.int .i64 a0.fl, .int .i64 a0.gp, .int .i64 a0.ln, .int .i64 a0.rf, .int .i64 a0.sp, .int .i64 a0.pu, .int .i64 a0.br, .int .i64 a0.dr, .int .i64 a0.lv, .int .i64 a0.dO, .int .i64 a0.ld, .int .i64 a0.qu], .int .i64 a1] W (isGrp W kc id h ds nx ps tk rc)) := by
    by_cases hf : a0.fault = 0
    · cases hn : Pl.inB a1 1 3
      · exact ⟨_, _, _, _, _, _, _, _, by simp, by simp, fun W => specNewGroup_out a0 a1 hf hn W, fun W => implNewGroup_out a0 a1 hf hn W⟩
      · have hb := Pl.inB_iff.1 hn
        obtain ⟨n, rfl⟩ : ∃ n : Nat, a1 = n := ⟨a1.toNat, by omega⟩
        exact ⟨_, _, _, _, _, _, _, _, by simp; omega, by simp, fun W => specNewGroup_yes a0 n hf (by omega) (by omega) W, fun W => implNewGroup_yes a0 n hf (by omega) (by omega) W⟩
    · exact ⟨_, _, _, _, _, _, _, _, by simp, by simp, fun W => specNewGroup_no a0 a1 hf W, fun W => implNewGroup_no a0 a1 hf W⟩
  go_enter Try.func3, Try.ntmps3
  go_upto_region 1 with fail
  rw [← HW0.out]
  clear HW0
  go_upto_region 2 with (first | (refine load_blk 23 _ Try.underlying23 (by kernel_rfl) F0.out rfl rfl rfl ?_) | (go_at_call 5; refine (toHouse_any a0 _).mono ?_; rintro e w1 ⟨rfl, hb⟩; have F0 : Hid (Blk w1 w.heap.size [.int .i64 a0.fl, .int .i64 a0.gp, .int .i64 a0.ln, .int .i64 a0.rf, .int .i64 a0.sp, .int .i64 a0.pu, .int .i64 a0.br, .int .i64 a0.dr, .int .i64 a0.lv, .int .i64 a0.dO, .int .i64 a0.ld, .int .i64 a0.qu]) := F0.out.below hb F0.out.lt; have FB : Hid (Below w.heap.size w w1) := FB.out.trans (hb.mono FB.out.size); clear hb) | (go_at_call 4; refine (CS _).mono ?_; rintro e v1 ⟨da1, dc1, pa1, pc1, rfl, hd_, hp_, ne1_, hb⟩; have NE1 : Hid (∀ j, (Value.slice da1 ds.length dc1).ownBlock = some j → (Value.slice pa1 ps.length pc1).ownBlock ≠ some j) := ne1_; have D1 : Hid (OwnD v1 w.heap.size (.slice da1 ds.length dc1) ds) := hd_.base FB.out.size; have P1 : Hid (Own v1 w.heap.size (.slice pa1 ps.length pc1) ps) := Own.base' hp_ FB.out.size; have F0 : Hid (Blk v1 w.heap.size [.int .i64 a0.fl, .int .i64 a0.gp, .int .i64 a0.ln, .int .i64 a0.rf, .int .i64 a0.sp, .int .i64 a0.pu, .int .i64 a0.br, .int .i64 a0.dr, .int .i64 a0.lv, .int .i64 a0.dO, .int .i64 a0.ld, .int .i64 a0.qu]) := F0.out.below hb F0.out.lt; have FB : Hid (Below w.heap.size w v1) := FB.out.trans (hb.mono FB.out.size); clear hb hd_ hp_ ne1_) | (refine store_new (rvs kc id h (.slice da1 ds.length dc1) nx (.slice pa1 ps.length pc1) tk rc) 32 _ _ (by kernel_rfl) (by kernel_rfl) (by kernel_rfl) rfl rfl rfl rfl ?_))
  obtain ⟨br1, hbr⟩ : ∃ b, b = v1.heap.size := ⟨_, rfl⟩
  obtain ⟨W1, hW⟩ : ∃ W, W = v1.alloc (.cells (rvs kc id h (.slice da1 ds.length dc1) nx (.slice pa1 ps.length pc1) tk rc).toArray 32) := ⟨_, rfl⟩
  have od1 : Hid (∀ k, (Value.slice da1 ds.length dc1).ownBlock = some k → w.heap.size ≤ k ∧ k < br1) := fun k hk => by rw [hbr]; exact D1.out.lt k hk
  have op1 : Hid (∀ k, (Value.slice pa1 ps.length pc1).ownBlock = some k → w.heap.size ≤ k ∧ k < br1) := fun k hk => by rw [hbr]; exact P1.out.lt k hk
  have lt_F0_1 := F0.out.lt
  rw [← hbr] at lt_F0_1
  have lt_b_1 := FB.out.size
  rw [← hbr] at lt_b_1
  have F0 : Hid (Blk W1 w.heap.size [.int .i64 a0.fl, .int .i64 a0.gp, .int .i64 a0.ln, .int .i64 a0.rf, .int .i64 a0.sp, .int .i64 a0.pu, .int .i64 a0.br, .int .i64 a0.dr, .int .i64 a0.lv, .int .i64 a0.dO, .int .i64 a0.ld, .int .i64 a0.qu]) := by rw [hW]; exact F0.out.alloc _
  have FB : Hid (Below w.heap.size w W1) := by rw [hW]; exact FB.out.alloc FB.out.size _
  have D1 : Hid (OwnD W1 w.heap.size (.slice da1 ds.length dc1) (ds)) := by rw [hW]; exact D1.out.alloc _
  have P1 : Hid (Own W1 w.heap.size (.slice pa1 ps.length pc1) (ps)) := by rw [hW]; exact P1.out.alloc _
  have R1 : Hid (Blk W1 br1 (rvs kc id h (.slice da1 ds.length dc1) nx (.slice pa1 ps.length pc1) tk rc)) := by rw [hW]; exact Blk.at_ v1 (rvs kc id h (.slice da1 ds.length dc1) nx (.slice pa1 ps.length pc1) tk rc).toArray _ _ hbr
  rw [← hW, ← hbr]
  clear hW hbr
  go_upto_region 3 with (first | (refine load_blk 23 _ Try.underlying23 (by kernel_rfl) F0.out rfl rfl rfl ?_) | (go_at_call 5; refine (toHouse_any a0 _).mono ?_; rintro e w2 ⟨rfl, hb⟩; have F0 : Hid (Blk w2 w.heap.size [.int .i64 a0.fl, .int .i64 a0.gp, .int .i64 a0.ln, .int .i64 a0.rf, .int .i64 a0.sp, .int .i64 a0.pu, .int .i64 a0.br, .int .i64 a0.dr, .int .i64 a0.lv, .int .i64 a0.dO, .int .i64 a0.ld, .int .i64 a0.qu]) := F0.out.below hb F0.out.lt; have R1 : Hid (Blk w2 br1 (rvs kc id h (.slice da1 ds.length dc1) nx (.slice pa1 ps.length pc1) tk rc)) := R1.out.below hb R1.out.lt; have D1 : Hid (OwnD w2 w.heap.size (.slice da1 ds.length dc1) (ds)) := D1.out.below hb (fun k hk => (D1.out.lt k hk).2); have P1 : Hid (Own w2 w.heap.size (.slice pa1 ps.length pc1) (ps)) := P1.out.below hb (fun k hk => (P1.out.lt k hk).2); have FB : Hid (Below w.heap.size w w2) := FB.out.trans (hb.mono FB.out.size); obtain ⟨B2, hB2⟩ : ∃ B2, B2 = br1 + 1 := ⟨_, rfl⟩; have hB : B2 ≤ w2.heap.size := (by have := R1.out.lt; omega); clear hb) | (go_at_call 6; refine (CI _).mono ?_; rintro e v2 ⟨da2, dc2, pa2, pc2, rfl, hd_, hp_, ne2_, hb⟩; have NE2 : Hid (∀ j, (Value.slice da2 ds.length dc2).ownBlock = some j → (Value.slice pa2 ps.length pc2).ownBlock ≠ some j) := ne2_; have D2 : Hid (OwnD v2 B2 (.slice da2 ds.length dc2) ds) := hd_.base hB; have P2 : Hid (Own v2 B2 (.slice pa2 ps.length pc2) ps) := Own.base' hp_ hB; have F0 : Hid (Blk v2 w.heap.size [.int .i64 a0.fl, .int .i64 a0.gp, .int .i64 a0.ln, .int .i64 a0.rf, .int .i64 a0.sp, .int .i64 a0.pu, .int .i64 a0.br, .int .i64 a0.dr, .int .i64 a0.lv, .int .i64 a0.dO, .int .i64 a0.ld, .int .i64 a0.qu]) := F0.out.below hb F0.out.lt; have R1 : Hid (Blk v2 br1 (rvs kc id h (.slice da1 ds.length dc1) nx (.slice pa1 ps.length pc1) tk rc)) := R1.out.below hb R1.out.lt; have D1 : Hid (OwnD v2 w.heap.size (.slice da1 ds.length dc1) (ds)) := D1.out.below hb (fun k hk => (D1.out.lt k hk).2); have P1 : Hid (Own v2 w.heap.size (.slice pa1 ps.length pc1) (ps)) := P1.out.below hb (fun k hk => (P1.out.lt k hk).2); have FB : Hid (Below w.heap.size w v2) := FB.out.trans (hb.mono FB.out.size); clear hb hd_ hp_ ne2_) | (refine store_new (rvs kc id h (.slice da2 ds.length dc2) nx (.slice pa2 ps.length pc2) tk rc) 32 _ _ (by kernel_rfl) (by kernel_rfl) (by kernel_rfl) rfl rfl rfl rfl ?_))
  obtain ⟨br2, hbr⟩ : ∃ b, b = v2.heap.size := ⟨_, rfl⟩
  obtain ⟨W2, hW⟩ : ∃ W, W = v2.alloc (.cells (rvs kc id h (.slice da2 ds.length dc2) nx (.slice pa2 ps.length pc2) tk rc).toArray 32) := ⟨_, rfl⟩
  have od2 : Hid (∀ k, (Value.slice da2 ds.length dc2).ownBlock = some k → B2 ≤ k ∧ k < br2) := fun k hk => by rw [hbr]; exact D2.out.lt k hk
  have op2 : Hid (∀ k, (Value.slice pa2 ps.length pc2).ownBlock = some k → B2 ≤ k ∧ k < br2) := fun k hk => by rw [hbr]; exact P2.out.lt k hk
  have lt_F0_2 := F0.out.lt
  rw [← hbr] at lt_F0_2
  have lt_R1_2 := R1.out.lt
  rw [← hbr] at lt_R1_2
  have lt_b_2 := FB.out.size
  rw [← hbr] at lt_b_2
  have F0 : Hid (Blk W2 w.heap.size [.int .i64 a0.fl, .int .i64 a0.gp, .int .i64 a0.ln, .int .i64 a0.rf, .int .i64 a0.sp, .int .i64 a0.pu, .int .i64 a0.br, .int .i64 a0.dr, .int .i64 a0.lv, .int .i64 a0.dO, .int .i64 a0.ld, .int .i64 a0.qu]) := by rw [hW]; exact F0.out.alloc _
  have R1 : Hid (Blk W2 br1 (rvs kc id h (.slice da1 ds.length dc1) nx (.slice pa1 ps.length pc1) tk rc)) := by rw [hW]; exact R1.out.alloc _
  have D1 : Hid (OwnD W2 w.heap.size (.slice da1 ds.length dc1) (ds)) := by rw [hW]; exact D1.out.alloc _
  have P1 : Hid (Own W2 w.heap.size (.slice pa1 ps.length pc1) (ps)) := by rw [hW]; exact P1.out.alloc _
  have FB : Hid (Below w.heap.size w W2) := by rw [hW]; exact FB.out.alloc FB.out.size _
  have D2 : Hid (OwnD W2 B2 (.slice da2 ds.length dc2) (ds)) := by rw [hW]; exact D2.out.alloc _
  have P2 : Hid (Own W2 B2 (.slice pa2 ps.length pc2) (ps)) := by rw [hW]; exact P2.out.alloc _
  have R2 : Hid (Blk W2 br2 (rvs kc id h (.slice da2 ds.length dc2) nx (.slice pa2 ps.length pc2) tk rc)) := by rw [hW]; exact Blk.at_ v2 (rvs kc id h (.slice da2 ds.length dc2) nx (.slice pa2 ps.length pc2) tk rc).toArray _ _ hbr
  rw [← hW, ← hbr]
  clear hW hbr
  have q1 : ¬ ((1 : Int) + 13 * (ds.length : Int) + 7 * (ps.length : Int) < 0) := by omega
  go_upto_region 13 with (first | (refine load_blk 32 _ Try.underlying32 (by kernel_rfl) R2.out rfl rfl rfl ?_) | (refine load_blk 32 _ Try.underlying32 (by kernel_rfl) R1.out rfl rfl rfl ?_) | (go_at_call 7; refine (eqGroupResult_same kc id h ds da2 da1 dc2 dc1 nx ps pa2 pa1 pc2 pc1 tk rc hrd hrp _ D2.out.din D1.out.din P2.out.din P1.out.din).mono ?_; rintro e w3 ⟨rfl, hb⟩; have F0 : Hid (Blk w3 w.heap.size [.int .i64 a0.fl, .int .i64 a0.gp, .int .i64 a0.ln, .int .i64 a0.rf, .int .i64 a0.sp, .int .i64 a0.pu, .int .i64 a0.br, .int .i64 a0.dr, .int .i64 a0.lv, .int .i64 a0.dO, .int .i64 a0.ld, .int .i64 a0.qu]) := F0.out.below hb F0.out.lt; have R1 : Hid (Blk w3 br1 (rvs kc id h (.slice da1 ds.length dc1) nx (.slice pa1 ps.length pc1) tk rc)) := R1.out.below hb R1.out.lt; have D1 : Hid (OwnD w3 w.heap.size (.slice da1 ds.length dc1) (ds)) := D1.out.below hb (fun k hk => (D1.out.lt k hk).2); have P1 : Hid (Own w3 w.heap.size (.slice pa1 ps.length pc1) (ps)) := P1.out.below hb (fun k hk => (P1.out.lt k hk).2); have R2 : Hid (Blk w3 br2 (rvs kc id h (.slice da2 ds.length dc2) nx (.slice pa2 ps.length pc2) tk rc)) := R2.out.below hb R2.out.lt; have D2 : Hid (OwnD w3 B2 (.slice da2 ds.length dc2) (ds)) := D2.out.below hb (fun k hk => (D2.out.lt k hk).2); have P2 : Hid (Own w3 B2 (.slice pa2 ps.length pc2) (ps)) := P2.out.below hb (fun k hk => (P2.out.lt k hk).2); have FB : Hid (Below w.heap.size w w3) := FB.out.trans (hb.mono FB.out.size); clear hb) | (go_at_call 8; refine (markGroupResult_any B2 kc id h (.slice da2 ds.length dc2) nx (.slice pa2 ps.length pc2) tk rc ds ps 1 (by omega) (by omega) hrd hrp _ D2.out P2.out NE2.out).mono ?_; rintro e w4 ⟨rfl, hd_, hp_, ht⟩; have F0 : Hid (Blk w4 w.heap.size [.int .i64 a0.fl, .int .i64 a0.gp, .int .i64 a0.ln, .int .i64 a0.rf, .int .i64 a0.sp, .int .i64 a0.pu, .int .i64 a0.br, .int .i64 a0.dr, .int .i64 a0.lv, .int .i64 a0.dO, .int .i64 a0.ld, .int .i64 a0.qu]) := F0.out.turn ht (fun e => by have := (od2.out _ e).1; omega) (fun e => by have := (op2.out _ e).1; omega); have R1 : Hid (Blk w4 br1 (rvs kc id h (.slice da1 ds.length dc1) nx (.slice pa1 ps.length pc1) tk rc)) := R1.out.turn ht (fun e => by have := (od2.out _ e).1; omega) (fun e => by have := (op2.out _ e).1; omega); have D1 : Hid (OwnD w4 w.heap.size (.slice da1 ds.length dc1) (ds)) := D1.out.turn ht (fun k hk e => by have a := (od2.out _ e).1; have b := (od1.out k hk).2; omega) (fun k hk e => by have a := (op2.out _ e).1; have b := (od1.out k hk).2; omega); have P1 : Hid (Own w4 w.heap.size (.slice pa1 ps.length pc1) (ps)) := P1.out.turn ht (fun k hk e => by have a := (od2.out _ e).1; have b := (op1.out k hk).2; omega) (fun k hk e => by have a := (op2.out _ e).1; have b := (op1.out k hk).2; omega); have R2 : Hid (Blk w4 br2 (rvs kc id h (.slice da2 ds.length dc2) nx (.slice pa2 ps.length pc2) tk rc)) := R2.out.turn ht (fun e => by have := (od2.out _ e).2; omega) (fun e => by have := (op2.out _ e).2; omega); have FB : Hid (Below w.heap.size w w4) := ht.below' FB.out (fun j hj => by have := (od2.out j hj).1; omega) (fun j hj => by have := (op2.out j hj).1; omega) FB.out.size; have D2 : Hid (OwnD w4 B2 (.slice da2 ds.length dc2) ((markLD 1 ds.length))) := hd_; have P2 : Hid (Own w4 B2 (.slice pa2 ps.length pc2) ((markL (1 + 13 * ds.length) ps.length))) := hp_; clear ht hd_ hp_) | (go_at_call 9; refine (heldGroupResult_any B2 kc id h (.slice da2 ds.length dc2) nx (.slice pa2 ps.length pc2) tk rc ds.length ps.length 1 (by omega) (by omega) hrd hrp _ D2.out P2.out).mono ?_; rintro e w5 ⟨rfl, hb⟩; have F0 : Hid (Blk w5 w.heap.size [.int .i64 a0.fl, .int .i64 a0.gp, .int .i64 a0.ln, .int .i64 a0.rf, .int .i64 a0.sp, .int .i64 a0.pu, .int .i64 a0.br, .int .i64 a0.dr, .int .i64 a0.lv, .int .i64 a0.dO, .int .i64 a0.ld, .int .i64 a0.qu]) := F0.out.below hb F0.out.lt; have R1 : Hid (Blk w5 br1 (rvs kc id h (.slice da1 ds.length dc1) nx (.slice pa1 ps.length pc1) tk rc)) := R1.out.below hb R1.out.lt; have D1 : Hid (OwnD w5 w.heap.size (.slice da1 ds.length dc1) (ds)) := D1.out.below hb (fun k hk => (D1.out.lt k hk).2); have P1 : Hid (Own w5 w.heap.size (.slice pa1 ps.length pc1) (ps)) := P1.out.below hb (fun k hk => (P1.out.lt k hk).2); have R2 : Hid (Blk w5 br2 (rvs kc id h (.slice da2 ds.length dc2) nx (.slice pa2 ps.length pc2) tk rc)) := R2.out.below hb R2.out.lt; have D2 : Hid (OwnD w5 B2 (.slice da2 ds.length dc2) ((markLD 1 ds.length))) := D2.out.below hb (fun k hk => (D2.out.lt k hk).2); have P2 : Hid (Own w5 B2 (.slice pa2 ps.length pc2) ((markL (1 + 13 * ds.length) ps.length))) := P2.out.below hb (fun k hk => (P2.out.lt k hk).2); have FB : Hid (Below w.heap.size w w5) := FB.out.trans (hb.mono FB.out.size); clear hb))
  go_upto_region 14 with (first | (refine load_blk 23 _ Try.underlying23 (by kernel_rfl) F0.out rfl rfl rfl ?_) | (go_at_call 5; refine (toHouse_any a0 _).mono ?_; rintro e w6 ⟨rfl, hb⟩; have F0 : Hid (Blk w6 w.heap.size [.int .i64 a0.fl, .int .i64 a0.gp, .int .i64 a0.ln, .int .i64 a0.rf, .int .i64 a0.sp, .int .i64 a0.pu, .int .i64 a0.br, .int .i64 a0.dr, .int .i64 a0.lv, .int .i64 a0.dO, .int .i64 a0.ld, .int .i64 a0.qu]) := F0.out.below hb F0.out.lt; have R1 : Hid (Blk w6 br1 (rvs kc id h (.slice da1 ds.length dc1) nx (.slice pa1 ps.length pc1) tk rc)) := R1.out.below hb R1.out.lt; have D1 : Hid (OwnD w6 w.heap.size (.slice da1 ds.length dc1) (ds)) := D1.out.below hb (fun k hk => (D1.out.lt k hk).2); have P1 : Hid (Own w6 w.heap.size (.slice pa1 ps.length pc1) (ps)) := P1.out.below hb (fun k hk => (P1.out.lt k hk).2); have R2 : Hid (Blk w6 br2 (rvs kc id h (.slice da2 ds.length dc2) nx (.slice pa2 ps.length pc2) tk rc)) := R2.out.below hb R2.out.lt; have D2 : Hid (OwnD w6 B2 (.slice da2 ds.length dc2) ((markLD 1 ds.length))) := D2.out.below hb (fun k hk => (D2.out.lt k hk).2); have P2 : Hid (Own w6 B2 (.slice pa2 ps.length pc2) ((markL (1 + 13 * ds.length) ps.length))) := P2.out.below hb (fun k hk => (P2.out.lt k hk).2); have FB : Hid (Below w.heap.size w w6) := FB.out.trans (hb.mono FB.out.size); clear hb) | (go_at_call 6; refine (CI _).mono ?_; rintro e v3 ⟨da3, dc3, pa3, pc3, rfl, hd_, hp_, ne3_, hb⟩; have NE3 : Hid (∀ j, (Value.slice da3 ds.length dc3).ownBlock = some j → (Value.slice pa3 ps.length pc3).ownBlock ≠ some j) := ne3_; have D3 : Hid (OwnD v3 w.heap.size (.slice da3 ds.length dc3) ds) := hd_.base FB.out.size; have P3 : Hid (Own v3 w.heap.size (.slice pa3 ps.length pc3) ps) := Own.base' hp_ FB.out.size; have F0 : Hid (Blk v3 w.heap.size [.int .i64 a0.fl, .int .i64 a0.gp, .int .i64 a0.ln, .int .i64 a0.rf, .int .i64 a0.sp, .int .i64 a0.pu, .int .i64 a0.br, .int .i64 a0.dr, .int .i64 a0.lv, .int .i64 a0.dO, .int .i64 a0.ld, .int .i64 a0.qu]) := F0.out.below hb F0.out.lt; have R1 : Hid (Blk v3 br1 (rvs kc id h (.slice da1 ds.length dc1) nx (.slice pa1 ps.length pc1) tk rc)) := R1.out.below hb R1.out.lt; have D1 : Hid (OwnD v3 w.heap.size (.slice da1 ds.length dc1) (ds)) := D1.out.below hb (fun k hk => (D1.out.lt k hk).2); have P1 : Hid (Own v3 w.heap.size (.slice pa1 ps.length pc1) (ps)) := P1.out.below hb (fun k hk => (P1.out.lt k hk).2); have R2 : Hid (Blk v3 br2 (rvs kc id h (.slice da2 ds.length dc2) nx (.slice pa2 ps.length pc2) tk rc)) := R2.out.below hb R2.out.lt; have D2 : Hid (OwnD v3 B2 (.slice da2 ds.length dc2) ((markLD 1 ds.length))) := D2.out.below hb (fun k hk => (D2.out.lt k hk).2); have P2 : Hid (Own v3 B2 (.slice pa2 ps.length pc2) ((markL (1 + 13 * ds.length) ps.length))) := P2.out.below hb (fun k hk => (P2.out.lt k hk).2); have FB : Hid (Below w.heap.size w v3) := FB.out.trans (hb.mono FB.out.size); clear hb hd_ hp_ ne3_) | (refine store_new (rvs kc id h (.slice da3 ds.length dc3) nx (.slice pa3 ps.length pc3) tk rc) 32 _ _ (by kernel_rfl) (by kernel_rfl) (by kernel_rfl) rfl rfl rfl rfl ?_))
  obtain ⟨br3, hbr⟩ : ∃ b, b = v3.heap.size := ⟨_, rfl⟩
  obtain ⟨W3, hW⟩ : ∃ W, W = v3.alloc (.cells (rvs kc id h (.slice da3 ds.length dc3) nx (.slice pa3 ps.length pc3) tk rc).toArray 32) := ⟨_, rfl⟩
  have od3 : Hid (∀ k, (Value.slice da3 ds.length dc3).ownBlock = some k → w.heap.size ≤ k ∧ k < br3) := fun k hk => by rw [hbr]; exact D3.out.lt k hk
  have op3 : Hid (∀ k, (Value.slice pa3 ps.length pc3).ownBlock = some k → w.heap.size ≤ k ∧ k < br3) := fun k hk => by rw [hbr]; exact P3.out.lt k hk
  have lt_F0_3 := F0.out.lt
  rw [← hbr] at lt_F0_3
  have lt_R1_3 := R1.out.lt
  rw [← hbr] at lt_R1_3
  have lt_R2_3 := R2.out.lt
  rw [← hbr] at lt_R2_3
  have lt_b_3 := FB.out.size
  rw [← hbr] at lt_b_3
  have F0 : Hid (Blk W3 w.heap.size [.int .i64 a0.fl, .int .i64 a0.gp, .int .i64 a0.ln, .int .i64 a0.rf, .int .i64 a0.sp, .int .i64 a0.pu, .int .i64 a0.br, .int .i64 a0.dr, .int .i64 a0.lv, .int .i64 a0.dO, .int .i64 a0.ld, .int .i64 a0.qu]) := by rw [hW]; exact F0.out.alloc _
  have R1 : Hid (Blk W3 br1 (rvs kc id h (.slice da1 ds.length dc1) nx (.slice pa1 ps.length pc1) tk rc)) := by rw [hW]; exact R1.out.alloc _
  have D1 : Hid (OwnD W3 w.heap.size (.slice da1 ds.length dc1) (ds)) := by rw [hW]; exact D1.out.alloc _
  have P1 : Hid (Own W3 w.heap.size (.slice pa1 ps.length pc1) (ps)) := by rw [hW]; exact P1.out.alloc _
  have R2 : Hid (Blk W3 br2 (rvs kc id h (.slice da2 ds.length dc2) nx (.slice pa2 ps.length pc2) tk rc)) := by rw [hW]; exact R2.out.alloc _
  have D2 : Hid (OwnD W3 B2 (.slice da2 ds.length dc2) ((markLD 1 ds.length))) := by rw [hW]; exact D2.out.alloc _
  have P2 : Hid (Own W3 B2 (.slice pa2 ps.length pc2) ((markL (1 + 13 * ds.length) ps.length))) := by rw [hW]; exact P2.out.alloc _
  have FB : Hid (Below w.heap.size w W3) := by rw [hW]; exact FB.out.alloc FB.out.size _
  have D3 : Hid (OwnD W3 w.heap.size (.slice da3 ds.length dc3) (ds)) := by rw [hW]; exact D3.out.alloc _
  have P3 : Hid (Own W3 w.heap.size (.slice pa3 ps.length pc3) (ps)) := by rw [hW]; exact P3.out.alloc _
  have R3 : Hid (Blk W3 br3 (rvs kc id h (.slice da3 ds.length dc3) nx (.slice pa3 ps.length pc3) tk rc)) := by rw [hW]; exact Blk.at_ v3 (rvs kc id h (.slice da3 ds.length dc3) nx (.slice pa3 ps.length pc3) tk rc).toArray _ _ hbr
  rw [← hW, ← hbr]
  clear hW hbr
  go_wp2_with (first | (refine load_blk 32 _ Try.underlying32 (by kernel_rfl) R3.out rfl rfl rfl ?_) | (refine load_blk 32 _ Try.underlying32 (by kernel_rfl) R2.out rfl rfl rfl ?_) | (refine load_blk 32 _ Try.underlying32 (by kernel_rfl) R1.out rfl rfl rfl ?_) | (go_at_call 7; refine (eqGroupResult_same kc id h ds da3 da1 dc3 dc1 nx ps pa3 pa1 pc3 pc1 tk rc hrd hrp _ D3.out.din D1.out.din P3.out.din P1.out.din).mono ?_; rintro e w7 ⟨rfl, hb⟩; have F0 : Hid (Blk w7 w.heap.size [.int .i64 a0.fl, .int .i64 a0.gp, .int .i64 a0.ln, .int .i64 a0.rf, .int .i64 a0.sp, .int .i64 a0.pu, .int .i64 a0.br, .int .i64 a0.dr, .int .i64 a0.lv, .int .i64 a0.dO, .int .i64 a0.ld, .int .i64 a0.qu]) := F0.out.below hb F0.out.lt; have R1 : Hid (Blk w7 br1 (rvs kc id h (.slice da1 ds.length dc1) nx (.slice pa1 ps.length pc1) tk rc)) := R1.out.below hb R1.out.lt; have D1 : Hid (OwnD w7 w.heap.size (.slice da1 ds.length dc1) (ds)) := D1.out.below hb (fun k hk => (D1.out.lt k hk).2); have P1 : Hid (Own w7 w.heap.size (.slice pa1 ps.length pc1) (ps)) := P1.out.below hb (fun k hk => (P1.out.lt k hk).2); have R2 : Hid (Blk w7 br2 (rvs kc id h (.slice da2 ds.length dc2) nx (.slice pa2 ps.length pc2) tk rc)) := R2.out.below hb R2.out.lt; have D2 : Hid (OwnD w7 B2 (.slice da2 ds.length dc2) ((markLD 1 ds.length))) := D2.out.below hb (fun k hk => (D2.out.lt k hk).2); have P2 : Hid (Own w7 B2 (.slice pa2 ps.length pc2) ((markL (1 + 13 * ds.length) ps.length))) := P2.out.below hb (fun k hk => (P2.out.lt k hk).2); have FB : Hid (Below w.heap.size w w7) := FB.out.trans (hb.mono FB.out.size); clear hb) | (go_at_call 9; refine (heldGroupResult_any B2 kc id h (.slice da2 ds.length dc2) nx (.slice pa2 ps.length pc2) tk rc ds.length ps.length 1 (by omega) (by omega) hrd hrp _ D2.out P2.out).mono ?_; rintro e w8 ⟨rfl, hb⟩; have FB : Hid (Below w.heap.size w w8) := FB.out.trans (hb.mono FB.out.size); clear hb))
  go_ret
  exact ⟨by simp, FB.out⟩

set_option maxRecDepth 100000 in
theorem lifted (os : Os) (started : os.Started) (H : Type) (enc : TypeId × Value → H) :
    ReturnsInHanded {} Try.checked os 3 .any (Rows.fnExactNewGroupSpec.pre6 enc Try.prog Try.f3 Rows.fnExactNewGroupRow.domain false) (Rows.fnExactNewGroupSpec.post enc Try.prog Try.f3 false true false false) := by
  refine returnsInHanded_of_change (C := Try.checked) own started (by kernel_rfl) Try.func3
    (ChangeSpec.witness6 (enc := enc) (C := Try.checked) false ⟨#[], #[.agg #[.int .i64 0, .int .i64 0, .int .i64 0, .int .i64 0, .int .i64 0, .int .i64 0, .int .i64 0, .int .i64 0, .int .i64 0, .int .i64 0, .int .i64 0, .int .i64 0], .int .i64 0], []⟩ 8 (by kernel_rfl) (by kernel_rfl) (by kernel_rfl) (by kernel_rfl)) ?_
  intro W base args ds gs before hval0 hW hcnd _
  have hval : ∀ (j : Nat) t v, Try.f3.params[j]? = some t → args[j]? = some v → Value.okWide Try.prog W .any base t v := hval0
  have hW' := hW
  obtain ⟨p, q, hA0, hV, rfl, hfz, hnd⟩ := hW
  have hA : DataW.TrodAll enc Try.prog W 0 (fun _ => true) true Try.f3.params.toList args.toList ds p := hA0
  rw [Try.params3] at hA hval
  obtain ⟨v0, vs0, d0, ds0, p0, q0, hargs, rfl, rfl, h0, r0⟩ := trodAll_cons hA
  obtain ⟨v1, vs1, d1, ds1, p1, q1, rfl, rfl, rfl, h1, r1⟩ := trodAll_cons r0
  obtain ⟨rfl, rfl, rfl⟩ := trodAll_nil r1
  obtain rfl : args = #[v0, v1] := by cases args; simp_all
  obtain ⟨rfl, rfl⟩ := trodVars_none hV
  have k0 := h0
  have lt0 : ∀ x ∈ p0, x.block < W.heap.size := by obtain ⟨m, hm⟩ := k0; exact DataW.trod_lt m _ _ _ hm
  obtain ⟨xs0, hl0, rfl, w0⟩ := open_i64s Try.underlying23 Try.underlying2 (by kernel_rfl) (by kernel_rfl) (by kernel_rfl) (hval 0 23 v0 rfl rfl) h0
  obtain ⟨x0_0, x0_1, x0_2, x0_3, x0_4, x0_5, x0_6, x0_7, x0_8, x0_9, x0_10, x0_11, rfl⟩ := list12 hl0
  have k1 := h1
  have lt1 : ∀ x ∈ p1, x.block < W.heap.size := by obtain ⟨m, hm⟩ := k1; exact DataW.trod_lt m _ _ _ hm
  obtain ⟨a1, rfl, _, _, w1⟩ := open_int Try.underlying2 (hval 1 2 v1 rfl rfl) h1
  clear hA0 hval0
  refine (walk ⟨x0_0, x0_1, x0_2, x0_3, x0_4, x0_5, x0_6, x0_7, x0_8, x0_9, x0_10, x0_11⟩ a1 w0 w1 W).mono fun e W' ⟨he, bel⟩ => ?_
  subst he
  exact ⟨_, rfl, _, _, _, [], _, [], hW', trodAll_mk1 (shut_bool Try.underlying4 _), (trodAll_cons_mk (Below.trod laidOut (by kernel_rfl) (of_decide_eq_true (by kernel_rfl)) k0 bel lt0) (trodAll_cons_mk (Below.trod laidOut (by kernel_rfl) (of_decide_eq_true (by kernel_rfl)) k1 bel lt1) trodAll_mk0)), rfl, bel.frame _, fun h => by cases h⟩

theorem over : Rows.fnExactNewGroupRow.holds Try.pinned (OpenSpec.ofChange Rows.fnExactNewGroupSpec) :=
  OpenClaim.holds_of_wide 3 Try.f3 rfl rfl rfl rfl rfl rfl rfl ⟨rfl, rfl, rfl, rfl, rfl⟩ rfl rfl rfl rfl rfl (by kernel_rfl) Try.func3 (by kernel_rfl)
    (of_decide_eq_true (by kernel_rfl)) (by unfold Func.isWrapper; first | (rw [if_pos (by decide +kernel)]; kernel_rfl) | (rw [if_neg (by decide +kernel)]; exact ⟨rfl, rfl⟩))
    (fun os started H enc _ => lifted os started H enc)

theorem proved : Rows.FnExactNewGroupSaid := over
end Go.Proofs.Ytgedakdbcjppnaa.fnExactNewGroup

namespace Go.Proofs.Ytgedakdbcjppnaa
theorem fnExactNewGroup_holds : Rows.FnExactNewGroupSaid := fnExactNewGroup.proved
#print axioms fnExactNewGroup_holds
end Go.Proofs.Ytgedakdbcjppnaa
