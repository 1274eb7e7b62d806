/-
 Both tick a group alike.
-/
import Derived.Test.YteimojoicfjdjaaGreatZ33
import Derived.Test.YteimojoicfjdjaaGreatZ51
import Derived.Test.YteimojoicfjdjaaGreatZ55
import Derived.Test.YteimojoicfjdjaaGreatRows
import Derived.WalkKit
import Derived.ProofKit
import Derived.OpenShut
import Derived.ChangeOld
import Derived.Below
namespace Go.Proofs.YteimojoicfjdjaaGreat.fnExactTickGroup
open Go.ChangeShapes Go.WideShapes Go.ChangeAt Go.RowKit
set_option linter.unusedVariables false
set_option linter.unusedSimpArgs false

theorem own : ownKnob Tryz.prog.godebug = none := by kernel_rfl
theorem laidOut : laidOutB Tryz.prog = true := by kernel_rfl

set_option maxRecDepth 20000 in
set_option maxHeartbeats 32000000 in
theorem walk (a0 : Pl.Gr) (a1 : Int) (a2 : Int) (d0 : Option Addr) (e0 : Nat) (p0 : Option Addr) (n0 : Nat) (w0 : a0.ds.length ≤ maxLen) (l0 : a0.led.ps.length ≤ maxLen) (w1 : (Lit.int .i64 a1).wf = true) (w2 : (Lit.int .i64 a2).wf = true) (w : World) (q0 : DIn w w.heap.size d0 a0.ds) (r0 : PIn w w.heap.size p0 a0.led.ps) :
  Calls Tryz.prog 3 #[.agg #[.int .i64 a0.h.fl, .int .i64 a0.h.gp, .int .i64 a0.h.ln, .int .i64 a0.h.rf, .int .i64 a0.h.sp, .int .i64 a0.h.pu, .int .i64 a0.h.br, .int .i64 a0.h.dr, .int .i64 a0.h.lv, .int .i64 a0.h.dO, .int .i64 a0.h.ld, .int .i64 a0.h.qu, .slice d0 a0.ds.length e0, .int .i64 a0.led.nx, .slice p0 a0.led.ps.length n0, .int .i64 a0.tk, .bool a0.rc], .int .i64 a1, .int .i64 a2] w fun e w' => e = .returned (.bool true) ∧ Below w.heap.size w w' := by
 obtain ⟨h, ds, ⟨nx, ps⟩, tk, rc⟩ := a0
 dsimp only at q0 r0 w0 l0 ⊢
 have HD := zH q0
 have HP := zH r0
 clear q0 r0
 have F0 : Hid (Blk (w.alloc (.cells #[.int .i64 h.fl, .int .i64 h.gp, .int .i64 h.ln, .int .i64 h.rf, .int .i64 h.sp, .int .i64 h.pu, .int .i64 h.br, .int .i64 h.dr, .int .i64 h.lv, .int .i64 h.dO, .int .i64 h.ld, .int .i64 h.qu, .slice d0 ds.length e0, .int .i64 nx, .slice p0 ps.length n0, .int .i64 tk, .bool rc] 29)) w.heap.size (gvs h (.slice d0 ds.length e0) nx (.slice p0 ps.length n0) tk rc)) := Blk.at_ w #[.int .i64 h.fl, .int .i64 h.gp, .int .i64 h.ln, .int .i64 h.rf, .int .i64 h.sp, .int .i64 h.pu, .int .i64 h.br, .int .i64 h.dr, .int .i64 h.lv, .int .i64 h.dO, .int .i64 h.ld, .int .i64 h.qu, .slice d0 ds.length e0, .int .i64 nx, .slice p0 ps.length n0, .int .i64 tk, .bool rc] _ _ rfl
 have FB : Hid (Below w.heap.size w (w.alloc (.cells #[.int .i64 h.fl, .int .i64 h.gp, .int .i64 h.ln, .int .i64 h.rf, .int .i64 h.sp, .int .i64 h.pu, .int .i64 h.br, .int .i64 h.dr, .int .i64 h.lv, .int .i64 h.dO, .int .i64 h.ld, .int .i64 h.qu, .slice d0 ds.length e0, .int .i64 nx, .slice p0 ps.length n0, .int .i64 tk, .bool rc] 29))) := (Below.refl _ _).alloc (Nat.le_refl _) _
 obtain ⟨W0, hW0⟩ : ∃ W0, W0 = (w.alloc (.cells #[.int .i64 h.fl, .int .i64 h.gp, .int .i64 h.ln, .int .i64 h.rf, .int .i64 h.sp, .int .i64 h.pu, .int .i64 h.br, .int .i64 h.dr, .int .i64 h.lv, .int .i64 h.dO, .int .i64 h.ld, .int .i64 h.qu, .slice d0 ds.length e0, .int .i64 nx, .slice p0 ps.length n0, .int .i64 tk, .bool rc] 29)) := ⟨_, rfl⟩
 rw [← hW0] at F0 FB
 have HW0 := zH hW0
 clear hW0
 by_cases hl : ds.length + ps.length ≤ 1048576
 case neg =>
  have hs : (if (1048576 : Int) < (ds.length : Int) + ps.length then (-1 : Int) else 1048576 - ds.length - ps.length) = -1 := if_pos (by omega)
  go_enter Tryz.func3, Tryz.ntmps3
  go_upto_region 2 with fail
  rw [← HW0.out]
  go_wp2_with (first | (refine load_blk 29 _ Tryz.underlying29 (by kernel_rfl) F0.out rfl rfl rfl ?_) | (go_at_call 4; refine (szGroup_any h d0 ds.length e0 nx p0 ps.length n0 tk rc w0 l0 _).mono ?_; rw [hs]; rintro e w1 ⟨rfl, hb⟩; have FB := tB FB hb; clear hb))
  go_ret
  exact ⟨by simp, FB.out⟩
 have hld : ds.length ≤ 1048576 := by omega
 have hlp : ps.length ≤ 1048576 := by omega
 obtain ⟨kc, id, hr, dr, nr, pr, tr, rr, hrd, hrp, CS, CI⟩ : ∃ (kc id : Int) (hr : Pl.Hs) (dr : List Pl.Dk) (nr : Int) (pr : List Pl.Pe) (tr : Int) (rr : Bool), dr.length ≤ 1048576 ∧ pr.length ≤ 1048576 ∧ (∀ (gd gp : Nat) (W : World), GO W w.heap.size gd gp ds ps → Calls Tryz.prog 5 #[.agg #[.int .i64 h.fl, .int .i64 h.gp, .int .i64 h.ln, .int .i64 h.rf, .int .i64 h.sp, .int .i64 h.pu, .int .i64 h.br, .int .i64 h.dr, .int .i64 h.lv, .int .i64 h.dO, .int .i64 h.ld, .int .i64 h.qu, .slice (some ⟨gd, 0, none⟩) ds.length ds.length, .int .i64 nx, .slice (some ⟨gp, 0, none⟩) ps.length ps.length, .int .i64 tk, .bool rc], .int .i64 a1, .int .i64 a2] W (isGrp W kc id hr dr nr pr tr rr)) ∧ (∀ (gd gp : Nat) (W : World), GO W w.heap.size gd gp ds ps → Calls Tryz.prog 7 #[.agg #[.int .i64 h.fl, .int .i64 h.gp, .int .i64 h.ln, .int .i64 h.rf, .int .i64 h.sp, .int .i64 h.pu, .int .i64 h.br, .int .i64 h.dr, .int .i64 h.lv, .int .i64 h.dO, .int .i64 h.ld, .int .i64 h.qu, .slice (some ⟨gd, 0, none⟩) ds.length ds.length, .int .i64 nx, .slice (some ⟨gp, 0, none⟩) ps.length ps.length, .int .i64 tk, .bool rc], .int .i64 a1, .int .i64 a2] W (isGrp W kc id hr dr nr pr tr rr)) := by
  by_cases hf : Gr.fault ⟨h, ds, ⟨nx, ps⟩, tk, rc⟩ = 0
  ·cases i1 : Pl.inB a1 (-h.dr) h.dr
   ·exact ⟨_, _, _, _, _, _, _, _, by simp, by simp, fun gd gp W ho => specTickGroup_far h ds gd ds.length nx ps gp ps.length tk rc a1 a2 hf i1 hld hlp W ho.gi, fun gd gp W ho => implTickGroup_far h ds gd ds.length nx ps gp ps.length tk rc a1 a2 hf i1 hld hlp W ho.gi⟩
   cases i2 : Pl.inB a2 (-h.dr) h.dr
   ·exact ⟨_, _, _, _, _, _, _, _, by simp, by simp, fun gd gp W ho => specTickGroup_far2 h ds gd ds.length nx ps gp ps.length tk rc a1 a2 hf i1 i2 hld hlp W ho.gi, fun gd gp W ho => implTickGroup_far2 h ds gd ds.length nx ps gp ps.length tk rc a1 a2 hf i1 i2 hld hlp W ho.gi⟩
   by_cases ht : tk = 1000000000000000
   ·exact ⟨_, _, _, _, _, _, _, _, by simp, by simp, fun gd gp W ho => specTickGroup_many h ds gd ds.length nx ps gp ps.length tk rc a1 a2 hf i1 i2 ht hld hlp W ho.gi, fun gd gp W ho => implTickGroup_many h ds gd ds.length nx ps gp ps.length tk rc a1 a2 hf i1 i2 ht hld hlp W ho.gi⟩
   have q := Gr.fault_parts hf
   have j1 := Pl.inB_iff.1 i1
   have j2 := Pl.inB_iff.1 i2
   have K := tk8_ok (by have := q.2.1.2; dsimp only at this ⊢; omega) j1.1 j1.2 j2.1 j2.2 (Gr.tkOk (c := 0) (c2 := 0) hf) ds.length (Nat.le_refl _)
   have l1 := K.ld
   have l2 := K.lp
   dsimp only at l1 l2
   exact ⟨_, _, _, _, _, _, _, _, by rw [l1]; exact hld, by rw [l2]; exact hlp, fun gd gp W ho => specTickGroup_ok h ds gd ds.length nx ps gp ps.length tk rc a1 a2 hf i1 i2 ht hld hlp W ho.gi, fun gd gp W ho => implTickGroup_ok h ds gd ds.length nx ps gp ps.length tk rc a1 a2 hf i1 i2 ht hld hlp W ho.gi⟩
  ·exact ⟨_, _, _, _, _, _, _, _, by simp, by simp, fun gd gp W ho => specTickGroup_no h ds gd ds.length nx ps gp ps.length tk rc a1 a2 hf hld hlp W ho.gi, fun gd gp W ho => implTickGroup_no h ds gd ds.length nx ps gp ps.length tk rc a1 a2 hf hld hlp W ho.gi⟩
 have hs : (if (1048576 : Int) < (ds.length : Int) + ps.length then (-1 : Int) else 1048576 - ds.length - ps.length) = 1048576 - ds.length - ps.length := if_neg (by omega)
 have hs2 : ¬ ((1048576 : Int) - ds.length - ps.length < 0) := by omega
 go_enter Tryz.func3, Tryz.ntmps3
 go_upto_region 2 with fail
 rw [← HW0.out]
 clear HW0
 go_upto_region 5 with (first | (refine load_blk 29 _ Tryz.underlying29 (by kernel_rfl) F0.out rfl rfl rfl ?_) | (go_at_call 4; refine (szGroup_any h d0 ds.length e0 nx p0 ps.length n0 tk rc w0 l0 _).mono ?_; rw [hs]; rintro e w1 ⟨rfl, hb⟩; have F0 := bB F0 hb; have FB := tB FB hb; clear hb))
 clear hs hs2
 go_upto_region 6 with (first | (refine load_blk 29 _ Tryz.underlying29 (by kernel_rfl) F0.out rfl rfl rfl ?_) | (go_at_call 6; refine (toGroup_any h ds d0 e0 nx ps p0 n0 tk rc hld hlp _ ((HD.out.below FB.out (Nat.le_refl _)).mono FB.out.size) ((HP.out.below FB.out (Nat.le_refl _)).mono FB.out.size)).mono ?_; rintro e w2 ⟨gd1, gp1, rfl, ho, hb⟩; have O1 := zH (ho.base FB.out.size); clear ho; have F0 := bB F0 hb; have FB := tB FB hb; clear hb) | (go_at_call 5; refine (CS gd1 gp1 _ O1.out).mono ?_; rintro e v1 ⟨da1, dc1, pa1, pc1, rfl, hd_, hp_, ne1_, hb⟩; have NE1 := zH ne1_; have D1 := zH (hd_.base FB.out.size); have P1 : Hid (Own v1 w.heap.size (.slice pa1 pr.length pc1) pr) := Own.base' hp_ FB.out.size; have F0 := bB F0 hb; have FB := tB FB hb; clear hb hd_ hp_ ne1_) | (refine store_new (rvs kc id hr (.slice da1 dr.length dc1) nr (.slice pa1 pr.length pc1) tr rr) 39 _ _ (by kernel_rfl) (by kernel_rfl) (by kernel_rfl) rfl rfl rfl rfl ?_))
 obtain ⟨br1, hbr⟩ : ∃ b, b = v1.heap.size := ⟨_, rfl⟩
 obtain ⟨W1, hW⟩ : ∃ W, W = v1.alloc (.cells (rvs kc id hr (.slice da1 dr.length dc1) nr (.slice pa1 pr.length pc1) tr rr).toArray 39) := ⟨_, rfl⟩
 have od1 : Hid (∀ k, (Value.slice da1 dr.length dc1).ownBlock = some k → w.heap.size ≤ k ∧ k < br1) := fun k hk => by rw [hbr]; exact D1.out.lt k hk
 have op1 : Hid (∀ k, (Value.slice pa1 pr.length pc1).ownBlock = some k → w.heap.size ≤ k ∧ k < br1) := fun k hk => by rw [hbr]; exact P1.out.lt k hk
 have lt_F0_1 := F0.out.lt
 rw [← hbr] at lt_F0_1
 have lt_b_1 := FB.out.size
 rw [← hbr] at lt_b_1
 have F0 : Hid (Blk W1 w.heap.size (gvs h (.slice d0 ds.length e0) nx (.slice p0 ps.length n0) tk rc)) := by rw [hW]; exact F0.out.alloc _
 have FB : Hid (Below w.heap.size w W1) := by rw [hW]; exact FB.out.alloc FB.out.size _
 have D1 : Hid (OwnD W1 w.heap.size (.slice da1 dr.length dc1) (dr)) := by rw [hW]; exact D1.out.alloc _
 have P1 : Hid (Own W1 w.heap.size (.slice pa1 pr.length pc1) (pr)) := by rw [hW]; exact P1.out.alloc _
 have R1 : Hid (Blk W1 br1 (rvs kc id hr (.slice da1 dr.length dc1) nr (.slice pa1 pr.length pc1) tr rr)) := by rw [hW]; exact Blk.at_ v1 (rvs kc id hr (.slice da1 dr.length dc1) nr (.slice pa1 pr.length pc1) tr rr).toArray _ _ hbr
 rw [← hW, ← hbr]
 clear hW hbr
 clear O1
 go_upto_region 7 with (first | (refine load_blk 29 _ Tryz.underlying29 (by kernel_rfl) F0.out rfl rfl rfl ?_) | (go_at_call 6; refine (toGroup_any h ds d0 e0 nx ps p0 n0 tk rc hld hlp _ ((HD.out.below FB.out (Nat.le_refl _)).mono FB.out.size) ((HP.out.below FB.out (Nat.le_refl _)).mono FB.out.size)).mono ?_; rintro e w3 ⟨gd2, gp2, rfl, ho, hb⟩; have O2 := zH (ho.base FB.out.size); have lo2 : br1 < gd2 ∧ br1 < gp2 := ⟨Nat.lt_of_lt_of_le R1.out.lt ho.ge.1, Nat.lt_of_lt_of_le R1.out.lt ho.ge.2⟩; clear ho; have F0 := bB F0 hb; have R1 := zH (R1.out.below hb R1.out.lt); have D1 := zH (D1.out.below hb (fun k hk => (D1.out.lt k hk).2)); have P1 := zH (P1.out.below hb (fun k hk => (P1.out.lt k hk).2)); have FB := tB FB hb; clear hb) | (refine store_new (gvs h (.slice (some ⟨gd2, 0, none⟩) ds.length ds.length) nx (.slice (some ⟨gp2, 0, none⟩) ps.length ps.length) tk rc) 37 _ _ (by kernel_rfl) (by kernel_rfl) (by kernel_rfl) rfl rfl rfl rfl ?_))
 obtain ⟨bx, hbx⟩ : ∃ b, b = w3.heap.size := ⟨_, rfl⟩
 obtain ⟨W3, hW⟩ : ∃ W, W = w3.alloc (.cells (gvs h (.slice (some ⟨gd2, 0, none⟩) ds.length ds.length) nx (.slice (some ⟨gp2, 0, none⟩) ps.length ps.length) tk rc).toArray 37) := ⟨_, rfl⟩
 have lx2 := O2.out.lt
 rw [← hbx] at lx2
 have F0 : Hid (Blk W3 w.heap.size (gvs h (.slice d0 ds.length e0) nx (.slice p0 ps.length n0) tk rc)) := by rw [hW]; exact F0.out.alloc _
 have R1 : Hid (Blk W3 br1 (rvs kc id hr (.slice da1 dr.length dc1) nr (.slice pa1 pr.length pc1) tr rr)) := by rw [hW]; exact R1.out.alloc _
 have D1 : Hid (OwnD W3 w.heap.size (.slice da1 dr.length dc1) (dr)) := by rw [hW]; exact D1.out.alloc _
 have P1 : Hid (Own W3 w.heap.size (.slice pa1 pr.length pc1) (pr)) := by rw [hW]; exact P1.out.alloc _
 have FB : Hid (Below w.heap.size w W3) := by rw [hW]; exact FB.out.alloc FB.out.size _
 have O2 : Hid (GO W3 w.heap.size gd2 gp2 ds ps) := by rw [hW]; exact O2.out.alloc _
 have FX : Hid (Blk W3 bx (gvs h (.slice (some ⟨gd2, 0, none⟩) ds.length ds.length) nx (.slice (some ⟨gp2, 0, none⟩) ps.length ps.length) tk rc)) := by rw [hW]; exact Blk.at_ w3 (gvs h (.slice (some ⟨gd2, 0, none⟩) ds.length ds.length) nx (.slice (some ⟨gp2, 0, none⟩) ps.length ps.length) tk rc).toArray _ _ hbx
 rw [← hW, ← hbx]
 clear hW hbx
 obtain ⟨B2, hB2⟩ : ∃ B2, B2 = bx + 1 := ⟨_, rfl⟩
 have hB : B2 ≤ W3.heap.size := (by have := FX.out.lt; omega)
 go_upto_region 8 with (first | (refine load_blk 37 _ Tryz.underlying37 (by kernel_rfl) FX.out rfl rfl rfl ?_) | (go_at_call 7; refine (CI gd2 gp2 _ O2.out).mono ?_; rintro e v2 ⟨da2, dc2, pa2, pc2, rfl, hd_, hp_, ne2_, hb⟩; have NE2 := zH ne2_; have D2 : Hid (OwnD v2 B2 (.slice da2 dr.length dc2) dr) := hd_.base hB; have P2 : Hid (Own v2 B2 (.slice pa2 pr.length pc2) pr) := Own.base' hp_ hB; have F0 := bB F0 hb; have R1 := zH (R1.out.below hb R1.out.lt); have D1 := zH (D1.out.below hb (fun k hk => (D1.out.lt k hk).2)); have P1 := zH (P1.out.below hb (fun k hk => (P1.out.lt k hk).2)); have FB := tB FB hb; have O2 := zH (O2.out.below hb O2.out.lt); have FX := zH (FX.out.below hb FX.out.lt); clear hb hd_ hp_ ne2_) | (refine store_new (rvs kc id hr (.slice da2 dr.length dc2) nr (.slice pa2 pr.length pc2) tr rr) 39 _ _ (by kernel_rfl) (by kernel_rfl) (by kernel_rfl) rfl rfl rfl rfl ?_))
 obtain ⟨br2, hbr⟩ : ∃ b, b = v2.heap.size := ⟨_, rfl⟩
 obtain ⟨W4, hW⟩ : ∃ W, W = v2.alloc (.cells (rvs kc id hr (.slice da2 dr.length dc2) nr (.slice pa2 pr.length pc2) tr rr).toArray 39) := ⟨_, rfl⟩
 have od2 : Hid (∀ k, (Value.slice da2 dr.length dc2).ownBlock = some k → B2 ≤ k ∧ k < br2) := fun k hk => by rw [hbr]; exact D2.out.lt k hk
 have op2 : Hid (∀ k, (Value.slice pa2 pr.length pc2).ownBlock = some k → B2 ≤ k ∧ k < br2) := fun k hk => by rw [hbr]; exact P2.out.lt k hk
 have lt_F0_2 := F0.out.lt
 rw [← hbr] at lt_F0_2
 have lt_R1_2 := R1.out.lt
 rw [← hbr] at lt_R1_2
 have lt_b_2 := FB.out.size
 rw [← hbr] at lt_b_2
 have lt_O2_2 := O2.out.lt
 rw [← hbr] at lt_O2_2
 have lt_FX_2 := FX.out.lt
 rw [← hbr] at lt_FX_2
 have F0 : Hid (Blk W4 w.heap.size (gvs h (.slice d0 ds.length e0) nx (.slice p0 ps.length n0) tk rc)) := by rw [hW]; exact F0.out.alloc _
 have R1 : Hid (Blk W4 br1 (rvs kc id hr (.slice da1 dr.length dc1) nr (.slice pa1 pr.length pc1) tr rr)) := by rw [hW]; exact R1.out.alloc _
 have D1 : Hid (OwnD W4 w.heap.size (.slice da1 dr.length dc1) (dr)) := by rw [hW]; exact D1.out.alloc _
 have P1 : Hid (Own W4 w.heap.size (.slice pa1 pr.length pc1) (pr)) := by rw [hW]; exact P1.out.alloc _
 have FB : Hid (Below w.heap.size w W4) := by rw [hW]; exact FB.out.alloc FB.out.size _
 have O2 : Hid (GO W4 w.heap.size gd2 gp2 ds ps) := by rw [hW]; exact O2.out.alloc _
 have FX : Hid (Blk W4 bx (gvs h (.slice (some ⟨gd2, 0, none⟩) ds.length ds.length) nx (.slice (some ⟨gp2, 0, none⟩) ps.length ps.length) tk rc)) := by rw [hW]; exact FX.out.alloc _
 have D2 : Hid (OwnD W4 B2 (.slice da2 dr.length dc2) (dr)) := by rw [hW]; exact D2.out.alloc _
 have P2 : Hid (Own W4 B2 (.slice pa2 pr.length pc2) (pr)) := by rw [hW]; exact P2.out.alloc _
 have R2 : Hid (Blk W4 br2 (rvs kc id hr (.slice da2 dr.length dc2) nr (.slice pa2 pr.length pc2) tr rr)) := by rw [hW]; exact Blk.at_ v2 (rvs kc id hr (.slice da2 dr.length dc2) nr (.slice pa2 pr.length pc2) tr rr).toArray _ _ hbr
 rw [← hW, ← hbr]
 clear hW hbr
 have q1 : ¬ ((1 : Int) + 13 * (dr.length : Int) + 7 * (pr.length : Int) < 0) := by omega
 have q2 : ¬ ((1 : Int) + 13 * (ds.length : Int) + 7 * (ps.length : Int) < 0) := by omega
 go_upto_region 10 with (first | (refine load_blk 39 _ Tryz.underlying39 (by kernel_rfl) R2.out rfl rfl rfl ?_) | (refine load_blk 39 _ Tryz.underlying39 (by kernel_rfl) R1.out rfl rfl rfl ?_) | (go_at_call 8; refine (eqGroupResult_same kc id hr dr da2 da1 dc2 dc1 nr pr pa2 pa1 pc2 pc1 tr rr hrd hrp _ D2.out.din D1.out.din P2.out.din P1.out.din).mono ?_; rintro e w5 ⟨rfl, hb⟩; have F0 := bB F0 hb; have R1 := zH (R1.out.below hb R1.out.lt); have D1 := zH (D1.out.below hb (fun k hk => (D1.out.lt k hk).2)); have P1 := zH (P1.out.below hb (fun k hk => (P1.out.lt k hk).2)); have FB := tB FB hb; have O2 := zH (O2.out.below hb O2.out.lt); have FX := zH (FX.out.below hb FX.out.lt); have R2 := zH (R2.out.below hb R2.out.lt); have D2 := zH (D2.out.below hb (fun k hk => (D2.out.lt k hk).2)); have P2 := zH (P2.out.below hb (fun k hk => (P2.out.lt k hk).2)); clear hb))
 have F0 := zH (F0.out.below (Below.refl _ _).drew F0.out.lt)
 have R1 := zH (R1.out.below (Below.refl _ _).drew R1.out.lt)
 have D1 := zH (D1.out.drew)
 have P1 := zH (P1.out.drew)
 have FB := zH (FB.out.drew)
 have O2 := zH (O2.out.below (Below.refl _ _).drew O2.out.lt)
 have FX := zH (FX.out.below (Below.refl _ _).drew FX.out.lt)
 have R2 := zH (R2.out.below (Below.refl _ _).drew R2.out.lt)
 have D2 := zH (D2.out.drew)
 have P2 := zH (P2.out.drew)
 refine wp_region_held_drew (S := (fun w'' => Blk w'' w.heap.size (gvs h (.slice d0 ds.length e0) nx (.slice p0 ps.length n0) tk rc) ∧ Blk w'' bx (gvs h (.slice (some ⟨gd2, 0, none⟩) ds.length ds.length) nx (.slice (some ⟨gp2, 0, none⟩) ps.length ps.length) tk rc))) (by kernel_rfl) (by (try dsimp only); first | exact ⟨F0.out, FX.out⟩ | go_keep) (fun hHeld => ?_)
 obtain ⟨v_1, hw1⟩ : ∃ v_1, v_1 = w5.drew := ⟨_, rfl⟩
 rw [← hw1] at F0 R1 D1 P1 FB O2 FX R2 D2 P2 hHeld ⊢
 clear hw1
 refine tkz 0 rfl ?_ (hy := Or.inl ⟨by kernel_rfl, fun wx hSw => exec_load_blk 37 _ Tryz.underlying37 (by kernel_rfl) rfl rfl hSw.2⟩)
 refine tkz 1 rfl ?_ (hy := Or.inl ⟨by kernel_rfl, fun wx hSw => exec_load_blk 29 _ Tryz.underlying29 (by kernel_rfl) rfl rfl hSw.1⟩)
 refine rd1 2 (fun K hK => ?_)
 go_simp
 refine (toGroup_any h ds d0 e0 nx ps p0 n0 tk rc hld hlp _ ((HD.out.below FB.out (Nat.le_refl _)).mono FB.out.size) ((HP.out.below FB.out (Nat.le_refl _)).mono FB.out.size)).mono ?_
 rintro e v_2 ⟨gd3, gp3, rfl, ho, hb⟩
 have O3 := zH (ho.base FB.out.size)
 have F0 := bB F0 hb
 have R1 := zH (R1.out.below hb R1.out.lt)
 have D1 := zH (D1.out.below hb (fun k hk => (D1.out.lt k hk).2))
 have P1 := zH (P1.out.below hb (fun k hk => (P1.out.lt k hk).2))
 have FB := tB FB hb
 have O2 := zH (O2.out.below hb O2.out.lt)
 have FX := zH (FX.out.below hb FX.out.lt)
 have R2 := zH (R2.out.below hb R2.out.lt)
 have D2 := zH (D2.out.below hb (fun k hk => (D2.out.lt k hk).2))
 have P2 := zH (P2.out.below hb (fun k hk => (P2.out.lt k hk).2))
 clear hb
 clear ho
 try dsimp only
 refine kp hK (fun hHeld => ?_)
 clear hK K
 refine rd1 3 (fun K hK => ?_)
 go_simp
 refine (eqGroup_same h ds (some ⟨gd2, 0, none⟩) (some ⟨gd3, 0, none⟩) ds.length ds.length nx ps (some ⟨gp2, 0, none⟩) (some ⟨gp3, 0, none⟩) ps.length ps.length tk rc hld hlp _ O2.out.din O3.out.din O2.out.pin O3.out.pin).mono ?_
 rintro e v_3 ⟨rfl, hb⟩
 have F0 := bB F0 hb
 have R1 := zH (R1.out.below hb R1.out.lt)
 have D1 := zH (D1.out.below hb (fun k hk => (D1.out.lt k hk).2))
 have P1 := zH (P1.out.below hb (fun k hk => (P1.out.lt k hk).2))
 have FB := tB FB hb
 have O2 := zH (O2.out.below hb O2.out.lt)
 have FX := zH (FX.out.below hb FX.out.lt)
 have R2 := zH (R2.out.below hb R2.out.lt)
 have D2 := zH (D2.out.below hb (fun k hk => (D2.out.lt k hk).2))
 have P2 := zH (P2.out.below hb (fun k hk => (P2.out.lt k hk).2))
 have O3 := zH (O3.out.below hb O3.out.lt)
 clear hb
 try dsimp only
 refine kp hK (fun hHeld => ?_)
 clear hK K
 refine tkz 4 rfl ?_
 refine wpAnyH_done (by kernel_rfl) ?_ _
 obtain ⟨w6, hw6⟩ : ∃ W, W = v_3 := ⟨_, rfl⟩
 subst hw6
 go_upto_region 24 with (first | (refine load_blk 37 _ Tryz.underlying37 (by kernel_rfl) FX.out rfl rfl rfl ?_) | (refine load_blk 39 _ Tryz.underlying39 (by kernel_rfl) R2.out rfl rfl rfl ?_) | (refine load_blk 39 _ Tryz.underlying39 (by kernel_rfl) R1.out rfl rfl rfl ?_) | (refine load_blkg 39 _ Tryz.underlying39 (by kernel_rfl) R2.out (by kernel_rfl) rfl rfl ?_) | (refine load_blkg 39 _ Tryz.underlying39 (by kernel_rfl) R1.out (by kernel_rfl) rfl rfl ?_) | (go_at_call 10; refine (markGroup_any w.heap.size h (.slice (some ⟨gd2, 0, none⟩) ds.length ds.length) nx (.slice (some ⟨gp2, 0, none⟩) ps.length ps.length) tk rc ds ps 1 (by omega) (by omega) hld hlp _ O2.out.d.own O2.out.p.own (fun j e1 e2 => by have a1 : gd2 = j := Option.some.inj e1; have a2 : gp2 = j := Option.some.inj e2; have := O2.out.ne; omega)).mono ?_; rintro e w7 ⟨rfl, hd_, hp_, ht⟩; have F0 : Hid (Blk w7 w.heap.size (gvs h (.slice d0 ds.length e0) nx (.slice p0 ps.length n0) tk rc)) := F0.out.turn ht (fun e => by have e2 : gd2 = w.heap.size := Option.some.inj e; omega) (fun e => by have e2 : gp2 = w.heap.size := Option.some.inj e; omega); have R1 : Hid (Blk w7 br1 (rvs kc id hr (.slice da1 dr.length dc1) nr (.slice pa1 pr.length pc1) tr rr)) := R1.out.turn ht (fun e => by have e2 : gd2 = br1 := Option.some.inj e; omega) (fun e => by have e2 : gp2 = br1 := Option.some.inj e; omega); have D1 : Hid (OwnD w7 w.heap.size (.slice da1 dr.length dc1) (dr)) := D1.out.turn ht (fun k hk e => by have a : gd2 = k := Option.some.inj e; have b := od1.out k hk; omega) (fun k hk e => by have a : gp2 = k := Option.some.inj e; have b := od1.out k hk; omega); have P1 : Hid (Own w7 w.heap.size (.slice pa1 pr.length pc1) (pr)) := P1.out.turn ht (fun k hk e => by have a : gd2 = k := Option.some.inj e; have b := op1.out k hk; omega) (fun k hk e => by have a : gp2 = k := Option.some.inj e; have b := op1.out k hk; omega); have FB : Hid (Below w.heap.size w w7) := ht.below' FB.out (fun j hj => by have e2 : gd2 = j := Option.some.inj hj; omega) (fun j hj => by have e2 : gp2 = j := Option.some.inj hj; omega) FB.out.size; have R2 : Hid (Blk w7 br2 (rvs kc id hr (.slice da2 dr.length dc2) nr (.slice pa2 pr.length pc2) tr rr)) := R2.out.turn ht (fun e => by have e2 : gd2 = br2 := Option.some.inj e; omega) (fun e => by have e2 : gp2 = br2 := Option.some.inj e; omega); have D2 : Hid (OwnD w7 B2 (.slice da2 dr.length dc2) (dr)) := D2.out.turn ht (fun k hk e => by have a : gd2 = k := Option.some.inj e; have b := od2.out k hk; omega) (fun k hk e => by have a : gp2 = k := Option.some.inj e; have b := od2.out k hk; omega); have P2 : Hid (Own w7 B2 (.slice pa2 pr.length pc2) (pr)) := P2.out.turn ht (fun k hk e => by have a : gd2 = k := Option.some.inj e; have b := op2.out k hk; omega) (fun k hk e => by have a : gp2 = k := Option.some.inj e; have b := op2.out k hk; omega); clear ht hd_ hp_) | (go_at_call 8; refine (eqGroupResult_same kc id hr dr da2 da1 dc2 dc1 nr pr pa2 pa1 pc2 pc1 tr rr hrd hrp _ D2.out.din D1.out.din P2.out.din P1.out.din).mono ?_; rintro e w8 ⟨rfl, hb⟩; have F0 := bB F0 hb; have R1 := zH (R1.out.below hb R1.out.lt); have D1 := zH (D1.out.below hb (fun k hk => (D1.out.lt k hk).2)); have P1 := zH (P1.out.below hb (fun k hk => (P1.out.lt k hk).2)); have FB := tB FB hb; have R2 := zH (R2.out.below hb R2.out.lt); have D2 := zH (D2.out.below hb (fun k hk => (D2.out.lt k hk).2)); have P2 := zH (P2.out.below hb (fun k hk => (P2.out.lt k hk).2)); clear hb) | (go_at_call 11; refine (markGroupResult_any B2 kc id hr (.slice da2 dr.length dc2) nr (.slice pa2 pr.length pc2) tr rr dr pr 1 (by omega) (by omega) hrd hrp _ D2.out P2.out NE2.out).mono ?_; rintro e w9 ⟨rfl, hd_, hp_, ht⟩; have F0 : Hid (Blk w9 w.heap.size (gvs h (.slice d0 ds.length e0) nx (.slice p0 ps.length n0) tk rc)) := F0.out.turn ht (fun e => by have := (od2.out _ e).1; omega) (fun e => by have := (op2.out _ e).1; omega); have R1 : Hid (Blk w9 br1 (rvs kc id hr (.slice da1 dr.length dc1) nr (.slice pa1 pr.length pc1) tr rr)) := R1.out.turn ht (fun e => by have := (od2.out _ e).1; omega) (fun e => by have := (op2.out _ e).1; omega); have D1 : Hid (OwnD w9 w.heap.size (.slice da1 dr.length dc1) (dr)) := D1.out.turn ht (fun k hk e => by have a := (od2.out _ e).1; have b := (od1.out k hk).2; omega) (fun k hk e => by have a := (op2.out _ e).1; have b := (od1.out k hk).2; omega); have P1 : Hid (Own w9 w.heap.size (.slice pa1 pr.length pc1) (pr)) := P1.out.turn ht (fun k hk e => by have a := (od2.out _ e).1; have b := (op1.out k hk).2; omega) (fun k hk e => by have a := (op2.out _ e).1; have b := (op1.out k hk).2; omega); have FB : Hid (Below w.heap.size w w9) := ht.below' FB.out (fun j hj => by have := (od2.out j hj).1; omega) (fun j hj => by have := (op2.out j hj).1; omega) FB.out.size; have R2 : Hid (Blk w9 br2 (rvs kc id hr (.slice da2 dr.length dc2) nr (.slice pa2 pr.length pc2) tr rr)) := R2.out.turn ht (fun e => by have := (od2.out _ e).2; omega) (fun e => by have := (op2.out _ e).2; omega); have D2 := zH hd_; have P2 := zH hp_; clear ht hd_ hp_) | (go_at_call 12; refine (heldGroupResult_any B2 kc id hr (.slice da2 dr.length dc2) nr (.slice pa2 pr.length pc2) tr rr dr.length pr.length 1 (by omega) (by omega) hrd hrp _ D2.out P2.out).mono ?_; rintro e w10 ⟨rfl, hb⟩; have F0 := bB F0 hb; have R1 := zH (R1.out.below hb R1.out.lt); have D1 := zH (D1.out.below hb (fun k hk => (D1.out.lt k hk).2)); have P1 := zH (P1.out.below hb (fun k hk => (P1.out.lt k hk).2)); have FB := tB FB hb; have R2 := zH (R2.out.below hb R2.out.lt); have D2 := zH (D2.out.below hb (fun k hk => (D2.out.lt k hk).2)); have P2 := zH (P2.out.below hb (fun k hk => (P2.out.lt k hk).2)); clear hb))
 go_upto_region 25 with (first | (refine load_blk 29 _ Tryz.underlying29 (by kernel_rfl) F0.out rfl rfl rfl ?_) | (go_at_call 6; refine (toGroup_any h ds d0 e0 nx ps p0 n0 tk rc hld hlp _ ((HD.out.below FB.out (Nat.le_refl _)).mono FB.out.size) ((HP.out.below FB.out (Nat.le_refl _)).mono FB.out.size)).mono ?_; rintro e w11 ⟨gd4, gp4, rfl, ho, hb⟩; have O4 := zH (ho.base FB.out.size); clear ho; have F0 := bB F0 hb; have R1 := zH (R1.out.below hb R1.out.lt); have D1 := zH (D1.out.below hb (fun k hk => (D1.out.lt k hk).2)); have P1 := zH (P1.out.below hb (fun k hk => (P1.out.lt k hk).2)); have FB := tB FB hb; have R2 := zH (R2.out.below hb R2.out.lt); have D2 := zH (D2.out.below hb (fun k hk => (D2.out.lt k hk).2)); have P2 := zH (P2.out.below hb (fun k hk => (P2.out.lt k hk).2)); clear hb) | (go_at_call 7; refine (CI gd4 gp4 _ O4.out).mono ?_; rintro e v3 ⟨da3, dc3, pa3, pc3, rfl, hd_, hp_, ne3_, hb⟩; have NE3 := zH ne3_; have D3 := zH (hd_.base FB.out.size); have P3 : Hid (Own v3 w.heap.size (.slice pa3 pr.length pc3) pr) := Own.base' hp_ FB.out.size; have F0 := bB F0 hb; have R1 := zH (R1.out.below hb R1.out.lt); have D1 := zH (D1.out.below hb (fun k hk => (D1.out.lt k hk).2)); have P1 := zH (P1.out.below hb (fun k hk => (P1.out.lt k hk).2)); have FB := tB FB hb; have R2 := zH (R2.out.below hb R2.out.lt); have D2 := zH (D2.out.below hb (fun k hk => (D2.out.lt k hk).2)); have P2 := zH (P2.out.below hb (fun k hk => (P2.out.lt k hk).2)); clear hb hd_ hp_ ne3_) | (refine store_new (rvs kc id hr (.slice da3 dr.length dc3) nr (.slice pa3 pr.length pc3) tr rr) 39 _ _ (by kernel_rfl) (by kernel_rfl) (by kernel_rfl) rfl rfl rfl rfl ?_))
 obtain ⟨br3, hbr⟩ : ∃ b, b = v3.heap.size := ⟨_, rfl⟩
 obtain ⟨W12, hW⟩ : ∃ W, W = v3.alloc (.cells (rvs kc id hr (.slice da3 dr.length dc3) nr (.slice pa3 pr.length pc3) tr rr).toArray 39) := ⟨_, rfl⟩
 have od3 : Hid (∀ k, (Value.slice da3 dr.length dc3).ownBlock = some k → w.heap.size ≤ k ∧ k < br3) := fun k hk => by rw [hbr]; exact D3.out.lt k hk
 have op3 : Hid (∀ k, (Value.slice pa3 pr.length pc3).ownBlock = some k → w.heap.size ≤ k ∧ k < br3) := fun k hk => by rw [hbr]; exact P3.out.lt k hk
 have lt_F0_3 := F0.out.lt
 rw [← hbr] at lt_F0_3
 have lt_R1_3 := R1.out.lt
 rw [← hbr] at lt_R1_3
 have lt_b_3 := FB.out.size
 rw [← hbr] at lt_b_3
 have lt_R2_3 := R2.out.lt
 rw [← hbr] at lt_R2_3
 have F0 : Hid (Blk W12 w.heap.size (gvs h (.slice d0 ds.length e0) nx (.slice p0 ps.length n0) tk rc)) := by rw [hW]; exact F0.out.alloc _
 have R1 : Hid (Blk W12 br1 (rvs kc id hr (.slice da1 dr.length dc1) nr (.slice pa1 pr.length pc1) tr rr)) := by rw [hW]; exact R1.out.alloc _
 have D1 : Hid (OwnD W12 w.heap.size (.slice da1 dr.length dc1) (dr)) := by rw [hW]; exact D1.out.alloc _
 have P1 : Hid (Own W12 w.heap.size (.slice pa1 pr.length pc1) (pr)) := by rw [hW]; exact P1.out.alloc _
 have FB : Hid (Below w.heap.size w W12) := by rw [hW]; exact FB.out.alloc FB.out.size _
 have R2 : Hid (Blk W12 br2 (rvs kc id hr (.slice da2 dr.length dc2) nr (.slice pa2 pr.length pc2) tr rr)) := by rw [hW]; exact R2.out.alloc _
 have D2 : Hid (OwnD W12 B2 (.slice da2 dr.length dc2) ((markLD 1 dr.length))) := by rw [hW]; exact D2.out.alloc _
 have P2 : Hid (Own W12 B2 (.slice pa2 pr.length pc2) ((markL (1 + 13 * dr.length) pr.length))) := by rw [hW]; exact P2.out.alloc _
 have D3 : Hid (OwnD W12 w.heap.size (.slice da3 dr.length dc3) (dr)) := by rw [hW]; exact D3.out.alloc _
 have P3 : Hid (Own W12 w.heap.size (.slice pa3 pr.length pc3) (pr)) := by rw [hW]; exact P3.out.alloc _
 have R3 : Hid (Blk W12 br3 (rvs kc id hr (.slice da3 dr.length dc3) nr (.slice pa3 pr.length pc3) tr rr)) := by rw [hW]; exact Blk.at_ v3 (rvs kc id hr (.slice da3 dr.length dc3) nr (.slice pa3 pr.length pc3) tr rr).toArray _ _ hbr
 rw [← hW, ← hbr]
 clear hW hbr
 go_wp2_with (first | (refine load_blk 39 _ Tryz.underlying39 (by kernel_rfl) R3.out rfl rfl rfl ?_) | (refine load_blk 39 _ Tryz.underlying39 (by kernel_rfl) R2.out rfl rfl rfl ?_) | (refine load_blk 39 _ Tryz.underlying39 (by kernel_rfl) R1.out rfl rfl rfl ?_) | (go_at_call 8; refine (eqGroupResult_same kc id hr dr da3 da1 dc3 dc1 nr pr pa3 pa1 pc3 pc1 tr rr hrd hrp _ D3.out.din D1.out.din P3.out.din P1.out.din).mono ?_; rintro e w13 ⟨rfl, hb⟩; have F0 := bB F0 hb; have R1 := zH (R1.out.below hb R1.out.lt); have D1 := zH (D1.out.below hb (fun k hk => (D1.out.lt k hk).2)); have P1 := zH (P1.out.below hb (fun k hk => (P1.out.lt k hk).2)); have FB := tB FB hb; have R2 := zH (R2.out.below hb R2.out.lt); have D2 := zH (D2.out.below hb (fun k hk => (D2.out.lt k hk).2)); have P2 := zH (P2.out.below hb (fun k hk => (P2.out.lt k hk).2)); clear hb) | (go_at_call 12; refine (heldGroupResult_any B2 kc id hr (.slice da2 dr.length dc2) nr (.slice pa2 pr.length pc2) tr rr dr.length pr.length 1 (by omega) (by omega) hrd hrp _ D2.out P2.out).mono ?_; rintro e w14 ⟨rfl, hb⟩; have FB := tB FB hb; clear hb))
 go_ret
 exact ⟨by simp, FB.out⟩

set_option maxRecDepth 100000 in
theorem lifted (os : Os) (started : os.Started) (H : Type) (enc : TypeId × Value → H) :
  ReturnsInHanded {} Tryz.checked os 3 .any (Rows.fnExactTickGroupSpec.pre6 enc Tryz.prog Tryz.f3 Rows.fnExactTickGroupRow.domain false) (Rows.fnExactTickGroupSpec.post enc Tryz.prog Tryz.f3 false true false false) := by
 refine returnsInHanded_of_change (C := Tryz.checked) own started (by kernel_rfl) Tryz.func3
  (ChangeSpec.witness6 (enc := enc) (C := Tryz.checked) false ⟨#[], #[.agg #[.int .i64 0, .int .i64 0, .int .i64 0, .int .i64 0, .int .i64 0, .int .i64 0, .int .i64 0, .int .i64 0, .int .i64 0, .int .i64 0, .int .i64 0, .int .i64 0, .slice none 0 0, .int .i64 0, .slice none 0 0, .int .i64 0, .bool false], .int .i64 0, .int .i64 0], []⟩ 8 (by kernel_rfl) (by kernel_rfl) (by kernel_rfl) (by kernel_rfl)) ?_
 intro W base args ds gs before hval0 hW hcnd _
 have hval : ∀ (j : Nat) t v, Tryz.f3.params[j]? = some t → args[j]? = some v → Value.okWide Tryz.prog W .any base t v := hval0
 have hW' := hW
 obtain ⟨p, q, hA0, hV, rfl, hfz, hnd⟩ := hW
 have hA : DataW.TrodAll enc Tryz.prog W 0 (fun _ => true) true Tryz.f3.params.toList args.toList ds p := hA0
 rw [Tryz.params3] at hA hval
 obtain ⟨v0, vs0, d0, ds0, p0, q0, hargs, rfl, rfl, h0, r0⟩ := trodAll_cons hA
 obtain ⟨v1, vs1, d1, ds1, p1, q1, rfl, rfl, rfl, h1, r1⟩ := trodAll_cons r0
 obtain ⟨v2, vs2, d2, ds2, p2, q2, rfl, rfl, rfl, h2, r2⟩ := trodAll_cons r1
 obtain ⟨rfl, rfl, rfl⟩ := trodAll_nil r2
 obtain rfl : args = #[v0, v1, v2] := by cases args; simp_all
 obtain ⟨rfl, rfl⟩ := trodVars_none hV
 have k0 := h0
 have lt0 : ∀ x ∈ p0, x.block < W.heap.size := by obtain ⟨m, hm⟩ := k0; exact DataW.trod_lt m _ _ _ hm
 obtain ⟨x0, da0, dc0, pa0, pc0, rfl, wl0, ln0, din0, pin0⟩ := open_grp (th := 23) (tds := 24) (tl := 27) (tps := 25) (tp := 129) (⟨Tryz.underlying90, Tryz.underlying85, Tryz.underlying83, Tryz.underlying88, Tryz.underlying86, Tryz.underlying2, Tryz.underlying4, by kernel_rfl, by kernel_rfl, by kernel_rfl, by kernel_rfl, by kernel_rfl, by kernel_rfl, by kernel_rfl, by kernel_rfl, by kernel_rfl, ⟨rfl, rfl, rfl⟩, ⟨rfl, rfl, rfl⟩, ⟨rfl, rfl, rfl⟩, ⟨rfl, rfl, rfl⟩, ⟨rfl, rfl, rfl⟩, ⟨rfl, rfl, rfl⟩, ⟨rfl, rfl, rfl⟩, ⟨rfl, rfl, rfl⟩, ⟨rfl, rfl, rfl⟩⟩ : DeckT Tryz.prog 90 85 83 88 86 2 4 _ _ _ _ _ _ _ _ _ _ _ _ _ _) Tryz.underlying29 Tryz.underlying23 Tryz.underlying24 Tryz.underlying27 Tryz.underlying25 Tryz.underlying129 (by kernel_rfl) (by kernel_rfl) (by kernel_rfl) (by kernel_rfl) (by kernel_rfl) (by kernel_rfl) (by kernel_rfl) (by kernel_rfl) ⟨rfl, rfl, rfl⟩ ⟨rfl, rfl, rfl⟩ ⟨rfl, rfl, rfl⟩ ⟨rfl, rfl, rfl⟩ ⟨rfl, rfl, rfl⟩ ⟨rfl, rfl, rfl⟩ ⟨rfl, rfl, rfl⟩ (hval 0 29 v0 rfl rfl) h0
 have k1 := h1
 have lt1 : ∀ x ∈ p1, x.block < W.heap.size := by obtain ⟨m, hm⟩ := k1; exact DataW.trod_lt m _ _ _ hm
 obtain ⟨a1, rfl, _, _, w1⟩ := open_int Tryz.underlying2 (hval 1 2 v1 rfl rfl) h1
 have k2 := h2
 have lt2 : ∀ x ∈ p2, x.block < W.heap.size := by obtain ⟨m, hm⟩ := k2; exact DataW.trod_lt m _ _ _ hm
 obtain ⟨a2, rfl, _, _, w2⟩ := open_int Tryz.underlying2 (hval 2 2 v2 rfl rfl) h2
 clear hA0 hval0
 refine (walk x0 a1 a2 da0 dc0 pa0 pc0 wl0 ln0 w1 w2 W din0 pin0).mono fun e W' ⟨he, bel⟩ => ?_
 subst he
 exact ⟨_, rfl, _, _, _, [], _, [], hW', trodAll_mk1 (shut_bool Tryz.underlying4 _), (trodAll_cons_mk (Below.trod laidOut (by kernel_rfl) (of_decide_eq_true (by kernel_rfl)) k0 bel lt0) (trodAll_cons_mk (Below.trod laidOut (by kernel_rfl) (of_decide_eq_true (by kernel_rfl)) k1 bel lt1) (trodAll_cons_mk (Below.trod laidOut (by kernel_rfl) (of_decide_eq_true (by kernel_rfl)) k2 bel lt2) trodAll_mk0))), rfl, bel.frame _, fun h => by cases h⟩

theorem over : Rows.fnExactTickGroupRow.holds Tryz.pinned (OpenSpec.ofChange Rows.fnExactTickGroupSpec) :=
 OpenClaim.holds_of_wide 3 Tryz.f3 rfl rfl rfl rfl rfl rfl rfl ⟨rfl, rfl, rfl, rfl, rfl⟩ rfl rfl rfl rfl rfl (by kernel_rfl) Tryz.func3 (by kernel_rfl)
  (of_decide_eq_true (by kernel_rfl)) (by unfold Func.isWrapper; first | (rw [if_pos (by decide +kernel)]; kernel_rfl) | (rw [if_neg (by decide +kernel)]; exact ⟨rfl, rfl⟩))
  (fun os started H enc _ => lifted os started H enc)

theorem proved : Rows.FnExactTickGroupSaid := over
end Go.Proofs.YteimojoicfjdjaaGreat.fnExactTickGroup

namespace Go.Proofs.YteimojoicfjdjaaGreat
theorem fnExactTickGroup_holds : Rows.FnExactTickGroupSaid := fnExactTickGroup.proved
#print axioms fnExactTickGroup_holds
end Go.Proofs.YteimojoicfjdjaaGreat

