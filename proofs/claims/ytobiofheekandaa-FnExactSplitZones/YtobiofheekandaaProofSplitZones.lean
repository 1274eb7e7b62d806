/-
  At every house and number of cars SplitZones answers as its model, writes into no argument, and its answer owns its memory.
-/
import Derived.Test.YtobiofheekandaaRows
import Derived.WalkKit
import Derived.ProofKit
import Derived.OpenShut
import Derived.ChangeOld
import Derived.Below
import Derived.Test.YtobiofheekandaaZonU
import Derived.Test.YtobiofheekandaaZonT
import Derived.Test.YtobiofheekandaaIntM
import Derived.Test.YtobiofheekandaaFnd
namespace Go.Proofs.Ytobiofheekandaa.fnExactSplitZones
open Go.ChangeShapes Go.WideShapes Go.ChangeAt Go.RowKit
set_option linter.unusedVariables false
set_option linter.unusedSimpArgs false

theorem own : ownKnob Try.prog.godebug = none := by kernel_rfl
theorem laidOut : laidOutB Try.prog = true := by kernel_rfl

set_option maxRecDepth 20000 in
set_option maxHeartbeats 32000000 in
theorem walk (a0 : Pl.Hs) (a1 : Int) (w0 : ∀ x ∈ [a0.fl, a0.gp, a0.ln, a0.rf, a0.sp, a0.pu, a0.br, a0.dr, a0.lv, a0.dO, a0.ld, a0.qu], (Lit.int .i64 x).wf = true) (w1 : (Lit.int .i64 a1).wf = true) (w : World) :
    Calls Try.prog 10 #[.agg #[.int .i64 a0.fl, .int .i64 a0.gp, .int .i64 a0.ln, .int .i64 a0.rf, .int .i64 a0.sp, .int .i64 a0.pu, .int .i64 a0.br, .int .i64 a0.dr, .int .i64 a0.lv, .int .i64 a0.dO, .int .i64 a0.ld, .int .i64 a0.qu], .int .i64 a1] w fun e w' => e = .returned (.bool true) ∧ Below w.heap.size w w' := by
  have FA : Hid (Below w.heap.size w (w.alloc (.cells #[.int .i64 a0.fl, .int .i64 a0.gp, .int .i64 a0.ln, .int .i64 a0.rf, .int .i64 a0.sp, .int .i64 a0.pu, .int .i64 a0.br, .int .i64 a0.dr, .int .i64 a0.lv, .int .i64 a0.dO, .int .i64 a0.ld, .int .i64 a0.qu] 45))) := (Below.refl _ _).alloc (Nat.le_refl _) _
  obtain ⟨K, R, hRl, CS, CI⟩ : ∃ (K : Int) (R : List Int), R.length ≤ 1048576 ∧ (∀ (W : World), Calls Try.prog 25 #[.agg #[.int .i64 a0.fl, .int .i64 a0.gp, .int .i64 a0.ln, .int .i64 a0.rf, .int .i64 a0.sp, .int .i64 a0.pu, .int .i64 a0.br, .int .i64 a0.dr, .int .i64 a0.lv, .int .i64 a0.dO, .int .i64 a0.ld, .int .i64 a0.qu], .int .i64 a1] W fun e w' => (∃ v, e = .returned (.agg #[.int .i64 K, v]) ∧ OwI w' W.heap.size v R) ∧ Below W.heap.size W w') ∧ (∀ (W : World), Calls Try.prog 24 #[.agg #[.int .i64 a0.fl, .int .i64 a0.gp, .int .i64 a0.ln, .int .i64 a0.rf, .int .i64 a0.sp, .int .i64 a0.pu, .int .i64 a0.br, .int .i64 a0.dr, .int .i64 a0.lv, .int .i64 a0.dO, .int .i64 a0.ld, .int .i64 a0.qu], .int .i64 a1] W fun e w' => (∃ v, e = .returned (.agg #[.int .i64 K, v]) ∧ OwI w' W.heap.size v R) ∧ Below W.heap.size W w') := ⟨_, _, Pl.spL_len a0 a1, fun W => specSplit_any a0 a1 W, fun W => implSplit_any a0 a1 W⟩
  obtain ⟨b0, hbb⟩ : ∃ b0, b0 = w.heap.size := ⟨_, rfl⟩
  obtain ⟨v0, hw2⟩ : ∃ v0, v0 = w.alloc (.cells #[.int .i64 a0.fl, .int .i64 a0.gp, .int .i64 a0.ln, .int .i64 a0.rf, .int .i64 a0.sp, .int .i64 a0.pu, .int .i64 a0.br, .int .i64 a0.dr, .int .i64 a0.lv, .int .i64 a0.dO, .int .i64 a0.ld, .int .i64 a0.qu] 45) := ⟨_, rfl⟩
  have F0 : Hid (Blk v0 b0 [.int .i64 a0.fl, .int .i64 a0.gp, .int .i64 a0.ln, .int .i64 a0.rf, .int .i64 a0.sp, .int .i64 a0.pu, .int .i64 a0.br, .int .i64 a0.dr, .int .i64 a0.lv, .int .i64 a0.dO, .int .i64 a0.ld, .int .i64 a0.qu]) := by rw [hw2]; exact Blk.at_ w #[.int .i64 a0.fl, .int .i64 a0.gp, .int .i64 a0.ln, .int .i64 a0.rf, .int .i64 a0.sp, .int .i64 a0.pu, .int .i64 a0.br, .int .i64 a0.dr, .int .i64 a0.lv, .int .i64 a0.dO, .int .i64 a0.ld, .int .i64 a0.qu] _ _ hbb
  have FB : Hid (Below w.heap.size w v0) := by rw [hw2]; exact FA.out
  go_enter Try.func10, Try.ntmps10
  go_upto_region 1 with fail
  rw [← hw2, ← hbb]
  clear hw2 hbb FA
  go_upto_region 2 with (first | (refine load_blk 45 _ Try.underlying45 (by kernel_rfl) F0.out rfl rfl rfl ?_) | (go_at_call 31; refine (toHouse_any a0 _).mono ?_; rintro e v1 ⟨rfl, hb⟩; have F0 : Hid (Blk v1 b0 [.int .i64 a0.fl, .int .i64 a0.gp, .int .i64 a0.ln, .int .i64 a0.rf, .int .i64 a0.sp, .int .i64 a0.pu, .int .i64 a0.br, .int .i64 a0.dr, .int .i64 a0.lv, .int .i64 a0.dO, .int .i64 a0.ld, .int .i64 a0.qu]) := F0.out.below hb F0.out.lt; have FB : Hid (Below w.heap.size w v1) := FB.out.trans (hb.mono FB.out.size); clear hb) | (go_at_call 25; refine (CS _).mono ?_; rintro e v3 ⟨⟨vw, rfl, ho⟩, hb⟩; obtain ⟨wa, wc, rfl⟩ := ho.sl; have OW : Hid (OwI v3 w.heap.size (.slice wa R.length wc) R) := ho.base FB.out.size; have F0 : Hid (Blk v3 b0 [.int .i64 a0.fl, .int .i64 a0.gp, .int .i64 a0.ln, .int .i64 a0.rf, .int .i64 a0.sp, .int .i64 a0.pu, .int .i64 a0.br, .int .i64 a0.dr, .int .i64 a0.lv, .int .i64 a0.dO, .int .i64 a0.ld, .int .i64 a0.qu]) := F0.out.below hb F0.out.lt; have FB : Hid (Below w.heap.size w v3) := FB.out.trans (hb.mono FB.out.size); clear hb; clear ho) | (refine store_new [.int .i64 K, .slice wa R.length wc] 30 _ _ (by kernel_rfl) (by kernel_rfl) (by kernel_rfl) rfl rfl rfl rfl ?_))
  obtain ⟨bw, hbb⟩ : ∃ bw, bw = v3.heap.size := ⟨_, rfl⟩
  obtain ⟨v4, hw2⟩ : ∃ v4, v4 = v3.alloc (.cells #[.int .i64 K, .slice wa R.length wc] 30) := ⟨_, rfl⟩
  have ltbwOW : ∀ k, (Value.slice wa R.length wc).ownBlock = some k → k < bw := fun k hk => by rw [hbb]; exact (OW.out.lt k hk).2
  have F0 : Hid (Blk v4 b0 [.int .i64 a0.fl, .int .i64 a0.gp, .int .i64 a0.ln, .int .i64 a0.rf, .int .i64 a0.sp, .int .i64 a0.pu, .int .i64 a0.br, .int .i64 a0.dr, .int .i64 a0.lv, .int .i64 a0.dO, .int .i64 a0.ld, .int .i64 a0.qu]) := by rw [hw2]; exact F0.out.alloc _
  have OW : Hid (OwI v4 w.heap.size (.slice wa R.length wc) R) := by rw [hw2]; exact OW.out.alloc _
  have FW : Hid (Blk v4 bw [.int .i64 K, .slice wa R.length wc]) := by rw [hw2]; exact Blk.at_ v3 #[.int .i64 K, .slice wa R.length wc] _ _ hbb
  have FB : Hid (Below w.heap.size w v4) := by rw [hw2]; exact FB.out.alloc FB.out.size _
  (try simp only [Act.put])
  rw [← hw2, ← hbb]
  clear hw2
  have FWc0 := FW.out.c 0 _ rfl
  have FWc1 := FW.out.c 1 _ rfl
  have FWl := FW.out.lt
  obtain ⟨N1, hN1⟩ : ∃ N1, N1 = v4.heap.size := ⟨_, rfl⟩
  have lN1a : b0 < N1 := by rw [hN1]; exact F0.out.lt
  have lN1b : bw < N1 := by rw [hN1]; exact FW.out.lt
  have lN1c : ∀ k, (Value.slice wa R.length wc).ownBlock = some k → k < N1 := fun k hk => by rw [hN1]; exact (OW.out.lt k hk).2
  have lw : w.heap.size ≤ N1 := by rw [hN1]; exact FB.out.size
  have HN1 : Hid (N1 ≤ v4.heap.size) := by show N1 ≤ _; omega
  clear hN1 hbb
  obtain ⟨N2, hN2⟩ : ∃ N2, N2 = v4.heap.size := ⟨_, rfl⟩
  have lN12 : N1 ≤ N2 := by rw [hN2]; exact HN1.out
  have HN2 : Hid (N2 ≤ v4.heap.size) := by show N2 ≤ _; omega
  have FZ : Hid (Below v4.heap.size v4 v4) := Below.refl _ _
  clear hN2
  go_upto_region 3 with (first | (refine load_blk 45 _ Try.underlying45 (by kernel_rfl) F0.out rfl rfl rfl ?_) | (go_at_call 31; refine (toHouse_any a0 _).mono ?_; rintro e v6 ⟨rfl, hb⟩; have FZ : Hid (Below v4.heap.size v4 v6) := FZ.out.trans (hb.mono FZ.out.size); have F0 : Hid (Blk v6 b0 [.int .i64 a0.fl, .int .i64 a0.gp, .int .i64 a0.ln, .int .i64 a0.rf, .int .i64 a0.sp, .int .i64 a0.pu, .int .i64 a0.br, .int .i64 a0.dr, .int .i64 a0.lv, .int .i64 a0.dO, .int .i64 a0.ld, .int .i64 a0.qu]) := F0.out.below hb F0.out.lt; have FW : Hid (Blk v6 bw [.int .i64 K, .slice wa R.length wc]) := FW.out.below hb FW.out.lt; have OW : Hid (OwI v6 w.heap.size (.slice wa R.length wc) R) := OW.out.below hb (fun k hk => (OW.out.lt k hk).2); have FB : Hid (Below w.heap.size w v6) := FB.out.trans (hb.mono FB.out.size); have FWc0 := FW.out.c 0 _ rfl; have FWc1 := FW.out.c 1 _ rfl; have FWl := FW.out.lt; clear hb) | (go_at_call 24; refine (CI _).mono ?_; rintro e v7 ⟨⟨vg, rfl, ho⟩, hb⟩; obtain ⟨ga, gc, rfl⟩ := ho.sl; have OG : Hid (OwI v7 N2 (.slice ga R.length gc) R) := ho.base (Nat.le_trans HN2.out FZ.out.size); have FZ : Hid (Below v4.heap.size v4 v7) := FZ.out.trans (hb.mono FZ.out.size); have F0 : Hid (Blk v7 b0 [.int .i64 a0.fl, .int .i64 a0.gp, .int .i64 a0.ln, .int .i64 a0.rf, .int .i64 a0.sp, .int .i64 a0.pu, .int .i64 a0.br, .int .i64 a0.dr, .int .i64 a0.lv, .int .i64 a0.dO, .int .i64 a0.ld, .int .i64 a0.qu]) := F0.out.below hb F0.out.lt; have FW : Hid (Blk v7 bw [.int .i64 K, .slice wa R.length wc]) := FW.out.below hb FW.out.lt; have OW : Hid (OwI v7 w.heap.size (.slice wa R.length wc) R) := OW.out.below hb (fun k hk => (OW.out.lt k hk).2); have FB : Hid (Below w.heap.size w v7) := FB.out.trans (hb.mono FB.out.size); have FWc0 := FW.out.c 0 _ rfl; have FWc1 := FW.out.c 1 _ rfl; have FWl := FW.out.lt; clear hb; clear ho) | (refine store_new [.int .i64 K, .slice ga R.length gc] 30 _ _ (by kernel_rfl) (by kernel_rfl) (by kernel_rfl) rfl rfl rfl rfl ?_))
  obtain ⟨bg, hbb⟩ : ∃ bg, bg = v7.heap.size := ⟨_, rfl⟩
  obtain ⟨v8, hw2⟩ : ∃ v8, v8 = v7.alloc (.cells #[.int .i64 K, .slice ga R.length gc] 30) := ⟨_, rfl⟩
  have ltbgOW : ∀ k, (Value.slice wa R.length wc).ownBlock = some k → k < bg := fun k hk => by rw [hbb]; exact (OW.out.lt k hk).2
  have ltbgOG : ∀ k, (Value.slice ga R.length gc).ownBlock = some k → k < bg := fun k hk => by rw [hbb]; exact (OG.out.lt k hk).2
  have F0 : Hid (Blk v8 b0 [.int .i64 a0.fl, .int .i64 a0.gp, .int .i64 a0.ln, .int .i64 a0.rf, .int .i64 a0.sp, .int .i64 a0.pu, .int .i64 a0.br, .int .i64 a0.dr, .int .i64 a0.lv, .int .i64 a0.dO, .int .i64 a0.ld, .int .i64 a0.qu]) := by rw [hw2]; exact F0.out.alloc _
  have FW : Hid (Blk v8 bw [.int .i64 K, .slice wa R.length wc]) := by rw [hw2]; exact FW.out.alloc _
  have OW : Hid (OwI v8 w.heap.size (.slice wa R.length wc) R) := by rw [hw2]; exact OW.out.alloc _
  have OG : Hid (OwI v8 N2 (.slice ga R.length gc) R) := by rw [hw2]; exact OG.out.alloc _
  have FG : Hid (Blk v8 bg [.int .i64 K, .slice ga R.length gc]) := by rw [hw2]; exact Blk.at_ v7 #[.int .i64 K, .slice ga R.length gc] _ _ hbb
  have FB : Hid (Below w.heap.size w v8) := by rw [hw2]; exact FB.out.alloc FB.out.size _
  (try simp only [Act.put])
  rw [← hw2, ← hbb]
  clear hw2
  have FWc0 := FW.out.c 0 _ rfl
  have FWc1 := FW.out.c 1 _ rfl
  have FWl := FW.out.lt
  have FGc0 := FG.out.c 0 _ rfl
  have FGc1 := FG.out.c 1 _ rfl
  have FGl := FG.out.lt
  have lbg : N2 ≤ bg := by rw [hbb]; exact Nat.le_trans HN2.out FZ.out.size
  have lOG : ∀ k, (Value.slice ga R.length gc).ownBlock = some k → N2 ≤ k ∧ k < bg := fun k hk => ⟨(OG.out.lt k hk).1, ltbgOG k hk⟩
  clear hbb FZ HN1 HN2 ltbgOG ltbgOW
  go_upto_region 5 with (go_at_call 35; refine (eqIntsResult_same K _ _ _ _ R hRl _ OG.out.iin OW.out.iin).mono ?_; rintro e v9 ⟨rfl, hb⟩; have F0 : Hid (Blk v9 b0 [.int .i64 a0.fl, .int .i64 a0.gp, .int .i64 a0.ln, .int .i64 a0.rf, .int .i64 a0.sp, .int .i64 a0.pu, .int .i64 a0.br, .int .i64 a0.dr, .int .i64 a0.lv, .int .i64 a0.dO, .int .i64 a0.ld, .int .i64 a0.qu]) := F0.out.below hb F0.out.lt; have FW : Hid (Blk v9 bw [.int .i64 K, .slice wa R.length wc]) := FW.out.below hb FW.out.lt; have FG : Hid (Blk v9 bg [.int .i64 K, .slice ga R.length gc]) := FG.out.below hb FG.out.lt; have OW : Hid (OwI v9 w.heap.size (.slice wa R.length wc) R) := OW.out.below hb (fun k hk => (OW.out.lt k hk).2); have OG : Hid (OwI v9 N2 (.slice ga R.length gc) R) := OG.out.below hb (fun k hk => (OG.out.lt k hk).2); have FB : Hid (Below w.heap.size w v9) := FB.out.trans (hb.mono FB.out.size); have FWc0 := FW.out.c 0 _ rfl; have FWc1 := FW.out.c 1 _ rfl; have FWl := FW.out.lt; have FGc0 := FG.out.c 0 _ rfl; have FGc1 := FG.out.c 1 _ rfl; have FGl := FG.out.lt; clear hb)
  go_upto_region 7 with (go_at_call 36; refine (markIntsResult_any N2 K _ R 1 (by omega) (by omega) hRl _ OG.out).mono ?_; rintro e v14 ⟨rfl, ho, ht⟩; have F0 : Hid (Blk v14 b0 [.int .i64 a0.fl, .int .i64 a0.gp, .int .i64 a0.ln, .int .i64 a0.rf, .int .i64 a0.sp, .int .i64 a0.pu, .int .i64 a0.br, .int .i64 a0.dr, .int .i64 a0.lv, .int .i64 a0.dO, .int .i64 a0.ld, .int .i64 a0.qu]) := F0.out.grown ht.g (fun e => by have := lOG _ e.symm; omega); have FW : Hid (Blk v14 bw [.int .i64 K, .slice wa R.length wc]) := FW.out.grown ht.g (fun e => by have := lOG _ e.symm; omega); have FG : Hid (Blk v14 bg [.int .i64 K, .slice ga R.length gc]) := FG.out.grown ht.g (fun e => by have := lOG _ e.symm; omega); have OW : Hid (OwI v14 w.heap.size (.slice wa R.length wc) R) := OW.out.kept ht.g (apartI (N := N2) (fun k hk => by have := lN1c k hk; omega) (fun k hk => (lOG k hk).1)); have FB : Hid (Below w.heap.size w v14) := FB.out.grown ht.g FB.out.size (fun j hj => by have := (lOG j hj).1; omega); have OM : Hid (OwI v14 N2 (.slice ga R.length gc) (markI 1 R.length)) := ho; have FWc0 := FW.out.c 0 _ rfl; have FWc1 := FW.out.c 1 _ rfl; have FWl := FW.out.lt; have FGc0 := FG.out.c 0 _ rfl; have FGc1 := FG.out.c 1 _ rfl; have FGl := FG.out.lt; clear ho ht OG)
  have hq0 : decide ((1 : Int) + (R.length : Int) < 0) = false := decide_eq_false (by omega)
  have hq1 : ((1 : Int) + (R.length : Int) != 1 + (R.length : Int)) = false := by simp
  go_upto_region 13 with (go_at_call 37; refine (heldIntsResult_any N2 K _ R.length 1 (by omega) (by omega) hRl _ OM.out).mono ?_; rintro e v15 ⟨rfl, hb⟩; have F0 : Hid (Blk v15 b0 [.int .i64 a0.fl, .int .i64 a0.gp, .int .i64 a0.ln, .int .i64 a0.rf, .int .i64 a0.sp, .int .i64 a0.pu, .int .i64 a0.br, .int .i64 a0.dr, .int .i64 a0.lv, .int .i64 a0.dO, .int .i64 a0.ld, .int .i64 a0.qu]) := F0.out.below hb F0.out.lt; have FW : Hid (Blk v15 bw [.int .i64 K, .slice wa R.length wc]) := FW.out.below hb FW.out.lt; have FG : Hid (Blk v15 bg [.int .i64 K, .slice ga R.length gc]) := FG.out.below hb FG.out.lt; have OW : Hid (OwI v15 w.heap.size (.slice wa R.length wc) R) := OW.out.below hb (fun k hk => (OW.out.lt k hk).2); have OM : Hid (OwI v15 N2 (.slice ga R.length gc) (markI 1 R.length)) := OM.out.below hb (fun k hk => (OM.out.lt k hk).2); have FB : Hid (Below w.heap.size w v15) := FB.out.trans (hb.mono FB.out.size); have FWc0 := FW.out.c 0 _ rfl; have FWc1 := FW.out.c 1 _ rfl; have FWl := FW.out.lt; have FGc0 := FG.out.c 0 _ rfl; have FGc1 := FG.out.c 1 _ rfl; have FGl := FG.out.lt; clear hb)
  go_upto_region 14 with (first | (refine load_blk 45 _ Try.underlying45 (by kernel_rfl) F0.out rfl rfl rfl ?_) | (go_at_call 31; refine (toHouse_any a0 _).mono ?_; rintro e v16 ⟨rfl, hb⟩; have F0 : Hid (Blk v16 b0 [.int .i64 a0.fl, .int .i64 a0.gp, .int .i64 a0.ln, .int .i64 a0.rf, .int .i64 a0.sp, .int .i64 a0.pu, .int .i64 a0.br, .int .i64 a0.dr, .int .i64 a0.lv, .int .i64 a0.dO, .int .i64 a0.ld, .int .i64 a0.qu]) := F0.out.below hb F0.out.lt; have FW : Hid (Blk v16 bw [.int .i64 K, .slice wa R.length wc]) := FW.out.below hb FW.out.lt; have FG : Hid (Blk v16 bg [.int .i64 K, .slice ga R.length gc]) := FG.out.below hb FG.out.lt; have OW : Hid (OwI v16 w.heap.size (.slice wa R.length wc) R) := OW.out.below hb (fun k hk => (OW.out.lt k hk).2); have OM : Hid (OwI v16 N2 (.slice ga R.length gc) (markI 1 R.length)) := OM.out.below hb (fun k hk => (OM.out.lt k hk).2); have FB : Hid (Below w.heap.size w v16) := FB.out.trans (hb.mono FB.out.size); have FWc0 := FW.out.c 0 _ rfl; have FWc1 := FW.out.c 1 _ rfl; have FWl := FW.out.lt; have FGc0 := FG.out.c 0 _ rfl; have FGc1 := FG.out.c 1 _ rfl; have FGl := FG.out.lt; clear hb) | (go_at_call 24; refine (CI _).mono ?_; rintro e v18 ⟨⟨vh, rfl, ho⟩, hb⟩; obtain ⟨ha, hc, rfl⟩ := ho.sl; have OH : Hid (OwI v18 w.heap.size (.slice ha R.length hc) R) := ho.base FB.out.size; have F0 : Hid (Blk v18 b0 [.int .i64 a0.fl, .int .i64 a0.gp, .int .i64 a0.ln, .int .i64 a0.rf, .int .i64 a0.sp, .int .i64 a0.pu, .int .i64 a0.br, .int .i64 a0.dr, .int .i64 a0.lv, .int .i64 a0.dO, .int .i64 a0.ld, .int .i64 a0.qu]) := F0.out.below hb F0.out.lt; have FW : Hid (Blk v18 bw [.int .i64 K, .slice wa R.length wc]) := FW.out.below hb FW.out.lt; have FG : Hid (Blk v18 bg [.int .i64 K, .slice ga R.length gc]) := FG.out.below hb FG.out.lt; have OW : Hid (OwI v18 w.heap.size (.slice wa R.length wc) R) := OW.out.below hb (fun k hk => (OW.out.lt k hk).2); have OM : Hid (OwI v18 N2 (.slice ga R.length gc) (markI 1 R.length)) := OM.out.below hb (fun k hk => (OM.out.lt k hk).2); have FB : Hid (Below w.heap.size w v18) := FB.out.trans (hb.mono FB.out.size); have FWc0 := FW.out.c 0 _ rfl; have FWc1 := FW.out.c 1 _ rfl; have FWl := FW.out.lt; have FGc0 := FG.out.c 0 _ rfl; have FGc1 := FG.out.c 1 _ rfl; have FGl := FG.out.lt; clear hb; clear ho) | (refine store_new [.int .i64 K, .slice ha R.length hc] 30 _ _ (by kernel_rfl) (by kernel_rfl) (by kernel_rfl) rfl rfl rfl rfl ?_))
  obtain ⟨bh, hbb⟩ : ∃ bh, bh = v18.heap.size := ⟨_, rfl⟩
  obtain ⟨v19, hw2⟩ : ∃ v19, v19 = v18.alloc (.cells #[.int .i64 K, .slice ha R.length hc] 30) := ⟨_, rfl⟩
  have ltbhOW : ∀ k, (Value.slice wa R.length wc).ownBlock = some k → k < bh := fun k hk => by rw [hbb]; exact (OW.out.lt k hk).2
  have ltbhOM : ∀ k, (Value.slice ga R.length gc).ownBlock = some k → k < bh := fun k hk => by rw [hbb]; exact (OM.out.lt k hk).2
  have ltbhOH : ∀ k, (Value.slice ha R.length hc).ownBlock = some k → k < bh := fun k hk => by rw [hbb]; exact (OH.out.lt k hk).2
  have F0 : Hid (Blk v19 b0 [.int .i64 a0.fl, .int .i64 a0.gp, .int .i64 a0.ln, .int .i64 a0.rf, .int .i64 a0.sp, .int .i64 a0.pu, .int .i64 a0.br, .int .i64 a0.dr, .int .i64 a0.lv, .int .i64 a0.dO, .int .i64 a0.ld, .int .i64 a0.qu]) := by rw [hw2]; exact F0.out.alloc _
  have FW : Hid (Blk v19 bw [.int .i64 K, .slice wa R.length wc]) := by rw [hw2]; exact FW.out.alloc _
  have FG : Hid (Blk v19 bg [.int .i64 K, .slice ga R.length gc]) := by rw [hw2]; exact FG.out.alloc _
  have OW : Hid (OwI v19 w.heap.size (.slice wa R.length wc) R) := by rw [hw2]; exact OW.out.alloc _
  have OM : Hid (OwI v19 N2 (.slice ga R.length gc) (markI 1 R.length)) := by rw [hw2]; exact OM.out.alloc _
  have OH : Hid (OwI v19 w.heap.size (.slice ha R.length hc) R) := by rw [hw2]; exact OH.out.alloc _
  have FH : Hid (Blk v19 bh [.int .i64 K, .slice ha R.length hc]) := by rw [hw2]; exact Blk.at_ v18 #[.int .i64 K, .slice ha R.length hc] _ _ hbb
  have FB : Hid (Below w.heap.size w v19) := by rw [hw2]; exact FB.out.alloc FB.out.size _
  (try simp only [Act.put])
  rw [← hw2, ← hbb]
  clear hw2
  have FWc0 := FW.out.c 0 _ rfl
  have FWc1 := FW.out.c 1 _ rfl
  have FWl := FW.out.lt
  have FGc0 := FG.out.c 0 _ rfl
  have FGc1 := FG.out.c 1 _ rfl
  have FGl := FG.out.lt
  have FHc0 := FH.out.c 0 _ rfl
  have FHc1 := FH.out.c 1 _ rfl
  have FHl := FH.out.lt
  clear hbb
  go_upto_region 16 with (go_at_call 35; refine (eqIntsResult_same K _ _ _ _ R hRl _ OH.out.iin OW.out.iin).mono ?_; rintro e v20 ⟨rfl, hb⟩; have F0 : Hid (Blk v20 b0 [.int .i64 a0.fl, .int .i64 a0.gp, .int .i64 a0.ln, .int .i64 a0.rf, .int .i64 a0.sp, .int .i64 a0.pu, .int .i64 a0.br, .int .i64 a0.dr, .int .i64 a0.lv, .int .i64 a0.dO, .int .i64 a0.ld, .int .i64 a0.qu]) := F0.out.below hb F0.out.lt; have FW : Hid (Blk v20 bw [.int .i64 K, .slice wa R.length wc]) := FW.out.below hb FW.out.lt; have FG : Hid (Blk v20 bg [.int .i64 K, .slice ga R.length gc]) := FG.out.below hb FG.out.lt; have FH : Hid (Blk v20 bh [.int .i64 K, .slice ha R.length hc]) := FH.out.below hb FH.out.lt; have OW : Hid (OwI v20 w.heap.size (.slice wa R.length wc) R) := OW.out.below hb (fun k hk => (OW.out.lt k hk).2); have OM : Hid (OwI v20 N2 (.slice ga R.length gc) (markI 1 R.length)) := OM.out.below hb (fun k hk => (OM.out.lt k hk).2); have OH : Hid (OwI v20 w.heap.size (.slice ha R.length hc) R) := OH.out.below hb (fun k hk => (OH.out.lt k hk).2); have FB : Hid (Below w.heap.size w v20) := FB.out.trans (hb.mono FB.out.size); have FWc0 := FW.out.c 0 _ rfl; have FWc1 := FW.out.c 1 _ rfl; have FWl := FW.out.lt; have FGc0 := FG.out.c 0 _ rfl; have FGc1 := FG.out.c 1 _ rfl; have FGl := FG.out.lt; have FHc0 := FH.out.c 0 _ rfl; have FHc1 := FH.out.c 1 _ rfl; have FHl := FH.out.lt; clear hb)
  go_wp2_with (go_at_call 37; refine (heldIntsResult_any N2 K _ R.length 1 (by omega) (by omega) hRl _ OM.out).mono ?_; rintro e v21 ⟨rfl, hb⟩; have F0 : Hid (Blk v21 b0 [.int .i64 a0.fl, .int .i64 a0.gp, .int .i64 a0.ln, .int .i64 a0.rf, .int .i64 a0.sp, .int .i64 a0.pu, .int .i64 a0.br, .int .i64 a0.dr, .int .i64 a0.lv, .int .i64 a0.dO, .int .i64 a0.ld, .int .i64 a0.qu]) := F0.out.below hb F0.out.lt; have FW : Hid (Blk v21 bw [.int .i64 K, .slice wa R.length wc]) := FW.out.below hb FW.out.lt; have FG : Hid (Blk v21 bg [.int .i64 K, .slice ga R.length gc]) := FG.out.below hb FG.out.lt; have FH : Hid (Blk v21 bh [.int .i64 K, .slice ha R.length hc]) := FH.out.below hb FH.out.lt; have OW : Hid (OwI v21 w.heap.size (.slice wa R.length wc) R) := OW.out.below hb (fun k hk => (OW.out.lt k hk).2); have OM : Hid (OwI v21 N2 (.slice ga R.length gc) (markI 1 R.length)) := OM.out.below hb (fun k hk => (OM.out.lt k hk).2); have OH : Hid (OwI v21 w.heap.size (.slice ha R.length hc) R) := OH.out.below hb (fun k hk => (OH.out.lt k hk).2); have FB : Hid (Below w.heap.size w v21) := FB.out.trans (hb.mono FB.out.size); have FWc0 := FW.out.c 0 _ rfl; have FWc1 := FW.out.c 1 _ rfl; have FWl := FW.out.lt; have FGc0 := FG.out.c 0 _ rfl; have FGc1 := FG.out.c 1 _ rfl; have FGl := FG.out.lt; have FHc0 := FH.out.c 0 _ rfl; have FHc1 := FH.out.c 1 _ rfl; have FHl := FH.out.lt; clear hb)
  go_ret
  exact ⟨by simp, FB.out⟩

set_option maxRecDepth 100000 in
theorem lifted (os : Os) (started : os.Started) (H : Type) (enc : TypeId × Value → H) :
    ReturnsInHanded {} Try.checked os 10 .any (Rows.fnExactSplitZonesSpec.pre6 enc Try.prog Try.f10 Rows.fnExactSplitZonesRow.domain false) (Rows.fnExactSplitZonesSpec.post enc Try.prog Try.f10 false true false false) := by
  refine returnsInHanded_of_change (C := Try.checked) own started (by kernel_rfl) Try.func10
    (ChangeSpec.witness6 (enc := enc) (C := Try.checked) false ⟨#[], #[.agg #[.int .i64 0, .int .i64 0, .int .i64 0, .int .i64 0, .int .i64 0, .int .i64 0, .int .i64 0, .int .i64 0, .int .i64 0, .int .i64 0, .int .i64 0, .int .i64 0], .int .i64 0], []⟩ 8 (by kernel_rfl) (by kernel_rfl) (by kernel_rfl) (by kernel_rfl)) ?_
  intro W base args ds gs before hval0 hW hcnd _
  have hval : ∀ (j : Nat) t v, Try.f10.params[j]? = some t → args[j]? = some v → Value.okWide Try.prog W .any base t v := hval0
  have hW' := hW
  obtain ⟨p, q, hA0, hV, rfl, hfz, hnd⟩ := hW
  have hA : DataW.TrodAll enc Try.prog W 0 (fun _ => true) true Try.f10.params.toList args.toList ds p := hA0
  rw [Try.params10] at hA hval
  obtain ⟨v0, vs0, d0, ds0, p0, q0, hargs, rfl, rfl, h0, r0⟩ := trodAll_cons hA
  obtain ⟨v1, vs1, d1, ds1, p1, q1, rfl, rfl, rfl, h1, r1⟩ := trodAll_cons r0
  obtain ⟨rfl, rfl, rfl⟩ := trodAll_nil r1
  obtain rfl : args = #[v0, v1] := by cases args; simp_all
  obtain ⟨rfl, rfl⟩ := trodVars_none hV
  have k0 := h0
  have lt0 : ∀ x ∈ p0, x.block < W.heap.size := by obtain ⟨m, hm⟩ := k0; exact DataW.trod_lt m _ _ _ hm
  obtain ⟨xs0, hl0, rfl, w0⟩ := open_i64s Try.underlying45 Try.underlying2 (by kernel_rfl) (by kernel_rfl) (by kernel_rfl) (hval 0 45 v0 rfl rfl) h0
  obtain ⟨x0_0, x0_1, x0_2, x0_3, x0_4, x0_5, x0_6, x0_7, x0_8, x0_9, x0_10, x0_11, rfl⟩ := list12 hl0
  have k1 := h1
  have lt1 : ∀ x ∈ p1, x.block < W.heap.size := by obtain ⟨m, hm⟩ := k1; exact DataW.trod_lt m _ _ _ hm
  obtain ⟨a1, rfl, _, _, w1⟩ := open_int Try.underlying2 (hval 1 2 v1 rfl rfl) h1
  clear hA0 hval0
  refine (walk ⟨x0_0, x0_1, x0_2, x0_3, x0_4, x0_5, x0_6, x0_7, x0_8, x0_9, x0_10, x0_11⟩ a1 w0 w1 W).mono fun e W' ⟨he, bel⟩ => ?_
  subst he
  exact ⟨_, rfl, _, _, _, [], _, [], hW', trodAll_mk1 (shut_bool Try.underlying4 _), (trodAll_cons_mk (Below.trod laidOut (by kernel_rfl) (of_decide_eq_true (by kernel_rfl)) k0 bel lt0) (trodAll_cons_mk (Below.trod laidOut (by kernel_rfl) (of_decide_eq_true (by kernel_rfl)) k1 bel lt1) trodAll_mk0)), rfl, bel.frame _, fun h => by cases h⟩

theorem over : Rows.fnExactSplitZonesRow.holds Try.pinned (OpenSpec.ofChange Rows.fnExactSplitZonesSpec) :=
  OpenClaim.holds_of_wide 10 Try.f10 rfl rfl rfl rfl rfl rfl rfl ⟨rfl, rfl, rfl, rfl, rfl⟩ rfl rfl rfl rfl rfl (by kernel_rfl) Try.func10 (by kernel_rfl)
    (of_decide_eq_true (by kernel_rfl)) (by unfold Func.isWrapper; first | (rw [if_pos (by decide +kernel)]; kernel_rfl) | (rw [if_neg (by decide +kernel)]; exact ⟨rfl, rfl⟩))
    (fun os started H enc _ => lifted os started H enc)

theorem proved : Rows.FnExactSplitZonesSaid := over
end Go.Proofs.Ytobiofheekandaa.fnExactSplitZones

namespace Go.Proofs.Ytobiofheekandaa
theorem fnExactSplitZones_holds : Rows.FnExactSplitZonesSaid := fnExactSplitZones.proved
#print axioms fnExactSplitZones_holds
end Go.Proofs.Ytobiofheekandaa
