/-
  The pairs of floors that no zone has both of are told by the program as the model tells them, at every house and list of zones.
-/
import Derived.Test.YtnpnlckdggakmaaRows
import Derived.WalkKit
import Derived.ProofKit
import Derived.OpenShut
import Derived.ChangeOld
import Derived.Below
import Derived.Test.YtnpnlckdggakmaaPaiS
import Derived.Test.YtnpnlckdggakmaaPaiI
import Derived.Test.YtnpnlckdggakmaaIntM
import Derived.Test.YtnpnlckdggakmaaIntA
import Derived.Test.YtnpnlckdggakmaaFnd
namespace Go.Proofs.Ytnpnlckdggakmaa.fnExactPairsLost
open Go.ChangeShapes Go.WideShapes Go.ChangeAt Go.RowKit
set_option linter.unusedVariables false
set_option linter.unusedSimpArgs false

theorem own : ownKnob Try.prog.godebug = none := by kernel_rfl
theorem laidOut : laidOutB Try.prog = true := by kernel_rfl

set_option maxRecDepth 20000 in
set_option maxHeartbeats 32000000 in
theorem walk (a0 : Pl.Hs) (a1 : List Int) (w0 : ∀ x ∈ [a0.fl, a0.gp, a0.ln, a0.rf, a0.sp, a0.pu, a0.br, a0.dr, a0.lv, a0.dO, a0.ld, a0.qu], (Lit.int .i64 x).wf = true) (p1 : Option Addr) (n1 : Nat) (w1 : ∀ x ∈ a1, (Lit.int .i64 x).wf = true) (l1 : a1.length ≤ maxLen) (w : World) (q1 : AIn w w.heap.size p1 a1) :
    Calls Try.prog 7 #[.agg #[.int .i64 a0.fl, .int .i64 a0.gp, .int .i64 a0.ln, .int .i64 a0.rf, .int .i64 a0.sp, .int .i64 a0.pu, .int .i64 a0.br, .int .i64 a0.dr, .int .i64 a0.lv, .int .i64 a0.dO, .int .i64 a0.ld, .int .i64 a0.qu], .slice p1 a1.length n1] w fun e w' => e = .returned (.bool true) ∧ Below w.heap.size w w' := by
  have FA : Hid (Below w.heap.size w (w.alloc (.cells #[.int .i64 a0.fl, .int .i64 a0.gp, .int .i64 a0.ln, .int .i64 a0.rf, .int .i64 a0.sp, .int .i64 a0.pu, .int .i64 a0.br, .int .i64 a0.dr, .int .i64 a0.lv, .int .i64 a0.dO, .int .i64 a0.ld, .int .i64 a0.qu] 44))) := (Below.refl _ _).alloc (Nat.le_refl _) _
  by_cases hg1 : 1048576 < a1.length
  · have d1 : decide ((1048576 : Int) < (a1.length : Int)) = true := decide_eq_true (by omega)
    go_enter Try.func7, Try.ntmps7
    go_wp2
    go_ret
    exact ⟨rfl, FA.out⟩
  have d1 : decide ((1048576 : Int) < (a1.length : Int)) = false := decide_eq_false (by omega)
  have hl1 : a1.length ≤ 1048576 := by omega
  have HP1 : Hid (AIn w w.heap.size p1 a1) := q1
  obtain ⟨K, R, hRl, CS, CI⟩ : ∃ (K : Int) (R : List Int), R.length ≤ 1048576 ∧ (∀ (W : World) (a : Option Addr) (ca : Nat), IIn W a a1 → Calls Try.prog 21 #[.agg #[.int .i64 a0.fl, .int .i64 a0.gp, .int .i64 a0.ln, .int .i64 a0.rf, .int .i64 a0.sp, .int .i64 a0.pu, .int .i64 a0.br, .int .i64 a0.dr, .int .i64 a0.lv, .int .i64 a0.dO, .int .i64 a0.ld, .int .i64 a0.qu], .slice a a1.length ca] W fun e w' => (∃ v, e = .returned (.agg #[.int .i64 K, v]) ∧ OwI w' W.heap.size v R) ∧ Below W.heap.size W w') ∧ (∀ (W : World) (a : Option Addr) (ca : Nat), IIn W a a1 → Calls Try.prog 20 #[.agg #[.int .i64 a0.fl, .int .i64 a0.gp, .int .i64 a0.ln, .int .i64 a0.rf, .int .i64 a0.sp, .int .i64 a0.pu, .int .i64 a0.br, .int .i64 a0.dr, .int .i64 a0.lv, .int .i64 a0.dO, .int .i64 a0.ld, .int .i64 a0.qu], .slice a a1.length ca] W fun e w' => (∃ v, e = .returned (.agg #[.int .i64 K, v]) ∧ OwI w' W.heap.size v R) ∧ Below W.heap.size W w') := ⟨_, _, Pl.plL_len a0 a1, fun W a ca ha => specPairs_any a0 a1 a ca hl1 W ha, fun W a ca ha => implPairs_any a0 a1 a ca hl1 W ha⟩
  clear q1 hg1
  obtain ⟨b0, hbb⟩ : ∃ b0, b0 = w.heap.size := ⟨_, rfl⟩
  obtain ⟨v0, hw2⟩ : ∃ v0, v0 = w.alloc (.cells #[.int .i64 a0.fl, .int .i64 a0.gp, .int .i64 a0.ln, .int .i64 a0.rf, .int .i64 a0.sp, .int .i64 a0.pu, .int .i64 a0.br, .int .i64 a0.dr, .int .i64 a0.lv, .int .i64 a0.dO, .int .i64 a0.ld, .int .i64 a0.qu] 44) := ⟨_, rfl⟩
  have F0 : Hid (Blk v0 b0 [.int .i64 a0.fl, .int .i64 a0.gp, .int .i64 a0.ln, .int .i64 a0.rf, .int .i64 a0.sp, .int .i64 a0.pu, .int .i64 a0.br, .int .i64 a0.dr, .int .i64 a0.lv, .int .i64 a0.dO, .int .i64 a0.ld, .int .i64 a0.qu]) := by rw [hw2]; exact Blk.at_ w #[.int .i64 a0.fl, .int .i64 a0.gp, .int .i64 a0.ln, .int .i64 a0.rf, .int .i64 a0.sp, .int .i64 a0.pu, .int .i64 a0.br, .int .i64 a0.dr, .int .i64 a0.lv, .int .i64 a0.dO, .int .i64 a0.ld, .int .i64 a0.qu] _ _ hbb
  have FB : Hid (Below w.heap.size w v0) := by rw [hw2]; exact FA.out
  go_enter Try.func7, Try.ntmps7
  go_upto_region 3 with fail
  rw [← hw2, ← hbb]
  clear hw2 hbb FA
  go_upto_region 4 with (first | (refine load_blk 44 _ Try.underlying44 (by kernel_rfl) F0.out rfl rfl rfl ?_) | (go_at_call 23; refine (toHouse_any a0 _).mono ?_; rintro e v1 ⟨rfl, hb⟩; have F0 : Hid (Blk v1 b0 [.int .i64 a0.fl, .int .i64 a0.gp, .int .i64 a0.ln, .int .i64 a0.rf, .int .i64 a0.sp, .int .i64 a0.pu, .int .i64 a0.br, .int .i64 a0.dr, .int .i64 a0.lv, .int .i64 a0.dO, .int .i64 a0.ld, .int .i64 a0.qu]) := F0.out.below hb F0.out.lt; have FB : Hid (Below w.heap.size w v1) := FB.out.trans (hb.mono FB.out.size); clear hb) | (go_at_call 24; refine (toInt64S_any p1 n1 a1 hl1 _ ((HP1.out.below FB.out (Nat.le_refl _)).mono FB.out.size)).mono ?_; rintro e v2 ⟨g1, rfl, ho, hb⟩; have O1 : Hid (IIn v2 (some ⟨g1, 0, none⟩) a1) := ho.iin; have F0 : Hid (Blk v2 b0 [.int .i64 a0.fl, .int .i64 a0.gp, .int .i64 a0.ln, .int .i64 a0.rf, .int .i64 a0.sp, .int .i64 a0.pu, .int .i64 a0.br, .int .i64 a0.dr, .int .i64 a0.lv, .int .i64 a0.dO, .int .i64 a0.ld, .int .i64 a0.qu]) := F0.out.below hb F0.out.lt; have FB : Hid (Below w.heap.size w v2) := FB.out.trans (hb.mono FB.out.size); clear hb; clear ho) | (go_at_call 21; refine (CS _ _ _ O1.out).mono ?_; rintro e v3 ⟨⟨vw, rfl, ho⟩, hb⟩; obtain ⟨wa, wc, rfl⟩ := ho.sl; have OW : Hid (OwI v3 w.heap.size (.slice wa R.length wc) R) := ho.base FB.out.size; have F0 : Hid (Blk v3 b0 [.int .i64 a0.fl, .int .i64 a0.gp, .int .i64 a0.ln, .int .i64 a0.rf, .int .i64 a0.sp, .int .i64 a0.pu, .int .i64 a0.br, .int .i64 a0.dr, .int .i64 a0.lv, .int .i64 a0.dO, .int .i64 a0.ld, .int .i64 a0.qu]) := F0.out.below hb F0.out.lt; have FB : Hid (Below w.heap.size w v3) := FB.out.trans (hb.mono FB.out.size); clear hb; clear ho) | (refine store_new [.int .i64 K, .slice wa R.length wc] 30 _ _ (by kernel_rfl) (by kernel_rfl) (by kernel_rfl) rfl rfl rfl rfl ?_))
  obtain ⟨bw, hbb⟩ : ∃ bw, bw = v3.heap.size := ⟨_, rfl⟩
  obtain ⟨v4, hw2⟩ : ∃ v4, v4 = v3.alloc (.cells #[.int .i64 K, .slice wa R.length wc] 30) := ⟨_, rfl⟩
  have ltbwOW : ∀ k, (Value.slice wa R.length wc).ownBlock = some k → k < bw := fun k hk => by rw [hbb]; exact (OW.out.lt k hk).2
  have F0 : Hid (Blk v4 b0 [.int .i64 a0.fl, .int .i64 a0.gp, .int .i64 a0.ln, .int .i64 a0.rf, .int .i64 a0.sp, .int .i64 a0.pu, .int .i64 a0.br, .int .i64 a0.dr, .int .i64 a0.lv, .int .i64 a0.dO, .int .i64 a0.ld, .int .i64 a0.qu]) := by rw [hw2]; exact F0.out.alloc _
  have OW : Hid (OwI v4 w.heap.size (.slice wa R.length wc) R) := by rw [hw2]; exact OW.out.alloc _
  have FW : Hid (Blk v4 bw [.int .i64 K, .slice wa R.length wc]) := by rw [hw2]; exact Blk.at_ v3 #[.int .i64 K, .slice wa R.length wc] _ _ hbb
  have FB : Hid (Below w.heap.size w v4) := by rw [hw2]; exact FB.out.alloc FB.out.size _
  (try simp only [Act.put])
  rw [← hw2, ← hbb]
  clear hw2
  have FWc0 := FW.out.c 0 _ rfl
  have FWc1 := FW.out.c 1 _ rfl
  have FWl := FW.out.lt
  obtain ⟨N1, hN1⟩ : ∃ N1, N1 = v4.heap.size := ⟨_, rfl⟩
  have lN1a : b0 < N1 := by rw [hN1]; exact F0.out.lt
  have lN1b : bw < N1 := by rw [hN1]; exact FW.out.lt
  have lN1c : ∀ k, (Value.slice wa R.length wc).ownBlock = some k → k < N1 := fun k hk => by rw [hN1]; exact (OW.out.lt k hk).2
  have lw : w.heap.size ≤ N1 := by rw [hN1]; exact FB.out.size
  have HN1 : Hid (N1 ≤ v4.heap.size) := by show N1 ≤ _; omega
  clear hN1 hbb
  go_upto_region 5 with (go_at_call 24; refine (toInt64S_any p1 n1 a1 hl1 _ ((HP1.out.below FB.out (Nat.le_refl _)).mono FB.out.size)).mono ?_; rintro e v5 ⟨g2, rfl, ho, hb⟩; have XE : Hid (OwI v5 N1 (.slice (some ⟨g2, 0, none⟩) a1.length a1.length) a1) := ho.base HN1.out; have F0 : Hid (Blk v5 b0 [.int .i64 a0.fl, .int .i64 a0.gp, .int .i64 a0.ln, .int .i64 a0.rf, .int .i64 a0.sp, .int .i64 a0.pu, .int .i64 a0.br, .int .i64 a0.dr, .int .i64 a0.lv, .int .i64 a0.dO, .int .i64 a0.ld, .int .i64 a0.qu]) := F0.out.below hb F0.out.lt; have FW : Hid (Blk v5 bw [.int .i64 K, .slice wa R.length wc]) := FW.out.below hb FW.out.lt; have OW : Hid (OwI v5 w.heap.size (.slice wa R.length wc) R) := OW.out.below hb (fun k hk => (OW.out.lt k hk).2); have FB : Hid (Below w.heap.size w v5) := FB.out.trans (hb.mono FB.out.size); have FWc0 := FW.out.c 0 _ rfl; have FWc1 := FW.out.c 1 _ rfl; have FWl := FW.out.lt; clear hb; clear ho)
  obtain ⟨N2, hN2⟩ : ∃ N2, N2 = v5.heap.size := ⟨_, rfl⟩
  have lg1 : N1 ≤ g2 := (XE.out.lt g2 rfl).1
  have lg2 : g2 < N2 := by rw [hN2]; exact (XE.out.lt g2 rfl).2
  have HN2 : Hid (N2 ≤ v5.heap.size) := by show N2 ≤ _; omega
  have FZ : Hid (Below v5.heap.size v5 v5) := Below.refl _ _
  clear hN2
  go_upto_region 6 with (first | (refine load_blk 44 _ Try.underlying44 (by kernel_rfl) F0.out rfl rfl rfl ?_) | (go_at_call 23; refine (toHouse_any a0 _).mono ?_; rintro e v6 ⟨rfl, hb⟩; have FZ : Hid (Below v5.heap.size v5 v6) := FZ.out.trans (hb.mono FZ.out.size); have F0 : Hid (Blk v6 b0 [.int .i64 a0.fl, .int .i64 a0.gp, .int .i64 a0.ln, .int .i64 a0.rf, .int .i64 a0.sp, .int .i64 a0.pu, .int .i64 a0.br, .int .i64 a0.dr, .int .i64 a0.lv, .int .i64 a0.dO, .int .i64 a0.ld, .int .i64 a0.qu]) := F0.out.below hb F0.out.lt; have FW : Hid (Blk v6 bw [.int .i64 K, .slice wa R.length wc]) := FW.out.below hb FW.out.lt; have OW : Hid (OwI v6 w.heap.size (.slice wa R.length wc) R) := OW.out.below hb (fun k hk => (OW.out.lt k hk).2); have XE : Hid (OwI v6 N1 (.slice (some ⟨g2, 0, none⟩) a1.length a1.length) a1) := XE.out.below hb (fun k hk => (XE.out.lt k hk).2); have FB : Hid (Below w.heap.size w v6) := FB.out.trans (hb.mono FB.out.size); have FWc0 := FW.out.c 0 _ rfl; have FWc1 := FW.out.c 1 _ rfl; have FWl := FW.out.lt; clear hb) | (go_at_call 20; refine (CI _ _ _ XE.out.iin).mono ?_; rintro e v7 ⟨⟨vg, rfl, ho⟩, hb⟩; obtain ⟨ga, gc, rfl⟩ := ho.sl; have OG : Hid (OwI v7 N2 (.slice ga R.length gc) R) := ho.base (Nat.le_trans HN2.out FZ.out.size); have FZ : Hid (Below v5.heap.size v5 v7) := FZ.out.trans (hb.mono FZ.out.size); have F0 : Hid (Blk v7 b0 [.int .i64 a0.fl, .int .i64 a0.gp, .int .i64 a0.ln, .int .i64 a0.rf, .int .i64 a0.sp, .int .i64 a0.pu, .int .i64 a0.br, .int .i64 a0.dr, .int .i64 a0.lv, .int .i64 a0.dO, .int .i64 a0.ld, .int .i64 a0.qu]) := F0.out.below hb F0.out.lt; have FW : Hid (Blk v7 bw [.int .i64 K, .slice wa R.length wc]) := FW.out.below hb FW.out.lt; have OW : Hid (OwI v7 w.heap.size (.slice wa R.length wc) R) := OW.out.below hb (fun k hk => (OW.out.lt k hk).2); have XE : Hid (OwI v7 N1 (.slice (some ⟨g2, 0, none⟩) a1.length a1.length) a1) := XE.out.below hb (fun k hk => (XE.out.lt k hk).2); have FB : Hid (Below w.heap.size w v7) := FB.out.trans (hb.mono FB.out.size); have FWc0 := FW.out.c 0 _ rfl; have FWc1 := FW.out.c 1 _ rfl; have FWl := FW.out.lt; clear hb; clear ho) | (refine store_new [.int .i64 K, .slice ga R.length gc] 30 _ _ (by kernel_rfl) (by kernel_rfl) (by kernel_rfl) rfl rfl rfl rfl ?_))
  obtain ⟨bg, hbb⟩ : ∃ bg, bg = v7.heap.size := ⟨_, rfl⟩
  obtain ⟨v8, hw2⟩ : ∃ v8, v8 = v7.alloc (.cells #[.int .i64 K, .slice ga R.length gc] 30) := ⟨_, rfl⟩
  have ltbgOW : ∀ k, (Value.slice wa R.length wc).ownBlock = some k → k < bg := fun k hk => by rw [hbb]; exact (OW.out.lt k hk).2
  have ltbgOG : ∀ k, (Value.slice ga R.length gc).ownBlock = some k → k < bg := fun k hk => by rw [hbb]; exact (OG.out.lt k hk).2
  have F0 : Hid (Blk v8 b0 [.int .i64 a0.fl, .int .i64 a0.gp, .int .i64 a0.ln, .int .i64 a0.rf, .int .i64 a0.sp, .int .i64 a0.pu, .int .i64 a0.br, .int .i64 a0.dr, .int .i64 a0.lv, .int .i64 a0.dO, .int .i64 a0.ld, .int .i64 a0.qu]) := by rw [hw2]; exact F0.out.alloc _
  have FW : Hid (Blk v8 bw [.int .i64 K, .slice wa R.length wc]) := by rw [hw2]; exact FW.out.alloc _
  have OW : Hid (OwI v8 w.heap.size (.slice wa R.length wc) R) := by rw [hw2]; exact OW.out.alloc _
  have OG : Hid (OwI v8 N2 (.slice ga R.length gc) R) := by rw [hw2]; exact OG.out.alloc _
  have XE : Hid (OwI v8 N1 (.slice (some ⟨g2, 0, none⟩) a1.length a1.length) a1) := by rw [hw2]; exact XE.out.alloc _
  have FG : Hid (Blk v8 bg [.int .i64 K, .slice ga R.length gc]) := by rw [hw2]; exact Blk.at_ v7 #[.int .i64 K, .slice ga R.length gc] _ _ hbb
  have FB : Hid (Below w.heap.size w v8) := by rw [hw2]; exact FB.out.alloc FB.out.size _
  (try simp only [Act.put])
  rw [← hw2, ← hbb]
  clear hw2
  have FWc0 := FW.out.c 0 _ rfl
  have FWc1 := FW.out.c 1 _ rfl
  have FWl := FW.out.lt
  have FGc0 := FG.out.c 0 _ rfl
  have FGc1 := FG.out.c 1 _ rfl
  have FGl := FG.out.lt
  have lbg : N2 ≤ bg := by rw [hbb]; exact Nat.le_trans HN2.out FZ.out.size
  have lOG : ∀ k, (Value.slice ga R.length gc).ownBlock = some k → N2 ≤ k ∧ k < bg := fun k hk => ⟨(OG.out.lt k hk).1, ltbgOG k hk⟩
  clear hbb FZ HN1 HN2 ltbgOG ltbgOW
  go_upto_region 8 with (go_at_call 28; refine (eqIntsResult_same K _ _ _ _ R hRl _ OG.out.iin OW.out.iin).mono ?_; rintro e v9 ⟨rfl, hb⟩; have F0 : Hid (Blk v9 b0 [.int .i64 a0.fl, .int .i64 a0.gp, .int .i64 a0.ln, .int .i64 a0.rf, .int .i64 a0.sp, .int .i64 a0.pu, .int .i64 a0.br, .int .i64 a0.dr, .int .i64 a0.lv, .int .i64 a0.dO, .int .i64 a0.ld, .int .i64 a0.qu]) := F0.out.below hb F0.out.lt; have FW : Hid (Blk v9 bw [.int .i64 K, .slice wa R.length wc]) := FW.out.below hb FW.out.lt; have FG : Hid (Blk v9 bg [.int .i64 K, .slice ga R.length gc]) := FG.out.below hb FG.out.lt; have OW : Hid (OwI v9 w.heap.size (.slice wa R.length wc) R) := OW.out.below hb (fun k hk => (OW.out.lt k hk).2); have OG : Hid (OwI v9 N2 (.slice ga R.length gc) R) := OG.out.below hb (fun k hk => (OG.out.lt k hk).2); have XE : Hid (OwI v9 N1 (.slice (some ⟨g2, 0, none⟩) a1.length a1.length) a1) := XE.out.below hb (fun k hk => (XE.out.lt k hk).2); have FB : Hid (Below w.heap.size w v9) := FB.out.trans (hb.mono FB.out.size); have FWc0 := FW.out.c 0 _ rfl; have FWc1 := FW.out.c 1 _ rfl; have FWl := FW.out.lt; have FGc0 := FG.out.c 0 _ rfl; have FGc1 := FG.out.c 1 _ rfl; have FGl := FG.out.lt; clear hb)
  go_upto_region 10 with (first | (go_at_call 24; refine (toInt64S_any p1 n1 a1 hl1 _ ((HP1.out.below FB.out (Nat.le_refl _)).mono FB.out.size)).mono ?_; rintro e v10 ⟨g3, rfl, ho, hb⟩; have XF : Hid (OwI v10 w.heap.size (.slice (some ⟨g3, 0, none⟩) a1.length a1.length) a1) := ho.base FB.out.size; have F0 : Hid (Blk v10 b0 [.int .i64 a0.fl, .int .i64 a0.gp, .int .i64 a0.ln, .int .i64 a0.rf, .int .i64 a0.sp, .int .i64 a0.pu, .int .i64 a0.br, .int .i64 a0.dr, .int .i64 a0.lv, .int .i64 a0.dO, .int .i64 a0.ld, .int .i64 a0.qu]) := F0.out.below hb F0.out.lt; have FW : Hid (Blk v10 bw [.int .i64 K, .slice wa R.length wc]) := FW.out.below hb FW.out.lt; have FG : Hid (Blk v10 bg [.int .i64 K, .slice ga R.length gc]) := FG.out.below hb FG.out.lt; have OW : Hid (OwI v10 w.heap.size (.slice wa R.length wc) R) := OW.out.below hb (fun k hk => (OW.out.lt k hk).2); have OG : Hid (OwI v10 N2 (.slice ga R.length gc) R) := OG.out.below hb (fun k hk => (OG.out.lt k hk).2); have XE : Hid (OwI v10 N1 (.slice (some ⟨g2, 0, none⟩) a1.length a1.length) a1) := XE.out.below hb (fun k hk => (XE.out.lt k hk).2); have FB : Hid (Below w.heap.size w v10) := FB.out.trans (hb.mono FB.out.size); have FWc0 := FW.out.c 0 _ rfl; have FWc1 := FW.out.c 1 _ rfl; have FWl := FW.out.lt; have FGc0 := FG.out.c 0 _ rfl; have FGc1 := FG.out.c 1 _ rfl; have FGl := FG.out.lt; clear hb; clear ho) | (go_at_call 26; refine (eqInt64S_same _ _ _ _ a1 hl1 _ XE.out.iin XF.out.iin).mono ?_; rintro e v11 ⟨rfl, hb⟩; have F0 : Hid (Blk v11 b0 [.int .i64 a0.fl, .int .i64 a0.gp, .int .i64 a0.ln, .int .i64 a0.rf, .int .i64 a0.sp, .int .i64 a0.pu, .int .i64 a0.br, .int .i64 a0.dr, .int .i64 a0.lv, .int .i64 a0.dO, .int .i64 a0.ld, .int .i64 a0.qu]) := F0.out.below hb F0.out.lt; have FW : Hid (Blk v11 bw [.int .i64 K, .slice wa R.length wc]) := FW.out.below hb FW.out.lt; have FG : Hid (Blk v11 bg [.int .i64 K, .slice ga R.length gc]) := FG.out.below hb FG.out.lt; have OW : Hid (OwI v11 w.heap.size (.slice wa R.length wc) R) := OW.out.below hb (fun k hk => (OW.out.lt k hk).2); have OG : Hid (OwI v11 N2 (.slice ga R.length gc) R) := OG.out.below hb (fun k hk => (OG.out.lt k hk).2); have XE : Hid (OwI v11 N1 (.slice (some ⟨g2, 0, none⟩) a1.length a1.length) a1) := XE.out.below hb (fun k hk => (XE.out.lt k hk).2); have FB : Hid (Below w.heap.size w v11) := FB.out.trans (hb.mono FB.out.size); have FWc0 := FW.out.c 0 _ rfl; have FWc1 := FW.out.c 1 _ rfl; have FWl := FW.out.lt; have FGc0 := FG.out.c 0 _ rfl; have FGc1 := FG.out.c 1 _ rfl; have FGl := FG.out.lt; clear hb; clear XF))
  have hk0 : decide ((1 : Int) + (a1.length : Int) < 0) = false := decide_eq_false (by omega)
  go_upto_region 12 with (go_at_call 29; refine (markInt64S_any N1 _ a1 1 (by omega) (by omega) hl1 _ XE.out).mono ?_; rintro e v12 ⟨rfl, ho, hg⟩; have F0 : Hid (Blk v12 b0 [.int .i64 a0.fl, .int .i64 a0.gp, .int .i64 a0.ln, .int .i64 a0.rf, .int .i64 a0.sp, .int .i64 a0.pu, .int .i64 a0.br, .int .i64 a0.dr, .int .i64 a0.lv, .int .i64 a0.dO, .int .i64 a0.ld, .int .i64 a0.qu]) := F0.out.grown hg (fun e => by have e2 := Option.some.inj e; simp at e2; omega); have FW : Hid (Blk v12 bw [.int .i64 K, .slice wa R.length wc]) := FW.out.grown hg (fun e => by have e2 := Option.some.inj e; simp at e2; omega); have FG : Hid (Blk v12 bg [.int .i64 K, .slice ga R.length gc]) := FG.out.grown hg (fun e => by have e2 := Option.some.inj e; simp at e2; omega); have OW : Hid (OwI v12 w.heap.size (.slice wa R.length wc) R) := OW.out.kept hg (Or.inr (fun e => by have := lN1c g2 e; omega)); have OG : Hid (OwI v12 N2 (.slice ga R.length gc) R) := OG.out.kept hg (Or.inr (fun e => by have := (lOG g2 e).1; omega)); have FB : Hid (Below w.heap.size w v12) := FB.out.grown hg FB.out.size (fun j hj => by have e2 : g2 = j := Option.some.inj hj; omega); have FWc0 := FW.out.c 0 _ rfl; have FWc1 := FW.out.c 1 _ rfl; have FWl := FW.out.lt; have FGc0 := FG.out.c 0 _ rfl; have FGc1 := FG.out.c 1 _ rfl; have FGl := FG.out.lt; clear ho hg XE)
  go_upto_region 15 with (go_at_call 28; refine (eqIntsResult_same K _ _ _ _ R hRl _ OG.out.iin OW.out.iin).mono ?_; rintro e v13 ⟨rfl, hb⟩; have F0 : Hid (Blk v13 b0 [.int .i64 a0.fl, .int .i64 a0.gp, .int .i64 a0.ln, .int .i64 a0.rf, .int .i64 a0.sp, .int .i64 a0.pu, .int .i64 a0.br, .int .i64 a0.dr, .int .i64 a0.lv, .int .i64 a0.dO, .int .i64 a0.ld, .int .i64 a0.qu]) := F0.out.below hb F0.out.lt; have FW : Hid (Blk v13 bw [.int .i64 K, .slice wa R.length wc]) := FW.out.below hb FW.out.lt; have FG : Hid (Blk v13 bg [.int .i64 K, .slice ga R.length gc]) := FG.out.below hb FG.out.lt; have OW : Hid (OwI v13 w.heap.size (.slice wa R.length wc) R) := OW.out.below hb (fun k hk => (OW.out.lt k hk).2); have OG : Hid (OwI v13 N2 (.slice ga R.length gc) R) := OG.out.below hb (fun k hk => (OG.out.lt k hk).2); have FB : Hid (Below w.heap.size w v13) := FB.out.trans (hb.mono FB.out.size); have FWc0 := FW.out.c 0 _ rfl; have FWc1 := FW.out.c 1 _ rfl; have FWl := FW.out.lt; have FGc0 := FG.out.c 0 _ rfl; have FGc1 := FG.out.c 1 _ rfl; have FGl := FG.out.lt; clear hb)
  go_upto_region 16 with (go_at_call 30; refine (markIntsResult_any N2 K _ R 1 (by omega) (by omega) hRl _ OG.out).mono ?_; rintro e v14 ⟨rfl, ho, ht⟩; have F0 : Hid (Blk v14 b0 [.int .i64 a0.fl, .int .i64 a0.gp, .int .i64 a0.ln, .int .i64 a0.rf, .int .i64 a0.sp, .int .i64 a0.pu, .int .i64 a0.br, .int .i64 a0.dr, .int .i64 a0.lv, .int .i64 a0.dO, .int .i64 a0.ld, .int .i64 a0.qu]) := F0.out.grown ht.g (fun e => by have := lOG _ e.symm; omega); have FW : Hid (Blk v14 bw [.int .i64 K, .slice wa R.length wc]) := FW.out.grown ht.g (fun e => by have := lOG _ e.symm; omega); have FG : Hid (Blk v14 bg [.int .i64 K, .slice ga R.length gc]) := FG.out.grown ht.g (fun e => by have := lOG _ e.symm; omega); have OW : Hid (OwI v14 w.heap.size (.slice wa R.length wc) R) := OW.out.kept ht.g (apartI (N := N2) (fun k hk => by have := lN1c k hk; omega) (fun k hk => (lOG k hk).1)); have FB : Hid (Below w.heap.size w v14) := FB.out.grown ht.g FB.out.size (fun j hj => by have := (lOG j hj).1; omega); have OM : Hid (OwI v14 N2 (.slice ga R.length gc) (markI 1 R.length)) := ho; have FWc0 := FW.out.c 0 _ rfl; have FWc1 := FW.out.c 1 _ rfl; have FWl := FW.out.lt; have FGc0 := FG.out.c 0 _ rfl; have FGc1 := FG.out.c 1 _ rfl; have FGl := FG.out.lt; clear ho ht OG)
  have hq0 : decide ((1 : Int) + (R.length : Int) < 0) = false := decide_eq_false (by omega)
  have hq1 : ((1 : Int) + (R.length : Int) != 1 + (R.length : Int)) = false := by simp
  go_upto_region 22 with (go_at_call 31; refine (heldIntsResult_any N2 K _ R.length 1 (by omega) (by omega) hRl _ OM.out).mono ?_; rintro e v15 ⟨rfl, hb⟩; have F0 : Hid (Blk v15 b0 [.int .i64 a0.fl, .int .i64 a0.gp, .int .i64 a0.ln, .int .i64 a0.rf, .int .i64 a0.sp, .int .i64 a0.pu, .int .i64 a0.br, .int .i64 a0.dr, .int .i64 a0.lv, .int .i64 a0.dO, .int .i64 a0.ld, .int .i64 a0.qu]) := F0.out.below hb F0.out.lt; have FW : Hid (Blk v15 bw [.int .i64 K, .slice wa R.length wc]) := FW.out.below hb FW.out.lt; have FG : Hid (Blk v15 bg [.int .i64 K, .slice ga R.length gc]) := FG.out.below hb FG.out.lt; have OW : Hid (OwI v15 w.heap.size (.slice wa R.length wc) R) := OW.out.below hb (fun k hk => (OW.out.lt k hk).2); have OM : Hid (OwI v15 N2 (.slice ga R.length gc) (markI 1 R.length)) := OM.out.below hb (fun k hk => (OM.out.lt k hk).2); have FB : Hid (Below w.heap.size w v15) := FB.out.trans (hb.mono FB.out.size); have FWc0 := FW.out.c 0 _ rfl; have FWc1 := FW.out.c 1 _ rfl; have FWl := FW.out.lt; have FGc0 := FG.out.c 0 _ rfl; have FGc1 := FG.out.c 1 _ rfl; have FGl := FG.out.lt; clear hb)
  go_upto_region 23 with (first | (refine load_blk 44 _ Try.underlying44 (by kernel_rfl) F0.out rfl rfl rfl ?_) | (go_at_call 23; refine (toHouse_any a0 _).mono ?_; rintro e v16 ⟨rfl, hb⟩; have F0 : Hid (Blk v16 b0 [.int .i64 a0.fl, .int .i64 a0.gp, .int .i64 a0.ln, .int .i64 a0.rf, .int .i64 a0.sp, .int .i64 a0.pu, .int .i64 a0.br, .int .i64 a0.dr, .int .i64 a0.lv, .int .i64 a0.dO, .int .i64 a0.ld, .int .i64 a0.qu]) := F0.out.below hb F0.out.lt; have FW : Hid (Blk v16 bw [.int .i64 K, .slice wa R.length wc]) := FW.out.below hb FW.out.lt; have FG : Hid (Blk v16 bg [.int .i64 K, .slice ga R.length gc]) := FG.out.below hb FG.out.lt; have OW : Hid (OwI v16 w.heap.size (.slice wa R.length wc) R) := OW.out.below hb (fun k hk => (OW.out.lt k hk).2); have OM : Hid (OwI v16 N2 (.slice ga R.length gc) (markI 1 R.length)) := OM.out.below hb (fun k hk => (OM.out.lt k hk).2); have FB : Hid (Below w.heap.size w v16) := FB.out.trans (hb.mono FB.out.size); have FWc0 := FW.out.c 0 _ rfl; have FWc1 := FW.out.c 1 _ rfl; have FWl := FW.out.lt; have FGc0 := FG.out.c 0 _ rfl; have FGc1 := FG.out.c 1 _ rfl; have FGl := FG.out.lt; clear hb) | (go_at_call 24; refine (toInt64S_any p1 n1 a1 hl1 _ ((HP1.out.below FB.out (Nat.le_refl _)).mono FB.out.size)).mono ?_; rintro e v17 ⟨g4, rfl, ho, hb⟩; have E4 : Hid (IIn v17 (some ⟨g4, 0, none⟩) a1) := ho.iin; have F0 : Hid (Blk v17 b0 [.int .i64 a0.fl, .int .i64 a0.gp, .int .i64 a0.ln, .int .i64 a0.rf, .int .i64 a0.sp, .int .i64 a0.pu, .int .i64 a0.br, .int .i64 a0.dr, .int .i64 a0.lv, .int .i64 a0.dO, .int .i64 a0.ld, .int .i64 a0.qu]) := F0.out.below hb F0.out.lt; have FW : Hid (Blk v17 bw [.int .i64 K, .slice wa R.length wc]) := FW.out.below hb FW.out.lt; have FG : Hid (Blk v17 bg [.int .i64 K, .slice ga R.length gc]) := FG.out.below hb FG.out.lt; have OW : Hid (OwI v17 w.heap.size (.slice wa R.length wc) R) := OW.out.below hb (fun k hk => (OW.out.lt k hk).2); have OM : Hid (OwI v17 N2 (.slice ga R.length gc) (markI 1 R.length)) := OM.out.below hb (fun k hk => (OM.out.lt k hk).2); have FB : Hid (Below w.heap.size w v17) := FB.out.trans (hb.mono FB.out.size); have FWc0 := FW.out.c 0 _ rfl; have FWc1 := FW.out.c 1 _ rfl; have FWl := FW.out.lt; have FGc0 := FG.out.c 0 _ rfl; have FGc1 := FG.out.c 1 _ rfl; have FGl := FG.out.lt; clear hb; clear ho) | (go_at_call 20; refine (CI _ _ _ E4.out).mono ?_; rintro e v18 ⟨⟨vh, rfl, ho⟩, hb⟩; obtain ⟨ha, hc, rfl⟩ := ho.sl; have OH : Hid (OwI v18 w.heap.size (.slice ha R.length hc) R) := ho.base FB.out.size; have F0 : Hid (Blk v18 b0 [.int .i64 a0.fl, .int .i64 a0.gp, .int .i64 a0.ln, .int .i64 a0.rf, .int .i64 a0.sp, .int .i64 a0.pu, .int .i64 a0.br, .int .i64 a0.dr, .int .i64 a0.lv, .int .i64 a0.dO, .int .i64 a0.ld, .int .i64 a0.qu]) := F0.out.below hb F0.out.lt; have FW : Hid (Blk v18 bw [.int .i64 K, .slice wa R.length wc]) := FW.out.below hb FW.out.lt; have FG : Hid (Blk v18 bg [.int .i64 K, .slice ga R.length gc]) := FG.out.below hb FG.out.lt; have OW : Hid (OwI v18 w.heap.size (.slice wa R.length wc) R) := OW.out.below hb (fun k hk => (OW.out.lt k hk).2); have OM : Hid (OwI v18 N2 (.slice ga R.length gc) (markI 1 R.length)) := OM.out.below hb (fun k hk => (OM.out.lt k hk).2); have FB : Hid (Below w.heap.size w v18) := FB.out.trans (hb.mono FB.out.size); have FWc0 := FW.out.c 0 _ rfl; have FWc1 := FW.out.c 1 _ rfl; have FWl := FW.out.lt; have FGc0 := FG.out.c 0 _ rfl; have FGc1 := FG.out.c 1 _ rfl; have FGl := FG.out.lt; clear hb; clear ho) | (refine store_new [.int .i64 K, .slice ha R.length hc] 30 _ _ (by kernel_rfl) (by kernel_rfl) (by kernel_rfl) rfl rfl rfl rfl ?_))
  obtain ⟨bh, hbb⟩ : ∃ bh, bh = v18.heap.size := ⟨_, rfl⟩
  obtain ⟨v19, hw2⟩ : ∃ v19, v19 = v18.alloc (.cells #[.int .i64 K, .slice ha R.length hc] 30) := ⟨_, rfl⟩
  have ltbhOW : ∀ k, (Value.slice wa R.length wc).ownBlock = some k → k < bh := fun k hk => by rw [hbb]; exact (OW.out.lt k hk).2
  have ltbhOM : ∀ k, (Value.slice ga R.length gc).ownBlock = some k → k < bh := fun k hk => by rw [hbb]; exact (OM.out.lt k hk).2
  have ltbhOH : ∀ k, (Value.slice ha R.length hc).ownBlock = some k → k < bh := fun k hk => by rw [hbb]; exact (OH.out.lt k hk).2
  have F0 : Hid (Blk v19 b0 [.int .i64 a0.fl, .int .i64 a0.gp, .int .i64 a0.ln, .int .i64 a0.rf, .int .i64 a0.sp, .int .i64 a0.pu, .int .i64 a0.br, .int .i64 a0.dr, .int .i64 a0.lv, .int .i64 a0.dO, .int .i64 a0.ld, .int .i64 a0.qu]) := by rw [hw2]; exact F0.out.alloc _
  have FW : Hid (Blk v19 bw [.int .i64 K, .slice wa R.length wc]) := by rw [hw2]; exact FW.out.alloc _
  have FG : Hid (Blk v19 bg [.int .i64 K, .slice ga R.length gc]) := by rw [hw2]; exact FG.out.alloc _
  have OW : Hid (OwI v19 w.heap.size (.slice wa R.length wc) R) := by rw [hw2]; exact OW.out.alloc _
  have OM : Hid (OwI v19 N2 (.slice ga R.length gc) (markI 1 R.length)) := by rw [hw2]; exact OM.out.alloc _
  have OH : Hid (OwI v19 w.heap.size (.slice ha R.length hc) R) := by rw [hw2]; exact OH.out.alloc _
  have FH : Hid (Blk v19 bh [.int .i64 K, .slice ha R.length hc]) := by rw [hw2]; exact Blk.at_ v18 #[.int .i64 K, .slice ha R.length hc] _ _ hbb
  have FB : Hid (Below w.heap.size w v19) := by rw [hw2]; exact FB.out.alloc FB.out.size _
  (try simp only [Act.put])
  rw [← hw2, ← hbb]
  clear hw2
  have FWc0 := FW.out.c 0 _ rfl
  have FWc1 := FW.out.c 1 _ rfl
  have FWl := FW.out.lt
  have FGc0 := FG.out.c 0 _ rfl
  have FGc1 := FG.out.c 1 _ rfl
  have FGl := FG.out.lt
  have FHc0 := FH.out.c 0 _ rfl
  have FHc1 := FH.out.c 1 _ rfl
  have FHl := FH.out.lt
  clear hbb
  go_upto_region 25 with (go_at_call 28; refine (eqIntsResult_same K _ _ _ _ R hRl _ OH.out.iin OW.out.iin).mono ?_; rintro e v20 ⟨rfl, hb⟩; have F0 : Hid (Blk v20 b0 [.int .i64 a0.fl, .int .i64 a0.gp, .int .i64 a0.ln, .int .i64 a0.rf, .int .i64 a0.sp, .int .i64 a0.pu, .int .i64 a0.br, .int .i64 a0.dr, .int .i64 a0.lv, .int .i64 a0.dO, .int .i64 a0.ld, .int .i64 a0.qu]) := F0.out.below hb F0.out.lt; have FW : Hid (Blk v20 bw [.int .i64 K, .slice wa R.length wc]) := FW.out.below hb FW.out.lt; have FG : Hid (Blk v20 bg [.int .i64 K, .slice ga R.length gc]) := FG.out.below hb FG.out.lt; have FH : Hid (Blk v20 bh [.int .i64 K, .slice ha R.length hc]) := FH.out.below hb FH.out.lt; have OW : Hid (OwI v20 w.heap.size (.slice wa R.length wc) R) := OW.out.below hb (fun k hk => (OW.out.lt k hk).2); have OM : Hid (OwI v20 N2 (.slice ga R.length gc) (markI 1 R.length)) := OM.out.below hb (fun k hk => (OM.out.lt k hk).2); have OH : Hid (OwI v20 w.heap.size (.slice ha R.length hc) R) := OH.out.below hb (fun k hk => (OH.out.lt k hk).2); have FB : Hid (Below w.heap.size w v20) := FB.out.trans (hb.mono FB.out.size); have FWc0 := FW.out.c 0 _ rfl; have FWc1 := FW.out.c 1 _ rfl; have FWl := FW.out.lt; have FGc0 := FG.out.c 0 _ rfl; have FGc1 := FG.out.c 1 _ rfl; have FGl := FG.out.lt; have FHc0 := FH.out.c 0 _ rfl; have FHc1 := FH.out.c 1 _ rfl; have FHl := FH.out.lt; clear hb)
  go_wp2_with (go_at_call 31; refine (heldIntsResult_any N2 K _ R.length 1 (by omega) (by omega) hRl _ OM.out).mono ?_; rintro e v21 ⟨rfl, hb⟩; have F0 : Hid (Blk v21 b0 [.int .i64 a0.fl, .int .i64 a0.gp, .int .i64 a0.ln, .int .i64 a0.rf, .int .i64 a0.sp, .int .i64 a0.pu, .int .i64 a0.br, .int .i64 a0.dr, .int .i64 a0.lv, .int .i64 a0.dO, .int .i64 a0.ld, .int .i64 a0.qu]) := F0.out.below hb F0.out.lt; have FW : Hid (Blk v21 bw [.int .i64 K, .slice wa R.length wc]) := FW.out.below hb FW.out.lt; have FG : Hid (Blk v21 bg [.int .i64 K, .slice ga R.length gc]) := FG.out.below hb FG.out.lt; have FH : Hid (Blk v21 bh [.int .i64 K, .slice ha R.length hc]) := FH.out.below hb FH.out.lt; have OW : Hid (OwI v21 w.heap.size (.slice wa R.length wc) R) := OW.out.below hb (fun k hk => (OW.out.lt k hk).2); have OM : Hid (OwI v21 N2 (.slice ga R.length gc) (markI 1 R.length)) := OM.out.below hb (fun k hk => (OM.out.lt k hk).2); have OH : Hid (OwI v21 w.heap.size (.slice ha R.length hc) R) := OH.out.below hb (fun k hk => (OH.out.lt k hk).2); have FB : Hid (Below w.heap.size w v21) := FB.out.trans (hb.mono FB.out.size); have FWc0 := FW.out.c 0 _ rfl; have FWc1 := FW.out.c 1 _ rfl; have FWl := FW.out.lt; have FGc0 := FG.out.c 0 _ rfl; have FGc1 := FG.out.c 1 _ rfl; have FGl := FG.out.lt; have FHc0 := FH.out.c 0 _ rfl; have FHc1 := FH.out.c 1 _ rfl; have FHl := FH.out.lt; clear hb)
  go_ret
  exact ⟨by simp, FB.out⟩

set_option maxRecDepth 100000 in
theorem lifted (os : Os) (started : os.Started) (H : Type) (enc : TypeId × Value → H) :
    ReturnsInHanded {} Try.checked os 7 .any (Rows.fnExactPairsLostSpec.pre6 enc Try.prog Try.f7 Rows.fnExactPairsLostRow.domain false) (Rows.fnExactPairsLostSpec.post enc Try.prog Try.f7 false true false false) := by
  refine returnsInHanded_of_change (C := Try.checked) own started (by kernel_rfl) Try.func7
    (ChangeSpec.witness6 (enc := enc) (C := Try.checked) false ⟨#[], #[.agg #[.int .i64 0, .int .i64 0, .int .i64 0, .int .i64 0, .int .i64 0, .int .i64 0, .int .i64 0, .int .i64 0, .int .i64 0, .int .i64 0, .int .i64 0, .int .i64 0], .slice none 0 0], []⟩ 8 (by kernel_rfl) (by kernel_rfl) (by kernel_rfl) (by kernel_rfl)) ?_
  intro W base args ds gs before hval0 hW hcnd _
  have hval : ∀ (j : Nat) t v, Try.f7.params[j]? = some t → args[j]? = some v → Value.okWide Try.prog W .any base t v := hval0
  have hW' := hW
  obtain ⟨p, q, hA0, hV, rfl, hfz, hnd⟩ := hW
  have hA : DataW.TrodAll enc Try.prog W 0 (fun _ => true) true Try.f7.params.toList args.toList ds p := hA0
  rw [Try.params7] at hA hval
  obtain ⟨v0, vs0, d0, ds0, p0, q0, hargs, rfl, rfl, h0, r0⟩ := trodAll_cons hA
  obtain ⟨v1, vs1, d1, ds1, p1, q1, rfl, rfl, rfl, h1, r1⟩ := trodAll_cons r0
  obtain ⟨rfl, rfl, rfl⟩ := trodAll_nil r1
  obtain rfl : args = #[v0, v1] := by cases args; simp_all
  obtain ⟨rfl, rfl⟩ := trodVars_none hV
  have k0 := h0
  have lt0 : ∀ x ∈ p0, x.block < W.heap.size := by obtain ⟨m, hm⟩ := k0; exact DataW.trod_lt m _ _ _ hm
  obtain ⟨xs0, hl0, rfl, w0⟩ := open_i64s Try.underlying44 Try.underlying2 (by kernel_rfl) (by kernel_rfl) (by kernel_rfl) (hval 0 44 v0 rfl rfl) h0
  obtain ⟨x0_0, x0_1, x0_2, x0_3, x0_4, x0_5, x0_6, x0_7, x0_8, x0_9, x0_10, x0_11, rfl⟩ := list12 hl0
  have k1 := h1
  have lt1 : ∀ x ∈ p1, x.block < W.heap.size := by obtain ⟨m, hm⟩ := k1; exact DataW.trod_lt m _ _ _ hm
  obtain ⟨x1, pa1, nc1, rfl, w1, ln1, pin1⟩ := open_nums (ts := 28) (k := 2) Try.underlying28 Try.underlying2 (by kernel_rfl) (hval 1 28 v1 rfl rfl) h1
  clear hA0 hval0
  refine (walk ⟨x0_0, x0_1, x0_2, x0_3, x0_4, x0_5, x0_6, x0_7, x0_8, x0_9, x0_10, x0_11⟩ x1 w0 pa1 nc1 w1 ln1 W pin1).mono fun e W' ⟨he, bel⟩ => ?_
  subst he
  exact ⟨_, rfl, _, _, _, [], _, [], hW', trodAll_mk1 (shut_bool Try.underlying4 _), (trodAll_cons_mk (Below.trod laidOut (by kernel_rfl) (of_decide_eq_true (by kernel_rfl)) k0 bel lt0) (trodAll_cons_mk (Below.trod laidOut (by kernel_rfl) (of_decide_eq_true (by kernel_rfl)) k1 bel lt1) trodAll_mk0)), rfl, bel.frame _, fun h => by cases h⟩

theorem over : Rows.fnExactPairsLostRow.holds Try.pinned (OpenSpec.ofChange Rows.fnExactPairsLostSpec) :=
  OpenClaim.holds_of_wide 7 Try.f7 rfl rfl rfl rfl rfl rfl rfl ⟨rfl, rfl, rfl, rfl, rfl⟩ rfl rfl rfl rfl rfl (by kernel_rfl) Try.func7 (by kernel_rfl)
    (of_decide_eq_true (by kernel_rfl)) (by unfold Func.isWrapper; first | (rw [if_pos (by decide +kernel)]; kernel_rfl) | (rw [if_neg (by decide +kernel)]; exact ⟨rfl, rfl⟩))
    (fun os started H enc _ => lifted os started H enc)

theorem proved : Rows.FnExactPairsLostSaid := over
end Go.Proofs.Ytnpnlckdggakmaa.fnExactPairsLost

namespace Go.Proofs.Ytnpnlckdggakmaa
theorem fnExactPairsLost_holds : Rows.FnExactPairsLostSaid := fnExactPairsLost.proved
#print axioms fnExactPairsLost_holds
end Go.Proofs.Ytnpnlckdggakmaa
