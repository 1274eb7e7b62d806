/-
  The floors that some zone has are told by the program as the model tells them, at every house and list of zones.
-/
import Derived.Test.YtnpnlckdggakmaaRows
import Derived.WalkKit
import Derived.ProofKit
import Derived.OpenShut
import Derived.ChangeOld
import Derived.Below
import Derived.Test.YtnpnlckdggakmaaZonM
import Derived.Test.YtnpnlckdggakmaaZonSc
import Derived.Test.YtnpnlckdggakmaaIntA
import Derived.Test.YtnpnlckdggakmaaFnd
namespace Go.Proofs.Ytnpnlckdggakmaa.fnExactCoverZones
open Go.ChangeShapes Go.WideShapes Go.ChangeAt Go.RowKit
set_option linter.unusedVariables false
set_option linter.unusedSimpArgs false

theorem own : ownKnob Try.prog.godebug = none := by kernel_rfl
theorem laidOut : laidOutB Try.prog = true := by kernel_rfl

set_option maxRecDepth 20000 in
set_option maxHeartbeats 32000000 in
theorem walk (a0 : Pl.Hs) (a1 : List Int) (w0 : ∀ x ∈ [a0.fl, a0.gp, a0.ln, a0.rf, a0.sp, a0.pu, a0.br, a0.dr, a0.lv, a0.dO, a0.ld, a0.qu], (Lit.int .i64 x).wf = true) (p1 : Option Addr) (n1 : Nat) (w1 : ∀ x ∈ a1, (Lit.int .i64 x).wf = true) (l1 : a1.length ≤ maxLen) (w : World) (q1 : AIn w w.heap.size p1 a1) :
    Calls Try.prog 5 #[.agg #[.int .i64 a0.fl, .int .i64 a0.gp, .int .i64 a0.ln, .int .i64 a0.rf, .int .i64 a0.sp, .int .i64 a0.pu, .int .i64 a0.br, .int .i64 a0.dr, .int .i64 a0.lv, .int .i64 a0.dO, .int .i64 a0.ld, .int .i64 a0.qu], .slice p1 a1.length n1] w fun e w' => e = .returned (.bool true) ∧ Below w.heap.size w w' := by
  have FA : Hid (Below w.heap.size w (w.alloc (.cells #[.int .i64 a0.fl, .int .i64 a0.gp, .int .i64 a0.ln, .int .i64 a0.rf, .int .i64 a0.sp, .int .i64 a0.pu, .int .i64 a0.br, .int .i64 a0.dr, .int .i64 a0.lv, .int .i64 a0.dO, .int .i64 a0.ld, .int .i64 a0.qu] 44))) := (Below.refl _ _).alloc (Nat.le_refl _) _
  by_cases hg1 : 1048576 < a1.length
  · have d1 : decide ((1048576 : Int) < (a1.length : Int)) = true := decide_eq_true (by omega)
    go_enter Try.func5, Try.ntmps5
    go_wp2
    go_ret
    exact ⟨rfl, FA.out⟩
  have d1 : decide ((1048576 : Int) < (a1.length : Int)) = false := decide_eq_false (by omega)
  have hl1 : a1.length ≤ 1048576 := by omega
  have HP1 : Hid (AIn w w.heap.size p1 a1) := q1
  obtain ⟨K, V, CS, CI⟩ : ∃ (K V : Int), (∀ (W : World) (a : Option Addr) (ca : Nat), IIn W a a1 → Calls Try.prog 22 #[.agg #[.int .i64 a0.fl, .int .i64 a0.gp, .int .i64 a0.ln, .int .i64 a0.rf, .int .i64 a0.sp, .int .i64 a0.pu, .int .i64 a0.br, .int .i64 a0.dr, .int .i64 a0.lv, .int .i64 a0.dO, .int .i64 a0.ld, .int .i64 a0.qu], .slice a a1.length ca] W fun e w' => e = .returned (.agg #[.int .i64 K, .int .i64 V]) ∧ Below W.heap.size W w') ∧ (∀ (W : World) (a : Option Addr) (ca : Nat), IIn W a a1 → Calls Try.prog 12 #[.agg #[.int .i64 a0.fl, .int .i64 a0.gp, .int .i64 a0.ln, .int .i64 a0.rf, .int .i64 a0.sp, .int .i64 a0.pu, .int .i64 a0.br, .int .i64 a0.dr, .int .i64 a0.lv, .int .i64 a0.dO, .int .i64 a0.ld, .int .i64 a0.qu], .slice a a1.length ca] W fun e w' => e = .returned (.agg #[.int .i64 K, .int .i64 V]) ∧ Below W.heap.size W w') := ⟨_, _, fun W a ca ha => specCover_any a0 a1 a ca hl1 W ha, fun W a ca ha => implCover_any a0 a1 a ca hl1 W ha⟩
  clear q1 hg1
  obtain ⟨b0, hbb⟩ : ∃ b0, b0 = w.heap.size := ⟨_, rfl⟩
  obtain ⟨v0, hw2⟩ : ∃ v0, v0 = w.alloc (.cells #[.int .i64 a0.fl, .int .i64 a0.gp, .int .i64 a0.ln, .int .i64 a0.rf, .int .i64 a0.sp, .int .i64 a0.pu, .int .i64 a0.br, .int .i64 a0.dr, .int .i64 a0.lv, .int .i64 a0.dO, .int .i64 a0.ld, .int .i64 a0.qu] 44) := ⟨_, rfl⟩
  have F0 : Hid (Blk v0 b0 [.int .i64 a0.fl, .int .i64 a0.gp, .int .i64 a0.ln, .int .i64 a0.rf, .int .i64 a0.sp, .int .i64 a0.pu, .int .i64 a0.br, .int .i64 a0.dr, .int .i64 a0.lv, .int .i64 a0.dO, .int .i64 a0.ld, .int .i64 a0.qu]) := by rw [hw2]; exact Blk.at_ w #[.int .i64 a0.fl, .int .i64 a0.gp, .int .i64 a0.ln, .int .i64 a0.rf, .int .i64 a0.sp, .int .i64 a0.pu, .int .i64 a0.br, .int .i64 a0.dr, .int .i64 a0.lv, .int .i64 a0.dO, .int .i64 a0.ld, .int .i64 a0.qu] _ _ hbb
  have FB : Hid (Below w.heap.size w v0) := by rw [hw2]; exact FA.out
  go_enter Try.func5, Try.ntmps5
  go_upto_region 3 with fail
  rw [← hw2, ← hbb]
  clear hw2 hbb FA
  go_upto_region 4 with (first | (refine load_blk 44 _ Try.underlying44 (by kernel_rfl) F0.out rfl rfl rfl ?_) | (go_at_call 23; refine (toHouse_any a0 _).mono ?_; rintro e v1 ⟨rfl, hb⟩; have F0 : Hid (Blk v1 b0 [.int .i64 a0.fl, .int .i64 a0.gp, .int .i64 a0.ln, .int .i64 a0.rf, .int .i64 a0.sp, .int .i64 a0.pu, .int .i64 a0.br, .int .i64 a0.dr, .int .i64 a0.lv, .int .i64 a0.dO, .int .i64 a0.ld, .int .i64 a0.qu]) := F0.out.below hb F0.out.lt; have FB : Hid (Below w.heap.size w v1) := FB.out.trans (hb.mono FB.out.size); clear hb) | (go_at_call 24; refine (toInt64S_any p1 n1 a1 hl1 _ ((HP1.out.below FB.out (Nat.le_refl _)).mono FB.out.size)).mono ?_; rintro e v2 ⟨g1, rfl, ho, hb⟩; have O1 : Hid (IIn v2 (some ⟨g1, 0, none⟩) a1) := ho.iin; have F0 : Hid (Blk v2 b0 [.int .i64 a0.fl, .int .i64 a0.gp, .int .i64 a0.ln, .int .i64 a0.rf, .int .i64 a0.sp, .int .i64 a0.pu, .int .i64 a0.br, .int .i64 a0.dr, .int .i64 a0.lv, .int .i64 a0.dO, .int .i64 a0.ld, .int .i64 a0.qu]) := F0.out.below hb F0.out.lt; have FB : Hid (Below w.heap.size w v2) := FB.out.trans (hb.mono FB.out.size); clear hb; clear ho) | (go_at_call 22; refine (CS _ _ _ O1.out).mono ?_; rintro e v4 ⟨rfl, hb⟩; have F0 : Hid (Blk v4 b0 [.int .i64 a0.fl, .int .i64 a0.gp, .int .i64 a0.ln, .int .i64 a0.rf, .int .i64 a0.sp, .int .i64 a0.pu, .int .i64 a0.br, .int .i64 a0.dr, .int .i64 a0.lv, .int .i64 a0.dO, .int .i64 a0.ld, .int .i64 a0.qu]) := F0.out.below hb F0.out.lt; have FB : Hid (Below w.heap.size w v4) := FB.out.trans (hb.mono FB.out.size); clear hb) | (refine store_new [.int .i64 K, .int .i64 V] 33 _ _ (by kernel_rfl) (by kernel_rfl) (by kernel_rfl) rfl rfl rfl rfl ?_))
  obtain ⟨b1, hbb⟩ : ∃ b1, b1 = v4.heap.size := ⟨_, rfl⟩
  obtain ⟨v5, hw2⟩ : ∃ v5, v5 = v4.alloc (.cells #[.int .i64 K, .int .i64 V] 33) := ⟨_, rfl⟩
  have F0 : Hid (Blk v5 b0 [.int .i64 a0.fl, .int .i64 a0.gp, .int .i64 a0.ln, .int .i64 a0.rf, .int .i64 a0.sp, .int .i64 a0.pu, .int .i64 a0.br, .int .i64 a0.dr, .int .i64 a0.lv, .int .i64 a0.dO, .int .i64 a0.ld, .int .i64 a0.qu]) := by rw [hw2]; exact F0.out.alloc _
  have F1 : Hid (Blk v5 b1 [.int .i64 K, .int .i64 V]) := by rw [hw2]; exact Blk.at_ v4 #[.int .i64 K, .int .i64 V] _ _ hbb
  have FB : Hid (Below w.heap.size w v5) := by rw [hw2]; exact FB.out.alloc FB.out.size _
  (try simp only [Act.put])
  rw [← hw2, ← hbb]
  clear hbb hw2
  go_upto_region 5 with (go_at_call 24; refine (toInt64S_any p1 n1 a1 hl1 _ ((HP1.out.below FB.out (Nat.le_refl _)).mono FB.out.size)).mono ?_; rintro e v6 ⟨g3, rfl, ho, hb⟩; have X1 : Hid (OwI v6 v5.heap.size (.slice (some ⟨g3, 0, none⟩) a1.length a1.length) a1) := ho; have F0 : Hid (Blk v6 b0 [.int .i64 a0.fl, .int .i64 a0.gp, .int .i64 a0.ln, .int .i64 a0.rf, .int .i64 a0.sp, .int .i64 a0.pu, .int .i64 a0.br, .int .i64 a0.dr, .int .i64 a0.lv, .int .i64 a0.dO, .int .i64 a0.ld, .int .i64 a0.qu]) := F0.out.below hb F0.out.lt; have F1 : Hid (Blk v6 b1 [.int .i64 K, .int .i64 V]) := F1.out.below hb F1.out.lt; have FB : Hid (Below w.heap.size w v6) := FB.out.trans (hb.mono FB.out.size); clear hb; clear ho)
  go_upto_region 6 with (first | (refine load_blk 44 _ Try.underlying44 (by kernel_rfl) F0.out rfl rfl rfl ?_) | (go_at_call 23; refine (toHouse_any a0 _).mono ?_; rintro e v8 ⟨rfl, hb⟩; have F0 : Hid (Blk v8 b0 [.int .i64 a0.fl, .int .i64 a0.gp, .int .i64 a0.ln, .int .i64 a0.rf, .int .i64 a0.sp, .int .i64 a0.pu, .int .i64 a0.br, .int .i64 a0.dr, .int .i64 a0.lv, .int .i64 a0.dO, .int .i64 a0.ld, .int .i64 a0.qu]) := F0.out.below hb F0.out.lt; have F1 : Hid (Blk v8 b1 [.int .i64 K, .int .i64 V]) := F1.out.below hb F1.out.lt; have X1 : Hid (OwI v8 v5.heap.size (.slice (some ⟨g3, 0, none⟩) a1.length a1.length) a1) := X1.out.below hb (fun k hk => (X1.out.lt k hk).2); have FB : Hid (Below w.heap.size w v8) := FB.out.trans (hb.mono FB.out.size); clear hb) | (go_at_call 12; refine (CI _ _ _ X1.out.iin).mono ?_; rintro e v9 ⟨rfl, hb⟩; have F0 : Hid (Blk v9 b0 [.int .i64 a0.fl, .int .i64 a0.gp, .int .i64 a0.ln, .int .i64 a0.rf, .int .i64 a0.sp, .int .i64 a0.pu, .int .i64 a0.br, .int .i64 a0.dr, .int .i64 a0.lv, .int .i64 a0.dO, .int .i64 a0.ld, .int .i64 a0.qu]) := F0.out.below hb F0.out.lt; have F1 : Hid (Blk v9 b1 [.int .i64 K, .int .i64 V]) := F1.out.below hb F1.out.lt; have X1 : Hid (OwI v9 v5.heap.size (.slice (some ⟨g3, 0, none⟩) a1.length a1.length) a1) := X1.out.below hb (fun k hk => (X1.out.lt k hk).2); have FB : Hid (Below w.heap.size w v9) := FB.out.trans (hb.mono FB.out.size); clear hb) | (refine store_new [.int .i64 K, .int .i64 V] 33 _ _ (by kernel_rfl) (by kernel_rfl) (by kernel_rfl) rfl rfl rfl rfl ?_))
  obtain ⟨b2, hbb⟩ : ∃ b2, b2 = v9.heap.size := ⟨_, rfl⟩
  obtain ⟨v10, hw2⟩ : ∃ v10, v10 = v9.alloc (.cells #[.int .i64 K, .int .i64 V] 33) := ⟨_, rfl⟩
  have F0 : Hid (Blk v10 b0 [.int .i64 a0.fl, .int .i64 a0.gp, .int .i64 a0.ln, .int .i64 a0.rf, .int .i64 a0.sp, .int .i64 a0.pu, .int .i64 a0.br, .int .i64 a0.dr, .int .i64 a0.lv, .int .i64 a0.dO, .int .i64 a0.ld, .int .i64 a0.qu]) := by rw [hw2]; exact F0.out.alloc _
  have F1 : Hid (Blk v10 b1 [.int .i64 K, .int .i64 V]) := by rw [hw2]; exact F1.out.alloc _
  have X1 : Hid (OwI v10 v5.heap.size (.slice (some ⟨g3, 0, none⟩) a1.length a1.length) a1) := by rw [hw2]; exact X1.out.alloc _
  have F2 : Hid (Blk v10 b2 [.int .i64 K, .int .i64 V]) := by rw [hw2]; exact Blk.at_ v9 #[.int .i64 K, .int .i64 V] _ _ hbb
  have FB : Hid (Below w.heap.size w v10) := by rw [hw2]; exact FB.out.alloc FB.out.size _
  (try simp only [Act.put])
  rw [← hw2, ← hbb]
  clear hbb hw2
  go_upto_region 8 with (first | (refine load_blk 33 _ Try.underlying33 (by kernel_rfl) F2.out rfl rfl rfl ?_) | (refine load_blk 33 _ Try.underlying33 (by kernel_rfl) F1.out rfl rfl rfl ?_) | (go_at_call 25; refine (eqMaskResult_same K V _).mono ?_; rintro e v11 ⟨rfl, hb⟩; have F0 : Hid (Blk v11 b0 [.int .i64 a0.fl, .int .i64 a0.gp, .int .i64 a0.ln, .int .i64 a0.rf, .int .i64 a0.sp, .int .i64 a0.pu, .int .i64 a0.br, .int .i64 a0.dr, .int .i64 a0.lv, .int .i64 a0.dO, .int .i64 a0.ld, .int .i64 a0.qu]) := F0.out.below hb F0.out.lt; have F1 : Hid (Blk v11 b1 [.int .i64 K, .int .i64 V]) := F1.out.below hb F1.out.lt; have F2 : Hid (Blk v11 b2 [.int .i64 K, .int .i64 V]) := F2.out.below hb F2.out.lt; have X1 : Hid (OwI v11 v5.heap.size (.slice (some ⟨g3, 0, none⟩) a1.length a1.length) a1) := X1.out.below hb (fun k hk => (X1.out.lt k hk).2); have FB : Hid (Below w.heap.size w v11) := FB.out.trans (hb.mono FB.out.size); clear hb))
  go_wp2_with (first | (go_at_call 24; refine (toInt64S_any p1 n1 a1 hl1 _ ((HP1.out.below FB.out (Nat.le_refl _)).mono FB.out.size)).mono ?_; rintro e v12 ⟨g5, rfl, ho, hb⟩; have Y1 : Hid (IIn v12 (some ⟨g5, 0, none⟩) a1) := ho.iin; have X1 : Hid (OwI v12 v5.heap.size (.slice (some ⟨g3, 0, none⟩) a1.length a1.length) a1) := X1.out.below hb (fun k hk => (X1.out.lt k hk).2); have FB : Hid (Below w.heap.size w v12) := FB.out.trans (hb.mono FB.out.size); clear hb; clear ho) | (go_at_call 26; refine (eqInt64S_same _ _ _ _ a1 hl1 _ X1.out.iin Y1.out).mono ?_; rintro e v13 ⟨rfl, hb⟩; have X1 : Hid (OwI v13 v5.heap.size (.slice (some ⟨g3, 0, none⟩) a1.length a1.length) a1) := X1.out.below hb (fun k hk => (X1.out.lt k hk).2); have FB : Hid (Below w.heap.size w v13) := FB.out.trans (hb.mono FB.out.size); clear hb))
  go_ret
  exact ⟨rfl, FB.out⟩

set_option maxRecDepth 100000 in
theorem lifted (os : Os) (started : os.Started) (H : Type) (enc : TypeId × Value → H) :
    ReturnsInHanded {} Try.checked os 5 .any (Rows.fnExactCoverZonesSpec.pre6 enc Try.prog Try.f5 Rows.fnExactCoverZonesRow.domain false) (Rows.fnExactCoverZonesSpec.post enc Try.prog Try.f5 false true false false) := by
  refine returnsInHanded_of_change (C := Try.checked) own started (by kernel_rfl) Try.func5
    (ChangeSpec.witness6 (enc := enc) (C := Try.checked) false ⟨#[], #[.agg #[.int .i64 0, .int .i64 0, .int .i64 0, .int .i64 0, .int .i64 0, .int .i64 0, .int .i64 0, .int .i64 0, .int .i64 0, .int .i64 0, .int .i64 0, .int .i64 0], .slice none 0 0], []⟩ 8 (by kernel_rfl) (by kernel_rfl) (by kernel_rfl) (by kernel_rfl)) ?_
  intro W base args ds gs before hval0 hW hcnd _
  have hval : ∀ (j : Nat) t v, Try.f5.params[j]? = some t → args[j]? = some v → Value.okWide Try.prog W .any base t v := hval0
  have hW' := hW
  obtain ⟨p, q, hA0, hV, rfl, hfz, hnd⟩ := hW
  have hA : DataW.TrodAll enc Try.prog W 0 (fun _ => true) true Try.f5.params.toList args.toList ds p := hA0
  rw [Try.params5] at hA hval
  obtain ⟨v0, vs0, d0, ds0, p0, q0, hargs, rfl, rfl, h0, r0⟩ := trodAll_cons hA
  obtain ⟨v1, vs1, d1, ds1, p1, q1, rfl, rfl, rfl, h1, r1⟩ := trodAll_cons r0
  obtain ⟨rfl, rfl, rfl⟩ := trodAll_nil r1
  obtain rfl : args = #[v0, v1] := by cases args; simp_all
  obtain ⟨rfl, rfl⟩ := trodVars_none hV
  have k0 := h0
  have lt0 : ∀ x ∈ p0, x.block < W.heap.size := by obtain ⟨m, hm⟩ := k0; exact DataW.trod_lt m _ _ _ hm
  obtain ⟨xs0, hl0, rfl, w0⟩ := open_i64s Try.underlying44 Try.underlying2 (by kernel_rfl) (by kernel_rfl) (by kernel_rfl) (hval 0 44 v0 rfl rfl) h0
  obtain ⟨x0_0, x0_1, x0_2, x0_3, x0_4, x0_5, x0_6, x0_7, x0_8, x0_9, x0_10, x0_11, rfl⟩ := list12 hl0
  have k1 := h1
  have lt1 : ∀ x ∈ p1, x.block < W.heap.size := by obtain ⟨m, hm⟩ := k1; exact DataW.trod_lt m _ _ _ hm
  obtain ⟨x1, pa1, nc1, rfl, w1, ln1, pin1⟩ := open_nums (ts := 28) (k := 2) Try.underlying28 Try.underlying2 (by kernel_rfl) (hval 1 28 v1 rfl rfl) h1
  clear hA0 hval0
  refine (walk ⟨x0_0, x0_1, x0_2, x0_3, x0_4, x0_5, x0_6, x0_7, x0_8, x0_9, x0_10, x0_11⟩ x1 w0 pa1 nc1 w1 ln1 W pin1).mono fun e W' ⟨he, bel⟩ => ?_
  subst he
  exact ⟨_, rfl, _, _, _, [], _, [], hW', trodAll_mk1 (shut_bool Try.underlying4 _), (trodAll_cons_mk (Below.trod laidOut (by kernel_rfl) (of_decide_eq_true (by kernel_rfl)) k0 bel lt0) (trodAll_cons_mk (Below.trod laidOut (by kernel_rfl) (of_decide_eq_true (by kernel_rfl)) k1 bel lt1) trodAll_mk0)), rfl, bel.frame _, fun h => by cases h⟩

theorem over : Rows.fnExactCoverZonesRow.holds Try.pinned (OpenSpec.ofChange Rows.fnExactCoverZonesSpec) :=
  OpenClaim.holds_of_wide 5 Try.f5 rfl rfl rfl rfl rfl rfl rfl ⟨rfl, rfl, rfl, rfl, rfl⟩ rfl rfl rfl rfl rfl (by kernel_rfl) Try.func5 (by kernel_rfl)
    (of_decide_eq_true (by kernel_rfl)) (by unfold Func.isWrapper; first | (rw [if_pos (by decide +kernel)]; kernel_rfl) | (rw [if_neg (by decide +kernel)]; exact ⟨rfl, rfl⟩))
    (fun os started H enc _ => lifted os started H enc)

theorem proved : Rows.FnExactCoverZonesSaid := over
end Go.Proofs.Ytnpnlckdggakmaa.fnExactCoverZones

namespace Go.Proofs.Ytnpnlckdggakmaa
theorem fnExactCoverZones_holds : Rows.FnExactCoverZonesSaid := fnExactCoverZones.proved
#print axioms fnExactCoverZones_holds
end Go.Proofs.Ytnpnlckdggakmaa
