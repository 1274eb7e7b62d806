/-
  How many a lift can carry in so many ticks is told by the program as the model tells it, at every house and number of ticks.
-/
import Derived.Test.YthfnphbgjfcdaaaRows
import Derived.WalkKit
import Derived.ProofKit
import Derived.OpenShut
import Derived.ChangeOld
import Derived.Below
import Derived.Test.YthfnphbgjfcdaaaFlyW
import Derived.Test.YthfnphbgjfcdaaaFnd
namespace Go.Proofs.Ythfnphbgjfcdaaa.fnExactHandledIn
open Go.ChangeShapes Go.WideShapes Go.ChangeAt Go.RowKit
set_option linter.unusedVariables false
set_option linter.unusedSimpArgs false

theorem own : ownKnob Try.prog.godebug = none := by kernel_rfl
theorem laidOut : laidOutB Try.prog = true := by kernel_rfl

set_option maxRecDepth 20000 in
set_option maxHeartbeats 32000000 in
theorem walk (a0 : Pl.Hs) (a1 : Int) (w0 : ∀ x ∈ [a0.fl, a0.gp, a0.ln, a0.rf, a0.sp, a0.pu, a0.br, a0.dr, a0.lv, a0.dO, a0.ld, a0.qu], (Lit.int .i64 x).wf = true) (w1 : (Lit.int .i64 a1).wf = true) (w : World) :
    Calls Try.prog 5 #[.agg #[.int .i64 a0.fl, .int .i64 a0.gp, .int .i64 a0.ln, .int .i64 a0.rf, .int .i64 a0.sp, .int .i64 a0.pu, .int .i64 a0.br, .int .i64 a0.dr, .int .i64 a0.lv, .int .i64 a0.dO, .int .i64 a0.ld, .int .i64 a0.qu], .int .i64 a1] w fun e w' => e = .returned (.bool true) ∧ Below w.heap.size w w' := by
  have FA : Hid (Below w.heap.size w (w.alloc (.cells #[.int .i64 a0.fl, .int .i64 a0.gp, .int .i64 a0.ln, .int .i64 a0.rf, .int .i64 a0.sp, .int .i64 a0.pu, .int .i64 a0.br, .int .i64 a0.dr, .int .i64 a0.lv, .int .i64 a0.dO, .int .i64 a0.ld, .int .i64 a0.qu] 23))) := (Below.refl _ _).alloc (Nat.le_refl _) _
  obtain ⟨K, V, CS, CI⟩ : ∃ (K V : Int), (∀ (W : World), Calls Try.prog 16 #[.agg #[.int .i64 a0.fl, .int .i64 a0.gp, .int .i64 a0.ln, .int .i64 a0.rf, .int .i64 a0.sp, .int .i64 a0.pu, .int .i64 a0.br, .int .i64 a0.dr, .int .i64 a0.lv, .int .i64 a0.dO, .int .i64 a0.ld, .int .i64 a0.qu], .int .i64 a1] W fun e w' => e = .returned (.agg #[.int .i64 K, .int .i64 V]) ∧ Below W.heap.size W w') ∧ (∀ (W : World), Calls Try.prog 17 #[.agg #[.int .i64 a0.fl, .int .i64 a0.gp, .int .i64 a0.ln, .int .i64 a0.rf, .int .i64 a0.sp, .int .i64 a0.pu, .int .i64 a0.br, .int .i64 a0.dr, .int .i64 a0.lv, .int .i64 a0.dO, .int .i64 a0.ld, .int .i64 a0.qu], .int .i64 a1] W fun e w' => e = .returned (.agg #[.int .i64 K, .int .i64 V]) ∧ Below W.heap.size W w') := ⟨_, _, fun W => specHandledIn_any a0 a1 W, fun W => implHandledIn_any a0 a1 W⟩
  obtain ⟨b0, hbb⟩ : ∃ b0, b0 = w.heap.size := ⟨_, rfl⟩
  obtain ⟨v0, hw2⟩ : ∃ v0, v0 = w.alloc (.cells #[.int .i64 a0.fl, .int .i64 a0.gp, .int .i64 a0.ln, .int .i64 a0.rf, .int .i64 a0.sp, .int .i64 a0.pu, .int .i64 a0.br, .int .i64 a0.dr, .int .i64 a0.lv, .int .i64 a0.dO, .int .i64 a0.ld, .int .i64 a0.qu] 23) := ⟨_, rfl⟩
  have F0 : Hid (Blk v0 b0 [.int .i64 a0.fl, .int .i64 a0.gp, .int .i64 a0.ln, .int .i64 a0.rf, .int .i64 a0.sp, .int .i64 a0.pu, .int .i64 a0.br, .int .i64 a0.dr, .int .i64 a0.lv, .int .i64 a0.dO, .int .i64 a0.ld, .int .i64 a0.qu]) := by rw [hw2]; exact Blk.at_ w #[.int .i64 a0.fl, .int .i64 a0.gp, .int .i64 a0.ln, .int .i64 a0.rf, .int .i64 a0.sp, .int .i64 a0.pu, .int .i64 a0.br, .int .i64 a0.dr, .int .i64 a0.lv, .int .i64 a0.dO, .int .i64 a0.ld, .int .i64 a0.qu] _ _ hbb
  have FB : Hid (Below w.heap.size w v0) := by rw [hw2]; exact FA.out
  go_enter Try.func5, Try.ntmps5
  go_upto_region 1 with fail
  rw [← hw2, ← hbb]
  clear hw2 hbb FA
  go_upto_region 2 with (first | (refine load_blk 23 _ Try.underlying23 (by kernel_rfl) F0.out rfl rfl rfl ?_) | (go_at_call 9; refine (toHouse_any a0 _).mono ?_; rintro e v1 ⟨rfl, hb⟩; have F0 : Hid (Blk v1 b0 [.int .i64 a0.fl, .int .i64 a0.gp, .int .i64 a0.ln, .int .i64 a0.rf, .int .i64 a0.sp, .int .i64 a0.pu, .int .i64 a0.br, .int .i64 a0.dr, .int .i64 a0.lv, .int .i64 a0.dO, .int .i64 a0.ld, .int .i64 a0.qu]) := F0.out.below hb F0.out.lt; have FB : Hid (Below w.heap.size w v1) := FB.out.trans (hb.mono FB.out.size); clear hb) | (go_at_call 16; refine (CS _).mono ?_; rintro e v4 ⟨rfl, hb⟩; have F0 : Hid (Blk v4 b0 [.int .i64 a0.fl, .int .i64 a0.gp, .int .i64 a0.ln, .int .i64 a0.rf, .int .i64 a0.sp, .int .i64 a0.pu, .int .i64 a0.br, .int .i64 a0.dr, .int .i64 a0.lv, .int .i64 a0.dO, .int .i64 a0.ld, .int .i64 a0.qu]) := F0.out.below hb F0.out.lt; have FB : Hid (Below w.heap.size w v4) := FB.out.trans (hb.mono FB.out.size); clear hb) | (refine store_new [.int .i64 K, .int .i64 V] 25 _ _ (by kernel_rfl) (by kernel_rfl) (by kernel_rfl) rfl rfl rfl rfl ?_))
  obtain ⟨b1, hbb⟩ : ∃ b1, b1 = v4.heap.size := ⟨_, rfl⟩
  obtain ⟨v5, hw2⟩ : ∃ v5, v5 = v4.alloc (.cells #[.int .i64 K, .int .i64 V] 25) := ⟨_, rfl⟩
  have F0 : Hid (Blk v5 b0 [.int .i64 a0.fl, .int .i64 a0.gp, .int .i64 a0.ln, .int .i64 a0.rf, .int .i64 a0.sp, .int .i64 a0.pu, .int .i64 a0.br, .int .i64 a0.dr, .int .i64 a0.lv, .int .i64 a0.dO, .int .i64 a0.ld, .int .i64 a0.qu]) := by rw [hw2]; exact F0.out.alloc _
  have F1 : Hid (Blk v5 b1 [.int .i64 K, .int .i64 V]) := by rw [hw2]; exact Blk.at_ v4 #[.int .i64 K, .int .i64 V] _ _ hbb
  have FB : Hid (Below w.heap.size w v5) := by rw [hw2]; exact FB.out.alloc FB.out.size _
  (try simp only [Act.put])
  rw [← hw2, ← hbb]
  clear hbb hw2
  go_upto_region 3 with (first | (refine load_blk 23 _ Try.underlying23 (by kernel_rfl) F0.out rfl rfl rfl ?_) | (go_at_call 9; refine (toHouse_any a0 _).mono ?_; rintro e v8 ⟨rfl, hb⟩; have F0 : Hid (Blk v8 b0 [.int .i64 a0.fl, .int .i64 a0.gp, .int .i64 a0.ln, .int .i64 a0.rf, .int .i64 a0.sp, .int .i64 a0.pu, .int .i64 a0.br, .int .i64 a0.dr, .int .i64 a0.lv, .int .i64 a0.dO, .int .i64 a0.ld, .int .i64 a0.qu]) := F0.out.below hb F0.out.lt; have F1 : Hid (Blk v8 b1 [.int .i64 K, .int .i64 V]) := F1.out.below hb F1.out.lt; have FB : Hid (Below w.heap.size w v8) := FB.out.trans (hb.mono FB.out.size); clear hb) | (go_at_call 17; refine (CI _).mono ?_; rintro e v9 ⟨rfl, hb⟩; have F0 : Hid (Blk v9 b0 [.int .i64 a0.fl, .int .i64 a0.gp, .int .i64 a0.ln, .int .i64 a0.rf, .int .i64 a0.sp, .int .i64 a0.pu, .int .i64 a0.br, .int .i64 a0.dr, .int .i64 a0.lv, .int .i64 a0.dO, .int .i64 a0.ld, .int .i64 a0.qu]) := F0.out.below hb F0.out.lt; have F1 : Hid (Blk v9 b1 [.int .i64 K, .int .i64 V]) := F1.out.below hb F1.out.lt; have FB : Hid (Below w.heap.size w v9) := FB.out.trans (hb.mono FB.out.size); clear hb) | (refine store_new [.int .i64 K, .int .i64 V] 25 _ _ (by kernel_rfl) (by kernel_rfl) (by kernel_rfl) rfl rfl rfl rfl ?_))
  obtain ⟨b2, hbb⟩ : ∃ b2, b2 = v9.heap.size := ⟨_, rfl⟩
  obtain ⟨v10, hw2⟩ : ∃ v10, v10 = v9.alloc (.cells #[.int .i64 K, .int .i64 V] 25) := ⟨_, rfl⟩
  have F0 : Hid (Blk v10 b0 [.int .i64 a0.fl, .int .i64 a0.gp, .int .i64 a0.ln, .int .i64 a0.rf, .int .i64 a0.sp, .int .i64 a0.pu, .int .i64 a0.br, .int .i64 a0.dr, .int .i64 a0.lv, .int .i64 a0.dO, .int .i64 a0.ld, .int .i64 a0.qu]) := by rw [hw2]; exact F0.out.alloc _
  have F1 : Hid (Blk v10 b1 [.int .i64 K, .int .i64 V]) := by rw [hw2]; exact F1.out.alloc _
  have F2 : Hid (Blk v10 b2 [.int .i64 K, .int .i64 V]) := by rw [hw2]; exact Blk.at_ v9 #[.int .i64 K, .int .i64 V] _ _ hbb
  have FB : Hid (Below w.heap.size w v10) := by rw [hw2]; exact FB.out.alloc FB.out.size _
  (try simp only [Act.put])
  rw [← hw2, ← hbb]
  clear hbb hw2
  go_wp2_with (first | (refine load_blk 25 _ Try.underlying25 (by kernel_rfl) F2.out rfl rfl rfl ?_) | (refine load_blk 25 _ Try.underlying25 (by kernel_rfl) F1.out rfl rfl rfl ?_) | (go_at_call 11; refine (eqIntResult_same K V _).mono ?_; rintro e v11 ⟨rfl, hw⟩; have hb : Below v10.heap.size v10 v11 := (by rw [hw]; exact ((Below.refl _ _).alloc (Nat.le_refl _) _).alloc (by simp) _); clear hw; have F0 : Hid (Blk v11 b0 [.int .i64 a0.fl, .int .i64 a0.gp, .int .i64 a0.ln, .int .i64 a0.rf, .int .i64 a0.sp, .int .i64 a0.pu, .int .i64 a0.br, .int .i64 a0.dr, .int .i64 a0.lv, .int .i64 a0.dO, .int .i64 a0.ld, .int .i64 a0.qu]) := F0.out.below hb F0.out.lt; have F1 : Hid (Blk v11 b1 [.int .i64 K, .int .i64 V]) := F1.out.below hb F1.out.lt; have F2 : Hid (Blk v11 b2 [.int .i64 K, .int .i64 V]) := F2.out.below hb F2.out.lt; have FB : Hid (Below w.heap.size w v11) := FB.out.trans (hb.mono FB.out.size); clear hb))
  go_ret
  exact ⟨rfl, FB.out⟩

set_option maxRecDepth 100000 in
theorem lifted (os : Os) (started : os.Started) (H : Type) (enc : TypeId × Value → H) :
    ReturnsInHanded {} Try.checked os 5 .any (Rows.fnExactHandledInSpec.pre6 enc Try.prog Try.f5 Rows.fnExactHandledInRow.domain false) (Rows.fnExactHandledInSpec.post enc Try.prog Try.f5 false true false false) := by
  refine returnsInHanded_of_change (C := Try.checked) own started (by kernel_rfl) Try.func5
    (ChangeSpec.witness6 (enc := enc) (C := Try.checked) false ⟨#[], #[.agg #[.int .i64 0, .int .i64 0, .int .i64 0, .int .i64 0, .int .i64 0, .int .i64 0, .int .i64 0, .int .i64 0, .int .i64 0, .int .i64 0, .int .i64 0, .int .i64 0], .int .i64 0], []⟩ 8 (by kernel_rfl) (by kernel_rfl) (by kernel_rfl) (by kernel_rfl)) ?_
  intro W base args ds gs before hval0 hW hcnd _
  have hval : ∀ (j : Nat) t v, Try.f5.params[j]? = some t → args[j]? = some v → Value.okWide Try.prog W .any base t v := hval0
  have hW' := hW
  obtain ⟨p, q, hA0, hV, rfl, hfz, hnd⟩ := hW
  have hA : DataW.TrodAll enc Try.prog W 0 (fun _ => true) true Try.f5.params.toList args.toList ds p := hA0
  rw [Try.params5] at hA hval
  obtain ⟨v0, vs0, d0, ds0, p0, q0, hargs, rfl, rfl, h0, r0⟩ := trodAll_cons hA
  obtain ⟨v1, vs1, d1, ds1, p1, q1, rfl, rfl, rfl, h1, r1⟩ := trodAll_cons r0
  obtain ⟨rfl, rfl, rfl⟩ := trodAll_nil r1
  obtain rfl : args = #[v0, v1] := by cases args; simp_all
  obtain ⟨rfl, rfl⟩ := trodVars_none hV
  have k0 := h0
  have lt0 : ∀ x ∈ p0, x.block < W.heap.size := by obtain ⟨m, hm⟩ := k0; exact DataW.trod_lt m _ _ _ hm
  obtain ⟨xs0, hl0, rfl, w0⟩ := open_i64s Try.underlying23 Try.underlying2 (by kernel_rfl) (by kernel_rfl) (by kernel_rfl) (hval 0 23 v0 rfl rfl) h0
  obtain ⟨x0_0, x0_1, x0_2, x0_3, x0_4, x0_5, x0_6, x0_7, x0_8, x0_9, x0_10, x0_11, rfl⟩ := list12 hl0
  have k1 := h1
  have lt1 : ∀ x ∈ p1, x.block < W.heap.size := by obtain ⟨m, hm⟩ := k1; exact DataW.trod_lt m _ _ _ hm
  obtain ⟨a1, rfl, _, _, w1⟩ := open_int Try.underlying2 (hval 1 2 v1 rfl rfl) h1
  clear hA0 hval0
  refine (walk ⟨x0_0, x0_1, x0_2, x0_3, x0_4, x0_5, x0_6, x0_7, x0_8, x0_9, x0_10, x0_11⟩ a1 w0 w1 W).mono fun e W' ⟨he, bel⟩ => ?_
  subst he
  exact ⟨_, rfl, _, _, _, [], _, [], hW', trodAll_mk1 (shut_bool Try.underlying4 _), (trodAll_cons_mk (Below.trod laidOut (by kernel_rfl) (of_decide_eq_true (by kernel_rfl)) k0 bel lt0) (trodAll_cons_mk (Below.trod laidOut (by kernel_rfl) (of_decide_eq_true (by kernel_rfl)) k1 bel lt1) trodAll_mk0)), rfl, bel.frame _, fun h => by cases h⟩

theorem over : Rows.fnExactHandledInRow.holds Try.pinned (OpenSpec.ofChange Rows.fnExactHandledInSpec) :=
  OpenClaim.holds_of_wide 5 Try.f5 rfl rfl rfl rfl rfl rfl rfl ⟨rfl, rfl, rfl, rfl, rfl⟩ rfl rfl rfl rfl rfl (by kernel_rfl) Try.func5 (by kernel_rfl)
    (of_decide_eq_true (by kernel_rfl)) (by unfold Func.isWrapper; first | (rw [if_pos (by decide +kernel)]; kernel_rfl) | (rw [if_neg (by decide +kernel)]; exact ⟨rfl, rfl⟩))
    (fun os started H enc _ => lifted os started H enc)

theorem proved : Rows.FnExactHandledInSaid := over
end Go.Proofs.Ythfnphbgjfcdaaa.fnExactHandledIn

namespace Go.Proofs.Ythfnphbgjfcdaaa
theorem fnExactHandledIn_holds : Rows.FnExactHandledInSaid := fnExactHandledIn.proved
#print axioms fnExactHandledIn_holds
end Go.Proofs.Ythfnphbgjfcdaaa
