/-
  UnpackReading answers as its model at every number. No condition.
-/
import Derived.Test.YtkpcolfbnkopkabRows
import Derived.WalkKit
import Derived.ProofKit
import Derived.OpenShut
import Derived.ChangeOld
import Derived.Below
import Derived.Test.YtkpcolfbnkopkabSenN
import Derived.Test.YtkpcolfbnkopkabFnd
namespace Go.Proofs.Ytkpcolfbnkopkab.fnExactUnpackReading
open Go.ChangeShapes Go.WideShapes Go.ChangeAt Go.RowKit
set_option linter.unusedVariables false
set_option linter.unusedSimpArgs false

theorem own : ownKnob Try.prog.godebug = none := by kernel_rfl
theorem laidOut : laidOutB Try.prog = true := by kernel_rfl

set_option maxRecDepth 20000 in
set_option maxHeartbeats 32000000 in
theorem walk (a0 : Int) (w0 : (Lit.int .i64 a0).wf = true) (w : World) :
    Calls Try.prog 7 #[.int .i64 a0] w fun e w' => e = .returned (.bool true) ∧ Below w.heap.size w w' := by
  obtain ⟨K, P, V, CS, CI⟩ : ∃ K P V : Int, (∀ W, Calls Try.prog 21 #[.int .i64 a0] W fun e w' => e = .returned (.agg #[.int .i64 K, .int .i64 P, .int .i64 V]) ∧ Below W.heap.size W w') ∧ (∀ W, Calls Try.prog 22 #[.int .i64 a0] W fun e w' => e = .returned (.agg #[.int .i64 K, .int .i64 P, .int .i64 V]) ∧ Below W.heap.size W w') := ⟨_, _, _, fun W => specUnpack_any a0 W, fun W => implUnpack_any a0 W⟩
  go_enter Try.func7, Try.ntmps7
  go_wp2_with (first | (go_at_call 21; refine (CS _).mono ?_; rintro e w1 ⟨rfl, hb⟩; have FB : Hid (Below w.heap.size w w1) := hb; clear hb) | (go_at_call 22; refine (CI _).mono ?_; rintro e w2 ⟨rfl, hb⟩; have F1 : Hid (Blk w2 w1.heap.size [.int .i64 K, .int .i64 P, .int .i64 V]) := (Blk.at_ w1 #[.int .i64 K, .int .i64 P, .int .i64 V] _ _ rfl).below hb (by simp); have FB : Hid (Below w.heap.size w w2) := (FB.out.alloc FB.out.size _).trans (hb.mono (by have := FB.out.size; simp; omega)); have v0 := F1.out.c 0 _ rfl; have v1 := F1.out.c 1 _ rfl; have v2 := F1.out.c 2 _ rfl; have hsz := F1.out.lt; clear hb) | (go_at_call 23; refine (eqReadingResult_same _ _ _ _).mono ?_; rintro e w9 ⟨rfl, hb⟩; have FB : Hid (Below w.heap.size w w9) := (FB.out.alloc FB.out.size _).trans (hb.mono (by have := FB.out.size; simp; omega)); clear hb))
  go_ret
  exact ⟨rfl, FB.out⟩

set_option maxRecDepth 100000 in
theorem lifted (os : Os) (started : os.Started) (H : Type) (enc : TypeId × Value → H) :
    ReturnsInHanded {} Try.checked os 7 .any (Rows.fnExactUnpackReadingSpec.pre6 enc Try.prog Try.f7 Rows.fnExactUnpackReadingRow.domain false) (Rows.fnExactUnpackReadingSpec.post enc Try.prog Try.f7 false true false false) := by
  refine returnsInHanded_of_change (C := Try.checked) own started (by kernel_rfl) Try.func7
    (ChangeSpec.witness6 (enc := enc) (C := Try.checked) false ⟨#[], #[.int .i64 0], []⟩ 8 (by kernel_rfl) (by kernel_rfl) (by kernel_rfl) (by kernel_rfl)) ?_
  intro W base args ds gs before hval0 hW hcnd _
  have hval : ∀ (j : Nat) t v, Try.f7.params[j]? = some t → args[j]? = some v → Value.okWide Try.prog W .any base t v := hval0
  have hW' := hW
  obtain ⟨p, q, hA0, hV, rfl, hfz, hnd⟩ := hW
  have hA : DataW.TrodAll enc Try.prog W 0 (fun _ => true) true Try.f7.params.toList args.toList ds p := hA0
  rw [Try.params7] at hA hval
  obtain ⟨v0, vs0, d0, ds0, p0, q0, hargs, rfl, rfl, h0, r0⟩ := trodAll_cons hA
  obtain ⟨rfl, rfl, rfl⟩ := trodAll_nil r0
  obtain rfl : args = #[v0] := by cases args; simp_all
  obtain ⟨rfl, rfl⟩ := trodVars_none hV
  have k0 := h0
  have lt0 : ∀ x ∈ p0, x.block < W.heap.size := by obtain ⟨m, hm⟩ := k0; exact DataW.trod_lt m _ _ _ hm
  obtain ⟨a0, rfl, _, _, w0⟩ := open_int Try.underlying2 (hval 0 2 v0 rfl rfl) h0
  clear hA0 hval0
  refine (walk a0 w0 W).mono fun e W' ⟨he, bel⟩ => ?_
  subst he
  exact ⟨_, rfl, _, _, _, [], _, [], hW', trodAll_mk1 (shut_bool Try.underlying4 _), (trodAll_cons_mk (Below.trod laidOut (by kernel_rfl) (of_decide_eq_true (by kernel_rfl)) k0 bel lt0) trodAll_mk0), rfl, bel.frame _, fun h => by cases h⟩

theorem over : Rows.fnExactUnpackReadingRow.holds Try.pinned (OpenSpec.ofChange Rows.fnExactUnpackReadingSpec) :=
  OpenClaim.holds_of_wide 7 Try.f7 rfl rfl rfl rfl rfl rfl rfl ⟨rfl, rfl, rfl, rfl, rfl⟩ rfl rfl rfl rfl rfl (by kernel_rfl) Try.func7 (by kernel_rfl)
    (of_decide_eq_true (by kernel_rfl)) (by unfold Func.isWrapper; first | (rw [if_pos (by decide +kernel)]; kernel_rfl) | (rw [if_neg (by decide +kernel)]; exact ⟨rfl, rfl⟩))
    (fun os started H enc _ => lifted os started H enc)

theorem proved : Rows.FnExactUnpackReadingSaid := over
end Go.Proofs.Ytkpcolfbnkopkab.fnExactUnpackReading

namespace Go.Proofs.Ytkpcolfbnkopkab
theorem fnExactUnpackReading_holds : Rows.FnExactUnpackReadingSaid := fnExactUnpackReading.proved
#print axioms fnExactUnpackReading_holds
end Go.Proofs.Ytkpcolfbnkopkab
