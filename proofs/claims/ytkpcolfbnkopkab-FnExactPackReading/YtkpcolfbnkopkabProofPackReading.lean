/-
  PackReading answers as its model at every reading. No condition.
-/
import Derived.Test.YtkpcolfbnkopkabRows
import Derived.WalkKit
import Derived.ProofKit
import Derived.OpenShut
import Derived.ChangeOld
import Derived.Below
import Derived.Test.YtkpcolfbnkopkabSenN
import Derived.Test.YtkpcolfbnkopkabFnd
namespace Go.Proofs.Ytkpcolfbnkopkab.fnExactPackReading
open Go.ChangeShapes Go.WideShapes Go.ChangeAt Go.RowKit
set_option linter.unusedVariables false
set_option linter.unusedSimpArgs false

theorem own : ownKnob Try.prog.godebug = none := by kernel_rfl
theorem laidOut : laidOutB Try.prog = true := by kernel_rfl

set_option maxRecDepth 20000 in
set_option maxHeartbeats 32000000 in
theorem walk (a0 : Pl.Rd) (w0 : ∀ x ∈ [a0.pos, a0.vel], (Lit.int .i64 x).wf = true) (w : World) :
    Calls Try.prog 6 #[.agg #[.int .i64 a0.pos, .int .i64 a0.vel]] w fun e w' => e = .returned (.bool true) ∧ Below w.heap.size w w' := by
  obtain ⟨p, v⟩ := a0
  dsimp only at w0 ⊢
  have F0 : Hid (Blk (w.alloc (.cells #[.int .i64 p, .int .i64 v] 35)) w.heap.size [.int .i64 p, .int .i64 v]) := Blk.at_ w _ _ _ rfl
  have FB : Hid (Below w.heap.size w (w.alloc (.cells #[.int .i64 p, .int .i64 v] 35))) := (Below.refl _ _).alloc (Nat.le_refl _) _
  obtain ⟨K, V, CS, CI⟩ : ∃ K V : Int, (∀ W, Calls Try.prog 18 #[.agg #[.int .i64 p, .int .i64 v]] W fun e w' => e = .returned (.agg #[.int .i64 K, .int .i64 V]) ∧ Below W.heap.size W w') ∧ (∀ W, Calls Try.prog 20 #[.agg #[.int .i64 p, .int .i64 v]] W fun e w' => e = .returned (.agg #[.int .i64 K, .int .i64 V]) ∧ Below W.heap.size W w') := ⟨_, _, fun W => specPack_any p v W, fun W => implPack_any p v W⟩
  go_enter Try.func6, Try.ntmps6
  go_wp2_with (first | (go_at_call 19; (fail_if_success have := GX); refine (toReading_any p v _).mono ?_; rintro e w1 ⟨rfl, hb⟩; have F0 : Hid (Blk w1 w.heap.size [.int .i64 p, .int .i64 v]) := F0.out.below hb F0.out.lt; have FB : Hid (Below w.heap.size w w1) := FB.out.trans (hb.mono FB.out.size); have GX : Hid True := trivial; clear hb) | (go_at_call 18; refine (CS _).mono ?_; rintro e w2 ⟨rfl, hb⟩; have F0 : Hid (Blk w2 w.heap.size [.int .i64 p, .int .i64 v]) := F0.out.below hb F0.out.lt; have FB : Hid (Below w.heap.size w w2) := FB.out.trans (hb.mono FB.out.size); have u0 := F0.out.c 0 _ rfl; have u1 := F0.out.c 1 _ rfl; have hsz := F0.out.lt; clear hb) | (go_at_call 19; refine (toReading_any p v _).mono ?_; rintro e w3 ⟨rfl, hb⟩; have F1 : Hid (Blk w3 w2.heap.size [.int .i64 K, .int .i64 V]) := (Blk.at_ w2 #[.int .i64 K, .int .i64 V] _ _ rfl).below hb (by simp); have FB : Hid (Below w.heap.size w w3) := (FB.out.alloc FB.out.size _).trans (hb.mono (by have := FB.out.size; simp; omega)); clear hb u0 u1 hsz F0) | (go_at_call 20; refine (CI _).mono ?_; rintro e w4 ⟨rfl, hb⟩; have F1 : Hid (Blk w4 w2.heap.size [.int .i64 K, .int .i64 V]) := F1.out.below hb F1.out.lt; have FB : Hid (Below w.heap.size w w4) := FB.out.trans (hb.mono FB.out.size); have v0 := F1.out.c 0 _ rfl; have v1 := F1.out.c 1 _ rfl; have hsz := F1.out.lt; clear hb) | (go_at_call 11; refine (eqIntResult_same _ _ _).mono ?_; rintro e w9 ⟨rfl, rfl⟩))
  go_ret
  exact ⟨rfl, ((FB.out.alloc FB.out.size _).alloc (by have := FB.out.size; simp; omega) _).alloc (by have := FB.out.size; simp; omega) _⟩

set_option maxRecDepth 100000 in
theorem lifted (os : Os) (started : os.Started) (H : Type) (enc : TypeId × Value → H) :
    ReturnsInHanded {} Try.checked os 6 .any (Rows.fnExactPackReadingSpec.pre6 enc Try.prog Try.f6 Rows.fnExactPackReadingRow.domain false) (Rows.fnExactPackReadingSpec.post enc Try.prog Try.f6 false true false false) := by
  refine returnsInHanded_of_change (C := Try.checked) own started (by kernel_rfl) Try.func6
    (ChangeSpec.witness6 (enc := enc) (C := Try.checked) false ⟨#[], #[.agg #[.int .i64 0, .int .i64 0]], []⟩ 8 (by kernel_rfl) (by kernel_rfl) (by kernel_rfl) (by kernel_rfl)) ?_
  intro W base args ds gs before hval0 hW hcnd _
  have hval : ∀ (j : Nat) t v, Try.f6.params[j]? = some t → args[j]? = some v → Value.okWide Try.prog W .any base t v := hval0
  have hW' := hW
  obtain ⟨p, q, hA0, hV, rfl, hfz, hnd⟩ := hW
  have hA : DataW.TrodAll enc Try.prog W 0 (fun _ => true) true Try.f6.params.toList args.toList ds p := hA0
  rw [Try.params6] at hA hval
  obtain ⟨v0, vs0, d0, ds0, p0, q0, hargs, rfl, rfl, h0, r0⟩ := trodAll_cons hA
  obtain ⟨rfl, rfl, rfl⟩ := trodAll_nil r0
  obtain rfl : args = #[v0] := by cases args; simp_all
  obtain ⟨rfl, rfl⟩ := trodVars_none hV
  have k0 := h0
  have lt0 : ∀ x ∈ p0, x.block < W.heap.size := by obtain ⟨m, hm⟩ := k0; exact DataW.trod_lt m _ _ _ hm
  obtain ⟨xs0, hl0, rfl, w0⟩ := open_i64s Try.underlying35 Try.underlying2 (by kernel_rfl) (by kernel_rfl) (by kernel_rfl) (hval 0 35 v0 rfl rfl) h0
  obtain ⟨x0_0, x0_1, rfl⟩ := list2 hl0
  clear hA0 hval0
  refine (walk ⟨x0_0, x0_1⟩ w0 W).mono fun e W' ⟨he, bel⟩ => ?_
  subst he
  exact ⟨_, rfl, _, _, _, [], _, [], hW', trodAll_mk1 (shut_bool Try.underlying4 _), (trodAll_cons_mk (Below.trod laidOut (by kernel_rfl) (of_decide_eq_true (by kernel_rfl)) k0 bel lt0) trodAll_mk0), rfl, bel.frame _, fun h => by cases h⟩

theorem over : Rows.fnExactPackReadingRow.holds Try.pinned (OpenSpec.ofChange Rows.fnExactPackReadingSpec) :=
  OpenClaim.holds_of_wide 6 Try.f6 rfl rfl rfl rfl rfl rfl rfl ⟨rfl, rfl, rfl, rfl, rfl⟩ rfl rfl rfl rfl rfl (by kernel_rfl) Try.func6 (by kernel_rfl)
    (of_decide_eq_true (by kernel_rfl)) (by unfold Func.isWrapper; first | (rw [if_pos (by decide +kernel)]; kernel_rfl) | (rw [if_neg (by decide +kernel)]; exact ⟨rfl, rfl⟩))
    (fun os started H enc _ => lifted os started H enc)

theorem proved : Rows.FnExactPackReadingSaid := over
end Go.Proofs.Ytkpcolfbnkopkab.fnExactPackReading

namespace Go.Proofs.Ytkpcolfbnkopkab
theorem fnExactPackReading_holds : Rows.FnExactPackReadingSaid := fnExactPackReading.proved
#print axioms fnExactPackReading_holds
end Go.Proofs.Ytkpcolfbnkopkab
