/-
  The mean of numbers, rounded up, is told by the program as the model tells it, at every list.
-/
import Derived.Test.YthfnphbgjfcdaaaRows
import Derived.WalkKit
import Derived.ProofKit
import Derived.OpenShut
import Derived.ChangeOld
import Derived.Below
import Derived.Test.YthfnphbgjfcdaaaFlyX
import Derived.Test.YthfnphbgjfcdaaaIntA
import Derived.Test.YthfnphbgjfcdaaaFnd
namespace Go.Proofs.Ythfnphbgjfcdaaa.fnExactMeanUp
open Go.ChangeShapes Go.WideShapes Go.ChangeAt Go.RowKit
set_option linter.unusedVariables false
set_option linter.unusedSimpArgs false

theorem own : ownKnob Try.prog.godebug = none := by kernel_rfl
theorem laidOut : laidOutB Try.prog = true := by kernel_rfl

set_option maxRecDepth 20000 in
set_option maxHeartbeats 32000000 in
theorem walk (a0 : List Int) (p0 : Option Addr) (n0 : Nat) (w0 : ∀ x ∈ a0, (Lit.int .i64 x).wf = true) (l0 : a0.length ≤ maxLen) (w : World) (q0 : AIn w w.heap.size p0 a0) :
    Calls Try.prog 6 #[.slice p0 a0.length n0] w fun e w' => e = .returned (.bool true) ∧ Below w.heap.size w w' := by
  by_cases hbig : 1048576 < a0.length
  · have d : decide ((1048576 : Int) < (a0.length : Int)) = true := decide_eq_true (by omega)
    go_enter Try.func6, Try.ntmps6
    go_wp2
    go_ret
    exact ⟨rfl, Below.refl _ _⟩
  · have d : decide ((1048576 : Int) < (a0.length : Int)) = false := decide_eq_false (by omega)
    have hl : a0.length ≤ 1048576 := by omega
    have HP : Hid (AIn w w.heap.size p0 a0) := q0
    have FB : Hid (Below w.heap.size w w) := Below.refl _ _
    clear q0 w0 l0
    obtain ⟨K, V, CS, CI⟩ : ∃ K V : Int, (∀ (W : World) (a : Option Addr) (cap : Nat), IIn W a a0 → Calls Try.prog 18 #[.slice a a0.length cap] W fun e w' => e = .returned (.agg #[.int .i64 K, .int .i64 V]) ∧ Below W.heap.size W w') ∧ (∀ (W : World) (a : Option Addr) (cap : Nat), IIn W a a0 → Calls Try.prog 19 #[.slice a a0.length cap] W fun e w' => e = .returned (.agg #[.int .i64 K, .int .i64 V]) ∧ Below W.heap.size W w') := ⟨_, _, fun W a cap h => specMeanUp_any a0 a cap hl W h, fun W a cap h => implMeanUp_any a0 a cap hl W h⟩
    go_enter Try.func6, Try.ntmps6
    go_upto_region 4 with (first | (go_at_call 13; refine (toInt64S_any p0 n0 a0 hl _ HP.out).mono ?_; rintro e v1 ⟨g1, rfl, ho, hb⟩; have O1 : Hid (IIn v1 (some ⟨g1, 0, none⟩) a0) := ho.iin; have FB : Hid (Below w.heap.size w v1) := FB.out.trans (hb.mono FB.out.size); clear hb ho) | (go_at_call 18; refine (CS _ _ _ O1.out).mono ?_; rintro e v2 ⟨rfl, hb⟩; have FB : Hid (Below w.heap.size w v2) := FB.out.trans (hb.mono FB.out.size); clear hb O1))
    obtain ⟨b1, hbb⟩ : ∃ b1, b1 = v2.heap.size := ⟨_, rfl⟩
    obtain ⟨v3, hw2⟩ : ∃ v3, v3 = v2.alloc (.cells #[.int .i64 K, .int .i64 V] 25) := ⟨_, rfl⟩
    have F1 : Hid (Blk v3 b1 [.int .i64 K, .int .i64 V]) := by rw [hw2]; exact Blk.at_ v2 #[.int .i64 K, .int .i64 V] _ _ hbb
    have FB : Hid (Below w.heap.size w v3) := by rw [hw2]; exact FB.out.alloc FB.out.size _
    rw [← hw2, ← hbb]
    clear hbb hw2
    go_upto_region 5 with (go_at_call 13; refine (toInt64S_any p0 n0 a0 hl _ ((HP.out.below FB.out (Nat.le_refl _)).mono FB.out.size)).mono ?_; rintro e v4 ⟨g2, rfl, ho, hb⟩; have O2 : Hid (OwI v4 v3.heap.size (.slice (some ⟨g2, 0, none⟩) a0.length a0.length) a0) := ho; have F1 : Hid (Blk v4 b1 [.int .i64 K, .int .i64 V]) := F1.out.below hb F1.out.lt; have FB : Hid (Below w.heap.size w v4) := FB.out.trans (hb.mono FB.out.size); clear hb ho)
    go_upto_region 6 with (go_at_call 19; refine (CI _ _ _ O2.out.iin).mono ?_; rintro e v5 ⟨rfl, hb⟩; have O2 : Hid (OwI v5 v3.heap.size (.slice (some ⟨g2, 0, none⟩) a0.length a0.length) a0) := O2.out.below hb (fun k hk => (O2.out.lt k hk).2); have F1 : Hid (Blk v5 b1 [.int .i64 K, .int .i64 V]) := F1.out.below hb F1.out.lt; have FB : Hid (Below w.heap.size w v5) := FB.out.trans (hb.mono FB.out.size); clear hb)
    obtain ⟨b2, hbb⟩ : ∃ b2, b2 = v5.heap.size := ⟨_, rfl⟩
    obtain ⟨v6, hw2⟩ : ∃ v6, v6 = v5.alloc (.cells #[.int .i64 K, .int .i64 V] 25) := ⟨_, rfl⟩
    have F1 : Hid (Blk v6 b1 [.int .i64 K, .int .i64 V]) := by rw [hw2]; exact F1.out.alloc _
    have O2 : Hid (OwI v6 v3.heap.size (.slice (some ⟨g2, 0, none⟩) a0.length a0.length) a0) := by rw [hw2]; exact O2.out.alloc _
    have F2 : Hid (Blk v6 b2 [.int .i64 K, .int .i64 V]) := by rw [hw2]; exact Blk.at_ v5 #[.int .i64 K, .int .i64 V] _ _ hbb
    have FB : Hid (Below w.heap.size w v6) := by rw [hw2]; exact FB.out.alloc FB.out.size _
    rw [← hw2, ← hbb]
    clear hbb hw2
    have c0 := F1.out.c 0 _ rfl
    have c1 := F1.out.c 1 _ rfl
    have c2 := F2.out.c 0 _ rfl
    have c3 := F2.out.c 1 _ rfl
    go_upto_region 8 with (go_at_call 11; refine (eqIntResult_same _ _ _).mono ?_; rintro e v7 ⟨rfl, hw⟩; have hb : Below v6.heap.size v6 v7 := (by rw [hw]; exact ((Below.refl _ _).alloc (Nat.le_refl _) _).alloc (by simp) _); have O2 : Hid (OwI v7 v3.heap.size (.slice (some ⟨g2, 0, none⟩) a0.length a0.length) a0) := O2.out.below hb (fun k hk => (O2.out.lt k hk).2); have FB : Hid (Below w.heap.size w v7) := FB.out.trans (hb.mono FB.out.size); clear hb hw)
    go_wp2_with (first | (go_at_call 13; refine (toInt64S_any p0 n0 a0 hl _ ((HP.out.below FB.out (Nat.le_refl _)).mono FB.out.size)).mono ?_; rintro e v8 ⟨g3, rfl, ho, hb⟩; have O3 : Hid (IIn v8 (some ⟨g3, 0, none⟩) a0) := ho.iin; have O2 : Hid (OwI v8 v3.heap.size (.slice (some ⟨g2, 0, none⟩) a0.length a0.length) a0) := O2.out.below hb (fun k hk => (O2.out.lt k hk).2); have FB : Hid (Below w.heap.size w v8) := FB.out.trans (hb.mono FB.out.size); clear hb ho) | (go_at_call 15; refine (eqInt64S_same _ _ _ _ a0 hl _ O2.out.iin O3.out).mono ?_; rintro e v9 ⟨rfl, hb⟩; have FB : Hid (Below w.heap.size w v9) := FB.out.trans (hb.mono FB.out.size); clear hb))
    go_ret
    exact ⟨rfl, FB.out⟩

set_option maxRecDepth 100000 in
theorem lifted (os : Os) (started : os.Started) (H : Type) (enc : TypeId × Value → H) :
    ReturnsInHanded {} Try.checked os 6 .any (Rows.fnExactMeanUpSpec.pre6 enc Try.prog Try.f6 Rows.fnExactMeanUpRow.domain false) (Rows.fnExactMeanUpSpec.post enc Try.prog Try.f6 false true false false) := by
  refine returnsInHanded_of_change (C := Try.checked) own started (by kernel_rfl) Try.func6
    (ChangeSpec.witness6 (enc := enc) (C := Try.checked) false ⟨#[], #[.slice none 0 0], []⟩ 8 (by kernel_rfl) (by kernel_rfl) (by kernel_rfl) (by kernel_rfl)) ?_
  intro W base args ds gs before hval0 hW hcnd _
  have hval : ∀ (j : Nat) t v, Try.f6.params[j]? = some t → args[j]? = some v → Value.okWide Try.prog W .any base t v := hval0
  have hW' := hW
  obtain ⟨p, q, hA0, hV, rfl, hfz, hnd⟩ := hW
  have hA : DataW.TrodAll enc Try.prog W 0 (fun _ => true) true Try.f6.params.toList args.toList ds p := hA0
  rw [Try.params6] at hA hval
  obtain ⟨v0, vs0, d0, ds0, p0, q0, hargs, rfl, rfl, h0, r0⟩ := trodAll_cons hA
  obtain ⟨rfl, rfl, rfl⟩ := trodAll_nil r0
  obtain rfl : args = #[v0] := by cases args; simp_all
  obtain ⟨rfl, rfl⟩ := trodVars_none hV
  have k0 := h0
  have lt0 : ∀ x ∈ p0, x.block < W.heap.size := by obtain ⟨m, hm⟩ := k0; exact DataW.trod_lt m _ _ _ hm
  obtain ⟨x0, pa0, nc0, rfl, w0, ln0, pin0⟩ := open_nums (ts := 31) (k := 2) Try.underlying31 Try.underlying2 (by kernel_rfl) (hval 0 31 v0 rfl rfl) h0
  clear hA0 hval0
  refine (walk x0 pa0 nc0 w0 ln0 W pin0).mono fun e W' ⟨he, bel⟩ => ?_
  subst he
  exact ⟨_, rfl, _, _, _, [], _, [], hW', trodAll_mk1 (shut_bool Try.underlying4 _), (trodAll_cons_mk (Below.trod laidOut (by kernel_rfl) (of_decide_eq_true (by kernel_rfl)) k0 bel lt0) trodAll_mk0), rfl, bel.frame _, fun h => by cases h⟩

theorem over : Rows.fnExactMeanUpRow.holds Try.pinned (OpenSpec.ofChange Rows.fnExactMeanUpSpec) :=
  OpenClaim.holds_of_wide 6 Try.f6 rfl rfl rfl rfl rfl rfl rfl ⟨rfl, rfl, rfl, rfl, rfl⟩ rfl rfl rfl rfl rfl (by kernel_rfl) Try.func6 (by kernel_rfl)
    (of_decide_eq_true (by kernel_rfl)) (by unfold Func.isWrapper; first | (rw [if_pos (by decide +kernel)]; kernel_rfl) | (rw [if_neg (by decide +kernel)]; exact ⟨rfl, rfl⟩))
    (fun os started H enc _ => lifted os started H enc)

theorem proved : Rows.FnExactMeanUpSaid := over
end Go.Proofs.Ythfnphbgjfcdaaa.fnExactMeanUp

namespace Go.Proofs.Ythfnphbgjfcdaaa
theorem fnExactMeanUp_holds : Rows.FnExactMeanUpSaid := fnExactMeanUp.proved
#print axioms fnExactMeanUp_holds
end Go.Proofs.Ythfnphbgjfcdaaa
