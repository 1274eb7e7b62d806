/-
  FreshShaft answers as the model at every house, and changes none.
-/
import Derived.Test.YtlncnfagamajiabRows
import Derived.WalkKit
import Derived.ProofKit
import Derived.OpenShut
import Derived.ChangeOld
import Derived.Below
import Derived.Test.YtlncnfagamajiabCarQ
import Derived.Test.YtlncnfagamajiabCarT
import Derived.Test.YtlncnfagamajiabOpenI
namespace Go.Proofs.Ytlncnfagamajiab.fnExactFreshShaft
open Go.ChangeShapes Go.WideShapes Go.ChangeAt Go.RowKit
set_option linter.unusedVariables false
set_option linter.unusedSimpArgs false

theorem own : ownKnob Try.prog.godebug = none := by kernel_rfl
theorem laidOut : laidOutB Try.prog = true := by kernel_rfl

set_option maxHeartbeats 2000000 in
theorem walk (a0 : Pl.Hs) (w0 : ∀ x ∈ [a0.fl, a0.gp, a0.ln, a0.rf, a0.sp, a0.pu, a0.br, a0.dr, a0.lv, a0.dO, a0.ld, a0.qu], (Lit.int .i64 x).wf = true) (w : World) :
    Calls Try.prog 4 #[.agg #[.int .i64 a0.fl, .int .i64 a0.gp, .int .i64 a0.ln, .int .i64 a0.rf, .int .i64 a0.sp, .int .i64 a0.pu, .int .i64 a0.br, .int .i64 a0.dr, .int .i64 a0.lv, .int .i64 a0.dO, .int .i64 a0.ld, .int .i64 a0.qu]] w fun e w' => e = .returned (.bool true) ∧ Below w.heap.size w w' := by
  have F0 : Hid (HAt (w.alloc (.cells #[.int .i64 a0.fl, .int .i64 a0.gp, .int .i64 a0.ln, .int .i64 a0.rf, .int .i64 a0.sp, .int .i64 a0.pu, .int .i64 a0.br, .int .i64 a0.dr, .int .i64 a0.lv, .int .i64 a0.dO, .int .i64 a0.ld, .int .i64 a0.qu] 23)) w.heap.size a0) := HAt.at_ w a0 _ _ (by simp)
  have FB : Hid (Below w.heap.size w (w.alloc (.cells #[.int .i64 a0.fl, .int .i64 a0.gp, .int .i64 a0.ln, .int .i64 a0.rf, .int .i64 a0.sp, .int .i64 a0.pu, .int .i64 a0.br, .int .i64 a0.dr, .int .i64 a0.lv, .int .i64 a0.dO, .int .i64 a0.ld, .int .i64 a0.qu] 23))) := ((Below.refl _ _).alloc (Nat.le_refl _) _)
  go_enter Try.func4, Try.ntmps4
  go_wp2_with (first | (go_at_call 8; have := FV; refine (toHouse_any a0 _).mono ?_; rintro e wt ⟨rfl, hb⟩; clear this; have FV : Hid (V7 wt ws.heap.size a0.fault (Hs.freshG a0)) := FV.out.below hb FV.out.lt; have F0 : Hid (HAt wt w.heap.size a0) := F0.out.below hb F0.out.lt; have FB : Hid (Below w.heap.size w wt) := FB.out.trans (hb.mono FB.out.size); obtain ⟨x0_0, x0_1, x0_2, x0_3, x0_4, x0_5, x0_6, x0_7, x0_8, x0_9, x0_10, x0_11⟩ := F0.out; clear hb) | (go_at_call 8; refine (toHouse_any a0 _).mono ?_; rintro e w1 ⟨rfl, hb⟩; have F0 : Hid (HAt w1 w.heap.size a0) := F0.out.below hb F0.out.lt; have FB : Hid (Below w.heap.size w w1) := FB.out.trans (hb.mono FB.out.size); obtain ⟨x0_0, x0_1, x0_2, x0_3, x0_4, x0_5, x0_6, x0_7, x0_8, x0_9, x0_10, x0_11⟩ := F0.out; clear hb) | (go_at_call 11; refine (specFreshShaft_all a0 _).mono ?_; rintro e ws ⟨rfl, hb⟩; have hsz := Nat.le_trans FB.out.size hb.size; have F0 : Hid (HAt (ws.alloc (.cells #[.int .i64 a0.fault, .int .i64 (Hs.freshG a0).lo.pos, .int .i64 (Hs.freshG a0).lo.vel, .int .i64 (Hs.freshG a0).lo.door, .int .i64 (Hs.freshG a0).up.pos, .int .i64 (Hs.freshG a0).up.vel, .int .i64 (Hs.freshG a0).up.door] 37)) w.heap.size a0) := (F0.out.below hb F0.out.lt).alloc _; have FV : Hid (V7 (ws.alloc (.cells #[.int .i64 a0.fault, .int .i64 (Hs.freshG a0).lo.pos, .int .i64 (Hs.freshG a0).lo.vel, .int .i64 (Hs.freshG a0).lo.door, .int .i64 (Hs.freshG a0).up.pos, .int .i64 (Hs.freshG a0).up.vel, .int .i64 (Hs.freshG a0).up.door] 37)) ws.heap.size a0.fault (Hs.freshG a0)) := V7.new ws _ _ _; have FB : Hid (Below w.heap.size w (ws.alloc (.cells #[.int .i64 a0.fault, .int .i64 (Hs.freshG a0).lo.pos, .int .i64 (Hs.freshG a0).lo.vel, .int .i64 (Hs.freshG a0).lo.door, .int .i64 (Hs.freshG a0).up.pos, .int .i64 (Hs.freshG a0).up.vel, .int .i64 (Hs.freshG a0).up.door] 37))) := (FB.out.trans (hb.mono FB.out.size)).alloc hsz _; obtain ⟨x0_0, x0_1, x0_2, x0_3, x0_4, x0_5, x0_6, x0_7, x0_8, x0_9, x0_10, x0_11⟩ := F0.out; clear hb) | (go_at_call 12; refine (implFreshShaft_all a0 _).mono ?_; rintro e wi ⟨rfl, hb⟩; have hsz2 := Nat.le_trans FB.out.size hb.size; have FV : Hid (V7 (wi.alloc (.cells #[.int .i64 a0.fault, .int .i64 (Hs.freshG a0).lo.pos, .int .i64 (Hs.freshG a0).lo.vel, .int .i64 (Hs.freshG a0).lo.door, .int .i64 (Hs.freshG a0).up.pos, .int .i64 (Hs.freshG a0).up.vel, .int .i64 (Hs.freshG a0).up.door] 37)) ws.heap.size a0.fault (Hs.freshG a0)) := (FV.out.below hb FV.out.lt).alloc _; have FG : Hid (V7 (wi.alloc (.cells #[.int .i64 a0.fault, .int .i64 (Hs.freshG a0).lo.pos, .int .i64 (Hs.freshG a0).lo.vel, .int .i64 (Hs.freshG a0).lo.door, .int .i64 (Hs.freshG a0).up.pos, .int .i64 (Hs.freshG a0).up.vel, .int .i64 (Hs.freshG a0).up.door] 37)) wi.heap.size a0.fault (Hs.freshG a0)) := V7.new wi _ _ _; have FB : Hid (Below w.heap.size w (wi.alloc (.cells #[.int .i64 a0.fault, .int .i64 (Hs.freshG a0).lo.pos, .int .i64 (Hs.freshG a0).lo.vel, .int .i64 (Hs.freshG a0).lo.door, .int .i64 (Hs.freshG a0).up.pos, .int .i64 (Hs.freshG a0).up.vel, .int .i64 (Hs.freshG a0).up.door] 37))) := (FB.out.trans (hb.mono FB.out.size)).alloc hsz2 _; obtain ⟨g0, g1, g2, g3, g4, g5, g6⟩ := FV.out; obtain ⟨u0_, u1_, u2_, u3_, u4_, u5_, u6_⟩ := FG.out; clear hb) | (go_at_call 13; refine (eqShaftResult_same a0.fault (Hs.freshG a0) _).mono ?_; rintro e w9 ⟨rfl, hb⟩; have FB : Hid (Below w.heap.size w w9) := FB.out.trans (hb.mono FB.out.size); clear hb))
  go_ret
  exact ⟨rfl, FB.out⟩

set_option maxRecDepth 100000 in
theorem lifted (os : Os) (started : os.Started) (H : Type) (enc : TypeId × Value → H) :
    ReturnsInHanded {} Try.checked os 4 .any (Rows.fnExactFreshShaftSpec.pre6 enc Try.prog Try.f4 Rows.fnExactFreshShaftRow.domain false) (Rows.fnExactFreshShaftSpec.post enc Try.prog Try.f4 false true false false) := by
  refine returnsInHanded_of_change (C := Try.checked) own started (by kernel_rfl) Try.func4
    (ChangeSpec.witness6 (enc := enc) (C := Try.checked) false ⟨#[], #[.agg #[.int .i64 0, .int .i64 0, .int .i64 0, .int .i64 0, .int .i64 0, .int .i64 0, .int .i64 0, .int .i64 0, .int .i64 0, .int .i64 0, .int .i64 0, .int .i64 0]], []⟩ 8 (by kernel_rfl) (by kernel_rfl) (by kernel_rfl) (by kernel_rfl)) ?_
  intro W base args ds gs before hval0 hW hcnd _
  have hval : ∀ (j : Nat) t v, Try.f4.params[j]? = some t → args[j]? = some v → Value.okWide Try.prog W .any base t v := hval0
  have hW' := hW
  obtain ⟨p, q, hA0, hV, rfl, hfz, hnd⟩ := hW
  have hA : DataW.TrodAll enc Try.prog W 0 (fun _ => true) true Try.f4.params.toList args.toList ds p := hA0
  rw [Try.params4] at hA hval
  obtain ⟨v0, vs0, d0, ds0, p0, q0, hargs, rfl, rfl, h0, r0⟩ := trodAll_cons hA
  obtain ⟨rfl, rfl, rfl⟩ := trodAll_nil r0
  obtain rfl : args = #[v0] := by cases args; simp_all
  obtain ⟨rfl, rfl⟩ := trodVars_none hV
  have k0 := h0
  have lt0 : ∀ x ∈ p0, x.block < W.heap.size := by obtain ⟨m, hm⟩ := k0; exact DataW.trod_lt m _ _ _ hm
  obtain ⟨xs0, hl0, rfl, w0⟩ := open_i64s Try.underlying23 Try.underlying2 (by kernel_rfl) (by kernel_rfl) (by kernel_rfl) (hval 0 23 v0 rfl rfl) h0
  obtain ⟨x0_0, x0_1, x0_2, x0_3, x0_4, x0_5, x0_6, x0_7, x0_8, x0_9, x0_10, x0_11, rfl⟩ := list12 hl0
  clear hA0 hval0
  refine (walk ⟨x0_0, x0_1, x0_2, x0_3, x0_4, x0_5, x0_6, x0_7, x0_8, x0_9, x0_10, x0_11⟩ w0 W).mono fun e W' ⟨he, bel⟩ => ?_
  subst he
  exact ⟨_, rfl, _, _, _, [], _, [], hW', trodAll_mk1 (shut_bool Try.underlying4 _), (trodAll_cons_mk (Below.trod laidOut (by kernel_rfl) (of_decide_eq_true (by kernel_rfl)) k0 bel lt0) trodAll_mk0), rfl, bel.frame _, fun h => by cases h⟩

theorem over : Rows.fnExactFreshShaftRow.holds Try.pinned (OpenSpec.ofChange Rows.fnExactFreshShaftSpec) :=
  OpenClaim.holds_of_wide 4 Try.f4 rfl rfl rfl rfl rfl rfl rfl ⟨rfl, rfl, rfl, rfl, rfl⟩ rfl rfl rfl rfl rfl (by kernel_rfl) Try.func4 (by kernel_rfl)
    (of_decide_eq_true (by kernel_rfl)) (by unfold Func.isWrapper; first | (rw [if_pos (by decide +kernel)]; kernel_rfl) | (rw [if_neg (by decide +kernel)]; exact ⟨rfl, rfl⟩))
    (fun os started H enc _ => lifted os started H enc)

theorem proved : Rows.FnExactFreshShaftSaid := over
end Go.Proofs.Ytlncnfagamajiab.fnExactFreshShaft

namespace Go.Proofs.Ytlncnfagamajiab
theorem fnExactFreshShaft_holds : Rows.FnExactFreshShaftSaid := fnExactFreshShaft.proved
#print axioms fnExactFreshShaft_holds
end Go.Proofs.Ytlncnfagamajiab
