/-
  At every house and every list of events FormatEvents answers as its model and leaves the list as it is. The library's tables of digits read as the program's text lays them (tied).
-/
import Derived.Test.YtbapfdoijjiomaaDoorRows
import Derived.WalkKit
import Derived.ProofKit
import Derived.OpenShut
import Derived.ChangeOld
import Derived.Below
import Derived.LaidMore
import Derived.MakeChecks
import Derived.Stop.Joined
import Derived.Stop.LaidErr
import Derived.Lib.LaidTab
import Derived.Lib.AppendIntMem
import Derived.SevenTiedAt
import Derived.Test.YtbapfdoijjiomaaDoorCards
import Derived.Test.YtbapfdoijjiomaaDoorTie
import Derived.Test.YtbapfdoijjiomaaDoorFmtI
import Derived.Test.YtbapfdoijjiomaaDoorEvX
import Derived.Test.YtbapfdoijjiomaaDoorFnd
namespace Go.Proofs.YtbapfdoijjiomaaDoor.fnExactFormatEvents
open Go.ChangeShapes Go.WideShapes Go.ChangeAt Go.RowKit
set_option linter.unusedVariables false
set_option linter.unusedSimpArgs false

theorem own : ownKnob Tryd.prog.godebug = none := by kernel_rfl
theorem laidOut : laidOutB Tryd.prog = true := by kernel_rfl

theorem tb_of {W : World} (h : laidMetH Tryd.prog Rows.fnExactFormatEventsRow.laid W) : Tb W := by
  rw [MakeChecks.laidMetH_plain _ _ _ (by kernel_rfl)] at h
  exact Lib.tabBelow_of_tabIs (Lib.tabIs_of_head (g := 0) (t := 79) (e := 60) (n := 20) (by kernel_rfl) (by kernel_rfl) Tryd.underlying79 Tryd.underlying60 (by kernel_rfl) (by kernel_rfl) h.tail.tail)
theorem door_met (os : Os) (args : Array Value) : laidMetH Tryd.prog Rows.fnExactFormatEventsRow.laid ((World.doorLaid Tryd.prog 400 os).forCall (fun _ _ => 0) ⟨#[], args, []⟩).memory :=
  laidMetH_of_parts3 (fuel := 8) (laidMet_of_run' 8 (by kernel_rfl) (by kernel_rfl)) (by kernel_rfl) (by kernel_rfl)

set_option maxRecDepth 20000 in
set_option maxHeartbeats 32000000 in
theorem walk (a0 : Pl.Hs) (a1 : List Pl.Ev) (w0 : ∀ x ∈ [a0.fl, a0.gp, a0.ln, a0.rf, a0.sp, a0.pu, a0.br, a0.dr, a0.lv, a0.dO, a0.ld, a0.qu], (Lit.int .i64 x).wf = true) (p1 : Option Addr) (n1 : Nat) (l1 : a1.length ≤ maxLen) (w : World) (q1 : EIn w w.heap.size p1 a1) (hT : Tb w) :
    Calls Tryd.prog 3 #[.agg #[.int .i64 a0.fl, .int .i64 a0.gp, .int .i64 a0.ln, .int .i64 a0.rf, .int .i64 a0.sp, .int .i64 a0.pu, .int .i64 a0.br, .int .i64 a0.dr, .int .i64 a0.lv, .int .i64 a0.dO, .int .i64 a0.ld, .int .i64 a0.qu], .slice p1 a1.length n1] w fun e w' => e = .returned (.bool true) ∧ Below w.heap.size w w' := by
  have HE : Hid (EIn w w.heap.size p1 a1) := q1
  have HTB : Hid (Tb w) := hT
  clear q1 w0 hT
  have F0 : Hid (Blk (w.alloc (.cells #[.int .i64 a0.fl, .int .i64 a0.gp, .int .i64 a0.ln, .int .i64 a0.rf, .int .i64 a0.sp, .int .i64 a0.pu, .int .i64 a0.br, .int .i64 a0.dr, .int .i64 a0.lv, .int .i64 a0.dO, .int .i64 a0.ld, .int .i64 a0.qu] 23)) w.heap.size [.int .i64 a0.fl, .int .i64 a0.gp, .int .i64 a0.ln, .int .i64 a0.rf, .int .i64 a0.sp, .int .i64 a0.pu, .int .i64 a0.br, .int .i64 a0.dr, .int .i64 a0.lv, .int .i64 a0.dO, .int .i64 a0.ld, .int .i64 a0.qu]) := Blk.at_ w _ _ _ rfl
  have FB : Hid (Below w.heap.size w (w.alloc (.cells #[.int .i64 a0.fl, .int .i64 a0.gp, .int .i64 a0.ln, .int .i64 a0.rf, .int .i64 a0.sp, .int .i64 a0.pu, .int .i64 a0.br, .int .i64 a0.dr, .int .i64 a0.lv, .int .i64 a0.dO, .int .i64 a0.ld, .int .i64 a0.qu] 23))) := (Below.refl _ _).alloc (Nat.le_refl _) _
  by_cases hl : a1.length ≤ 1048576
  case neg =>
    have hs : (if (1048576 : Int) < a1.length then (-1 : Int) else 1048576 - a1.length) = -1 := if_pos (by omega)
    go_enter Tryd.func3, Tryd.ntmps3
    go_wp2_with (go_at_call 4; refine (szEventS_any p1 a1.length n1 1048576 (by omega) (by omega) l1 _).mono ?_; rw [hs]; rintro e w' ⟨rfl, hw⟩; obtain rfl := hw.symm; clear hw)
    go_ret
    exact ⟨by simp, FB.out⟩
  have hs : (if (1048576 : Int) < a1.length then (-1 : Int) else 1048576 - a1.length) = 1048576 - a1.length := if_neg (by omega)
  have hs2 : ¬ ((1048576 : Int) - a1.length < 0) := by omega
  go_enter Tryd.func3, Tryd.ntmps3
  go_upto_region 5 with (go_at_call 4; refine (szEventS_any p1 a1.length n1 1048576 (by omega) (by omega) l1 _).mono ?_; rw [hs]; rintro e w' ⟨rfl, hw⟩; obtain rfl := hw.symm; clear hw)
  clear hs hs2
  go_upto_region 6 with (first | (refine load_blk 23 _ Tryd.underlying23 (by kernel_rfl) F0.out rfl rfl rfl ?_) | (go_at_call 6; refine (toHouse_any a0 _).mono ?_; rintro e w1 ⟨rfl, hb⟩; have F0 : Hid (Blk w1 w.heap.size [.int .i64 a0.fl, .int .i64 a0.gp, .int .i64 a0.ln, .int .i64 a0.rf, .int .i64 a0.sp, .int .i64 a0.pu, .int .i64 a0.br, .int .i64 a0.dr, .int .i64 a0.lv, .int .i64 a0.dO, .int .i64 a0.ld, .int .i64 a0.qu]) := F0.out.below hb F0.out.lt; have FB : Hid (Below w.heap.size w w1) := FB.out.trans (hb.mono FB.out.size); clear hb) | (go_at_call 7; refine (toEventS_any p1 n1 a1 hl _ ((HE.out.below FB.out (Nat.le_refl _)).mono FB.out.size)).mono ?_; rintro e w2 ⟨g1, rfl, ho, hb⟩; have Gg1 : Hid (OwE w2 w.heap.size g1 a1.length a1.length a1) := ho.base FB.out.size; have F0 : Hid (Blk w2 w.heap.size [.int .i64 a0.fl, .int .i64 a0.gp, .int .i64 a0.ln, .int .i64 a0.rf, .int .i64 a0.sp, .int .i64 a0.pu, .int .i64 a0.br, .int .i64 a0.dr, .int .i64 a0.lv, .int .i64 a0.dO, .int .i64 a0.ld, .int .i64 a0.qu]) := F0.out.below hb F0.out.lt; have FB : Hid (Below w.heap.size w w2) := FB.out.trans (hb.mono FB.out.size); clear hb; clear ho) | (go_at_call 5; refine (specFormat_any a0 a1 (some ⟨g1, 0, none⟩) a1.length hl (Nat.le_refl _) _ (Gg1.out.pin Gg1.out.bl.2)).mono ?_; rintro e w3 ⟨rfl, hb⟩; have F0 : Hid (Blk w3 w.heap.size [.int .i64 a0.fl, .int .i64 a0.gp, .int .i64 a0.ln, .int .i64 a0.rf, .int .i64 a0.sp, .int .i64 a0.pu, .int .i64 a0.br, .int .i64 a0.dr, .int .i64 a0.lv, .int .i64 a0.dO, .int .i64 a0.ld, .int .i64 a0.qu]) := F0.out.below hb F0.out.lt; have FB : Hid (Below w.heap.size w w3) := FB.out.trans (hb.mono FB.out.size); clear hb))
  go_upto_region 7 with (go_at_call 7; refine (toEventS_any p1 n1 a1 hl _ ((HE.out.below FB.out (Nat.le_refl _)).mono FB.out.size)).mono ?_; rintro e w4 ⟨g2, rfl, ho, hb⟩; have Gg2 : Hid (OwE w4 w.heap.size g2 a1.length a1.length a1) := ho.base FB.out.size; have F0 : Hid (Blk w4 w.heap.size [.int .i64 a0.fl, .int .i64 a0.gp, .int .i64 a0.ln, .int .i64 a0.rf, .int .i64 a0.sp, .int .i64 a0.pu, .int .i64 a0.br, .int .i64 a0.dr, .int .i64 a0.lv, .int .i64 a0.dO, .int .i64 a0.ld, .int .i64 a0.qu]) := F0.out.below hb F0.out.lt; have FB : Hid (Below w.heap.size w w4) := FB.out.trans (hb.mono FB.out.size); clear hb; clear ho)
  go_upto_region 10 with (first | (refine load_blk 23 _ Tryd.underlying23 (by kernel_rfl) F0.out rfl rfl rfl ?_) | (go_at_call 6; refine (toHouse_any a0 _).mono ?_; rintro e w5 ⟨rfl, hb⟩; have F0 : Hid (Blk w5 w.heap.size [.int .i64 a0.fl, .int .i64 a0.gp, .int .i64 a0.ln, .int .i64 a0.rf, .int .i64 a0.sp, .int .i64 a0.pu, .int .i64 a0.br, .int .i64 a0.dr, .int .i64 a0.lv, .int .i64 a0.dO, .int .i64 a0.ld, .int .i64 a0.qu]) := F0.out.below hb F0.out.lt; have FB : Hid (Below w.heap.size w w5) := FB.out.trans (hb.mono FB.out.size); have Gg2 : Hid (OwE w5 w.heap.size g2 a1.length a1.length a1) := Gg2.out.below hb Gg2.out.bl.2; clear hb) | (go_at_call 8; refine (implFormat_any a0 a1 (some ⟨g2, 0, none⟩) a1.length hl _ (Gg2.out.pin Gg2.out.bl.2) (HTB.out.below FB.out (Nat.le_refl _))).mono ?_; rintro e w6 ⟨rfl, hb⟩; have F0 : Hid (Blk w6 w.heap.size [.int .i64 a0.fl, .int .i64 a0.gp, .int .i64 a0.ln, .int .i64 a0.rf, .int .i64 a0.sp, .int .i64 a0.pu, .int .i64 a0.br, .int .i64 a0.dr, .int .i64 a0.lv, .int .i64 a0.dO, .int .i64 a0.ld, .int .i64 a0.qu]) := F0.out.below hb F0.out.lt; have FB : Hid (Below w.heap.size w w6) := FB.out.trans (hb.mono FB.out.size); have Gg2 : Hid (OwE w6 w.heap.size g2 a1.length a1.length a1) := Gg2.out.below hb Gg2.out.bl.2; clear hb))
  go_wp2_with (first | (go_at_call 7; refine (toEventS_any p1 n1 a1 hl _ ((HE.out.below FB.out (Nat.le_refl _)).mono FB.out.size)).mono ?_; rintro e w7 ⟨g3, rfl, ho, hb⟩; have Gg3 : Hid (OwE w7 w.heap.size g3 a1.length a1.length a1) := ho.base FB.out.size; have F0 : Hid (Blk w7 w.heap.size [.int .i64 a0.fl, .int .i64 a0.gp, .int .i64 a0.ln, .int .i64 a0.rf, .int .i64 a0.sp, .int .i64 a0.pu, .int .i64 a0.br, .int .i64 a0.dr, .int .i64 a0.lv, .int .i64 a0.dO, .int .i64 a0.ld, .int .i64 a0.qu]) := F0.out.below hb F0.out.lt; have FB : Hid (Below w.heap.size w w7) := FB.out.trans (hb.mono FB.out.size); have Gg2 : Hid (OwE w7 w.heap.size g2 a1.length a1.length a1) := Gg2.out.below hb Gg2.out.bl.2; clear hb; clear ho) | (go_at_call 9; refine (eqEventS_same (some ⟨g2, 0, none⟩) (some ⟨g3, 0, none⟩) a1.length a1.length a1 hl _ (Gg2.out.pin Gg2.out.bl.2) (Gg3.out.pin Gg3.out.bl.2)).mono ?_; rintro e w8 ⟨rfl, hb⟩; have F0 : Hid (Blk w8 w.heap.size [.int .i64 a0.fl, .int .i64 a0.gp, .int .i64 a0.ln, .int .i64 a0.rf, .int .i64 a0.sp, .int .i64 a0.pu, .int .i64 a0.br, .int .i64 a0.dr, .int .i64 a0.lv, .int .i64 a0.dO, .int .i64 a0.ld, .int .i64 a0.qu]) := F0.out.below hb F0.out.lt; have FB : Hid (Below w.heap.size w w8) := FB.out.trans (hb.mono FB.out.size); clear hb))
  go_ret
  exact ⟨by simp, FB.out⟩

set_option maxRecDepth 100000 in
theorem lifted (os : Os) (started : os.Started) (H : Type) (enc : TypeId × Value → H) :
    ReturnsInHanded {} Tryd.checked os 3 .any (fun w args => (Rows.fnExactFormatEventsSpec.pre enc Tryd.prog Tryd.f3 [] false w args ∧ laidMetH Tryd.prog Rows.fnExactFormatEventsRow.laid w) ∧ sizedMet enc Tryd.prog Tryd.f3 (OpenSpec.ofChange Rows.fnExactFormatEventsSpec) false w args) (Rows.fnExactFormatEventsSpec.post enc Tryd.prog Tryd.f3 false true false false) := by
  refine returnsInHanded_of_change_and (C := Tryd.checked) (X := (fun w _ => laidMetH Tryd.prog Rows.fnExactFormatEventsRow.laid w)) (fun _ _ _ hh h => h.of_heap hh) own started (by kernel_rfl) Tryd.func3
    (ChangeSpec.witness_shaped (enc := enc) (C := Tryd.checked) (os := os) (X := (fun w _ => laidMetH Tryd.prog Rows.fnExactFormatEventsRow.laid w)) false (World.doorLaid Tryd.prog 400 os) #[.agg #[.int .i64 0, .int .i64 0, .int .i64 0, .int .i64 0, .int .i64 0, .int .i64 0, .int .i64 0, .int .i64 0, .int .i64 0, .int .i64 0, .int .i64 0, .int .i64 0], .slice none 0 0] 8 rfl (World.shaped_of_RefB (by kernel_rfl) (by kernel_rfl)) (by kernel_rfl) (by kernel_rfl) (by kernel_rfl) (door_met os _)) ?_
  intro W base args ds gs before hval0 hW hcnd _ hL _
  have hval : ∀ (j : Nat) t v, Tryd.f3.params[j]? = some t → args[j]? = some v → Value.okWide Tryd.prog W .any base t v := hval0
  have hW' := hW
  obtain ⟨p, q, hA0, hV, rfl, hfz, hnd⟩ := hW
  have hA : DataW.TrodAll enc Tryd.prog W 0 (fun _ => true) true Tryd.f3.params.toList args.toList ds p := hA0
  rw [Tryd.params3] at hA hval
  obtain ⟨v0, vs0, d0, ds0, p0, q0, hargs, rfl, rfl, h0, r0⟩ := trodAll_cons hA
  obtain ⟨v1, vs1, d1, ds1, p1, q1, rfl, rfl, rfl, h1, r1⟩ := trodAll_cons r0
  obtain ⟨rfl, rfl, rfl⟩ := trodAll_nil r1
  obtain rfl : args = #[v0, v1] := by cases args; simp_all
  obtain ⟨rfl, rfl⟩ := trodVars_none hV
  have k0 := h0
  have lt0 : ∀ x ∈ p0, x.block < W.heap.size := by obtain ⟨m, hm⟩ := k0; exact DataW.trod_lt m _ _ _ hm
  obtain ⟨xs0, hl0, rfl, w0⟩ := open_i64s Tryd.underlying23 Tryd.underlying2 (by kernel_rfl) (by kernel_rfl) (by kernel_rfl) (hval 0 23 v0 rfl rfl) h0
  obtain ⟨x0_0, x0_1, x0_2, x0_3, x0_4, x0_5, x0_6, x0_7, x0_8, x0_9, x0_10, x0_11, rfl⟩ := list12 hl0
  have k1 := h1
  have lt1 : ∀ x ∈ p1, x.block < W.heap.size := by obtain ⟨m, hm⟩ := k1; exact DataW.trod_lt m _ _ _ hm
  obtain ⟨x1, pa1, nc1, rfl, ln1, pin1⟩ := open_evs (ts := 24) (te := 38) (k := 2) Tryd.underlying24 Tryd.underlying38 Tryd.underlying2 (by kernel_rfl) (by kernel_rfl) (by kernel_rfl) (hval 1 24 v1 rfl rfl) h1
  clear hA0 hval0
  refine (walk ⟨x0_0, x0_1, x0_2, x0_3, x0_4, x0_5, x0_6, x0_7, x0_8, x0_9, x0_10, x0_11⟩ x1 w0 pa1 nc1 ln1 W pin1 (tb_of hL)).mono fun e W' ⟨he, bel⟩ => ?_
  subst he
  exact ⟨_, rfl, _, _, _, [], _, [], hW', trodAll_mk1 (shut_bool Tryd.underlying4 _), (trodAll_cons_mk (Below.trod laidOut (by kernel_rfl) (of_decide_eq_true (by kernel_rfl)) k0 bel lt0) (trodAll_cons_mk (Below.trod laidOut (by kernel_rfl) (of_decide_eq_true (by kernel_rfl)) k1 bel lt1) trodAll_mk0)), rfl, bel.frame _, fun h => by cases h⟩

theorem over : Rows.fnExactFormatEventsRow.holds Tryd.pinned (OpenSpec.ofChange Rows.fnExactFormatEventsSpec) :=
  OpenClaim.holds_of_wide 3 Tryd.f3 rfl rfl rfl rfl rfl rfl rfl ⟨rfl, rfl, rfl, rfl, rfl⟩ rfl rfl rfl rfl rfl (by kernel_rfl) Tryd.func3 (by kernel_rfl)
    (of_decide_eq_true (by kernel_rfl)) (by unfold Func.isWrapper; first | (rw [if_pos (by decide +kernel)]; kernel_rfl) | (rw [if_neg (by decide +kernel)]; exact ⟨rfl, rfl⟩))
    (fun os started H enc _ => lifted os started H enc)

theorem proved : Rows.FnExactFormatEventsSaid := over
end Go.Proofs.YtbapfdoijjiomaaDoor.fnExactFormatEvents

namespace Go.Proofs.YtbapfdoijjiomaaDoor
theorem fnExactFormatEvents_holds : Rows.FnExactFormatEventsCardSaid :=
  Claim7.holds_tied_plain_at .later [] [.data, .data, .data] true (true, "063ce20b771a89ddfd3c37a75843b702d2cdd45a931cd058f91e2d730f2ece4e") false
    fnExactFormatEvents.over (fun _ h => by cases h) (by kernel_rfl) (fun _ h => by cases h) fnExactFormatEvents_row_tie rfl ⟨rfl, rfl⟩ (by kernel_rfl) rfl
    (fun f fn hf hfn => by
      obtain rfl : f = 3 := Option.some.inj ((show Tryd.prog.funcNamed "loop.example/g00155/laws.FnExactFormatEvents" = some 3 by kernel_rfl).symm.trans hf) |>.symm
      obtain rfl : fn = Tryd.f3 := (Option.some.inj (Tryd.func3.symm.trans hfn)).symm
      exact ⟨by kernel_rfl, fun j t ht => by
        rw [Tryd.params3] at ht
        have hm : t ∈ [23, 24] := by
          have := Array.mem_of_getElem? ht
          simp at this ⊢
          omega
        have hall : ([23, 24].all fun u => !Tryd.prog.wantsStandIn u) = true := by kernel_rfl
        exact (show Tryd.prog.wantsStandIn t = false by simpa using List.all_eq_true.1 hall t hm)⟩)
    (by kernel_rfl)
#print axioms fnExactFormatEvents_holds
end Go.Proofs.YtbapfdoijjiomaaDoor
